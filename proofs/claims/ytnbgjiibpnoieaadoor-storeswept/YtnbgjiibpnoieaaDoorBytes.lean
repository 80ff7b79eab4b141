/-
  The bytes of a number: seven bits a byte, the least ones first, 128 added to all but the last; no Go in sight. Which byte a cell holds.
-/
import Derived.WalkKit
namespace Go.Proofs.YtnbgjiibpnoieaaDoor

/-- one byte, as a string -/
def byteS (n : Int) : ByteArray := ⟨#[UInt8.ofNat n.toNat]⟩
/-- a number's bytes, at most f + 1 of them -/
def numS : Nat → Int → ByteArray
  | 0, n => byteS n
  | f + 1, n => if n < 128 then byteS n else byteS (n % 128 + 128) ++ numS f (n / 128)
/-- a cell that holds a byte -/
def isByte : Option Value → Bool
  | some (.int .u8 _) => true
  | _ => false
/-- .. and which one, as a string -/
def byteOf : Option Value → ByteArray
  | some (.int .u8 n) => byteS n
  | _ => ByteArray.empty
theorem isByte_some (n : Int) : isByte (some (.int .u8 n)) = true := rfl
theorem byteOf_some (n : Int) : byteOf (some (.int .u8 n)) = byteS n := rfl
theorem numS_lt {f : Nat} {n : Int} (h : n < 128) : numS f n = byteS n := by
  cases f with
  | zero => rfl
  | succ f => exact if_pos h
theorem numS_ge {f : Nat} {n : Int} (h : ¬ n < 128) : numS (f + 1) n = byteS (n % 128 + 128) ++ numS f (n / 128) := if_neg h
theorem byteS_size (n : Int) : (byteS n).size = 1 := rfl
theorem numS_size (f : Nat) (n : Int) : (numS f n).size ≤ f + 1 := by
  induction f generalizing n with
  | zero => exact Nat.le_refl 1
  | succ f ih =>
    by_cases h : n < 128
    · rw [numS_lt h, byteS_size]; omega
    · rw [numS_ge h, ByteArray.size_append, byteS_size]; have := ih (n / 128); omega
/-- two strings that are not long, one behind the other -/
theorem addS {P : Program} (a b : ByteArray) (h : a.size + b.size ≤ 1000000) (w : World) : (Op.stringOp .add a b).run P w = .ok (.string (a ++ b)) w :=
  run_string_add_sum w a b (by omega)

end Go.Proofs.YtnbgjiibpnoieaaDoor
