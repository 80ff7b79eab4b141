import Derived.KernelRfl
import Derived.Calls
set_option linter.defProp false
namespace Go.Proofs.YtbfkeoagmajcpaaGreatDoor
variable {p:Prop}
def oe (h:p:=by omega):p:=h
def oh (h:p:=by kernel_rfl):p:=h
def oi (h:p:=by simp):p:=h
def oj (h:p:=by decide):p:=h
def om (h:p:=by with_reducible rfl):p:=h
def oq (h:p:=by simp[qh]):p:=h
def ou (h:p:=by simp;omega):p:=h
def oy (h:p:=by repeat (first|(with_reducible exact jcc _ _)|(with_reducible refine boxed ?_ _)|(with_reducible refine jc6 ?_))):p:=h
def o6 (h:p:=by rw[c];rfl):p:=h
def o8 (h:p:=by simp[txZ]):p:=h
def oA (h:p:=by cases q):p:=h
def oB (h:p:=by rw[a];rfl):p:=h
def oD (h:p:=by unfold stepG.exec;simp only[g];rfl):p:=h
def oE (h:p:=by unfold stepG.exec;simp only[I];rfl):p:=h
def oF (h:p:=by simp[World.setCell]):p:=h
def oG (h:p:=by with_reducible assumption):p:=h
def oH (h:p:=by simp[yj]):p:=h
def oJ (h:p:=by cases e):p:=h
def oK (h:p:=by have:=HZ.out;omega):p:=h
def oL (h:p:=by simp only;omega):p:=h
def oM (h:p:=by simpa using h):p:=h
def oN (h:p:=by simp only[maxLen];omega):p:=h
def oO (h:p:=by rw[d];rfl):p:=h
def oP (h:p:=by injection e with e;exact e.symm):p:=h
def oQ (h:p:=by simp[Act.eval]):p:=h
def oS (h:p:=by simp[Value.ownBlock]):p:=h
def oU (h:p:=by simp at f ⊢;obtain e|e|e|e:=f<;>simp[e]):p:=h
def oV (h:p:=by simp[inB];omega):p:=h
def oY (h:p:=by simp at hi;omega):p:=h
def mg (h:p:=by simp[Act.eval,Act.put]):p:=h
def mh (h:p:=by simp[zo];omega):p:=h
def mi (h:p:=by rw[e];rfl):p:=h
def mj (h:p:=by assumption):p:=h
def mn (h:p:=by rw[IntKind.wrap_i64];omega):p:=h
def mq (h:p:=by trivial):p:=h
abbrev Wl:=World
abbrev Vl:=Value
abbrev By:=ByteArray
abbrev Av:=Array Value
abbrev Lv:=List Value
abbrev Np:=Nat->Prop
abbrev Wv:=World->Prop
abbrev Oa:=Option Addr
abbrev Gn:=Goroutine
abbrev Fm:=Frame
abbrev Tp:=TypeId
abbrev Fi:=FuncId
abbrev Pq:=Program
def mw:=@Array.getElem?_eq_some_iff
def my:=@Array.getElem?_eq_getElem
def mB:=@Array.getElem?_setIfInBounds_self_of_lt
def mC:=@Nat.le_refl
def mD:=@Array.getElem?_setIfInBounds_ne
def mF:=@Nat.zero_add
def mL:=@Option.map_eq_some_iff
def mM:=@Nat.lt_irrefl
def mN:=@Nat.lt_of_lt_of_le
def mO:=@Array.getD_eq_getD_getElem?
def mP:=@Classical.byContradiction
def mQ:=@Array.getElem?_eq_none
def mR:=@Option.some.inj
def mS:=@Array.mem_of_getElem?
def mT:=@List.mem_range
def mV:=@Array.append_empty
def mW:=@List.all_eq_true
def nj:=@List.length_append
def nk:=@Nat.le_of_eq
def nz:=@Nat.add_assoc
def nD:=@List.find?_eq_none
end Go.Proofs.YtbfkeoagmajcpaaGreatDoor
