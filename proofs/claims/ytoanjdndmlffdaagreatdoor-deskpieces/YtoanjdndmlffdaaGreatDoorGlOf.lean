import Derived.Test.YtoanjdndmlffdaaGreatDoorRows
import Derived.Test.YtoanjdndmlffdaaGreatDoorSiteK
import Derived.LaidHandle
import Derived.Stop.LaidErr
namespace Go.Proofs.YtoanjdndmlffdaaGreatDoor
theorem etGlobal : Tryz.prog.globalNamed "errors.errorType" = some 3 := by kernel_rfl
theorem rtCut : (Tryz.prog.cutTypes.find? (·.1 == "internal/reflectlite.rtype")).map (·.2) = some 312 := by kernel_rfl
theorem etOneRow : ((List.range 377).filter fun t => Tryz.prog.rowNamed t [101, 114, 114, 111, 114]) = [37] := by kernel_rfl
theorem typesSize : Tryz.prog.types.size = 377 := by kernel_rfl
theorem et_of {W : World} (h : handlesMet Tryz.prog [("errors.errorType", Rows.laid_errors_errorType)] W) : W.cell? ⟨3, 0, none⟩ = some (.iface 312 (.agg #[.pointer (some ⟨10, 37, none⟩)])) := by
  obtain ⟨name, u, ty, e1, e2, e3, e4, e5⟩ := h _ (List.mem_singleton.2 rfl)
  have en : name = [101, 114, 114, 111, 114] := (Option.some.inj e1).symm
  subst en
  obtain rfl := Option.some.inj (rtCut.symm.trans e2)
  have hm : ty ∈ (List.range 377).filter fun t => Tryz.prog.rowNamed t [101, 114, 114, 111, 114] := List.mem_filter.2 ⟨List.mem_range.2 (by rw [← typesSize]; exact e3), e4⟩
  rw [etOneRow] at hm
  obtain rfl := List.mem_singleton.1 hm
  have hh : typeHandle Tryz.prog 37 = .pointer (some ⟨10, 37, none⟩) := by kernel_rfl
  rw [hh] at e5
  simpa using World.var?_cell etGlobal e5 0
theorem iface_cell {P : Program} {W : World} {n nm : String} {d : DataW Unit} {r : List (String × DataW Unit)} {g : Nat} {ti : TypeId} {ms : Array (String × TypeId)} (h : laidMet P ((n, .iface nm d) :: r) W) (hg : P.globalNamed n = some g) (ht : (P.globals[g]?).map (·.type) = some ti) (hi : P.underlying ti = some (.interface ms)) : ∃ t p, W.cell? ⟨g, 0, none⟩ = some (.iface t p) := by
  obtain ⟨ps, ⟨g0, t0, cs0, f0, p0, q0, hg0, ht0, hv0, hd0, _, e0⟩, _⟩ := h
  obtain rfl := Option.some.inj (hg.symm.trans hg0)
  obtain rfl := Option.some.inj (ht.symm.trans ht0)
  obtain ⟨_, u, v, e, _⟩ := iface_of_trod hi hd0
  have := World.var?_cell hg0 hv0 0
  rw [Array.eq_one_of_toList e] at this
  exact ⟨u, v, by simpa using this⟩
theorem gl_of {W : World} (hp : ∃ r, laidMet Tryz.prog (("internal/strconv.uint64pow10", Rows.laid_internal_strconv_uint64pow10) :: r) W) (hr : ∃ r, laidMet Tryz.prog (("strconv.ErrRange", Rows.laid_strconv_ErrRange) :: ("strconv.ErrSyntax", Rows.laid_strconv_ErrSyntax) :: r) W) (h2 : handlesMet Tryz.prog [("errors.errorType", Rows.laid_errors_errorType)] W) (hs : W.ShapedOpen Tryz.prog) : Gl W := by
  obtain ⟨r1, hp⟩ := hp
  obtain ⟨r2, hr⟩ := hr
  have sz : ∃ o, W.heap[9]? = some o := by
    obtain ⟨cs, h, _⟩ := hs.1 9 (Array.replicate 64 (.int .u8 0)) 330 (of_decide_eq_true (by kernel_rfl)) (by kernel_rfl)
    exact ⟨_, h⟩
  obtain ⟨o, sz⟩ := sz
  have sz := (Array.getElem?_eq_some_iff.1 sz).1
  exact ⟨by omega, et_of h2, Lib.tabIs_of_head tab_named (by kernel_rfl) Tryz.underlying252 Tryz.underlying192 (by kernel_rfl) (by kernel_rfl) (zs := Lib.pow10Tab) hp, iface_cell hr.tail (by kernel_rfl) (by kernel_rfl) Tryz.underlying37, iface_cell hr (by kernel_rfl) (by kernel_rfl) Tryz.underlying37, cell_of_shapedOpen_int (t := 3) (zero := #[.int .i64 0]) hs (of_decide_eq_true (by kernel_rfl)) (by kernel_rfl) rfl (by kernel_rfl) (by kernel_rfl) Tryz.underlying3⟩
end Go.Proofs.YtoanjdndmlffdaaGreatDoor
