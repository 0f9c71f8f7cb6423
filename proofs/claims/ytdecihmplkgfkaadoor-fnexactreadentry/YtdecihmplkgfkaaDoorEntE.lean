/-
  The reader's surroundings, read off a row's list: the table of kinds, the errors, errors.errorType.
-/
import Derived.Test.YtdecihmplkgfkaaDoorEntTab
import Derived.Test.YtdecihmplkgfkaaDoorEntT
import Derived.LaidHandle
namespace Go.Proofs.YtdecihmplkgfkaaDoor
open Go.ChangeShapes Go.WideShapes Go.ChangeAt Go.RowKit

theorem gErrTy : Tryd.prog.globalNamed "errors.errorType" = some 4 := by kernel_rfl
theorem rtRow : (Tryd.prog.cutTypes.find? (·.1 == "internal/reflectlite.rtype")).map (·.2) = some 127 := by kernel_rfl
theorem typesSize : Tryd.prog.types.size + 100 = 273 := by kernel_rfl
theorem errRow : ((List.range (273 - 100)).filter fun t => Tryd.prog.rowNamed t [101, 114, 114, 111, 114]) = [58] := by kernel_rfl

theorem ety_of {W : World} (h : handlesMet Tryd.prog [("errors.errorType", Rows.laid_errors_errorType)] W) : ErrTy W := by
  obtain ⟨name, u, ty, e1, e2, e3, e4, e5⟩ := h _ (List.mem_singleton.2 rfl)
  have en : name = [101, 114, 114, 111, 114] := (Option.some.inj e1).symm
  subst en
  obtain rfl := Option.some.inj (rtRow.symm.trans e2)
  have hm : ty ∈ (List.range (273 - 100)).filter fun t => Tryd.prog.rowNamed t [101, 114, 114, 111, 114] := List.mem_filter.2 ⟨List.mem_range.2 (by have := typesSize; omega), e4⟩
  rw [errRow] at hm
  obtain rfl := List.mem_singleton.1 hm
  have hh : typeHandle Tryd.prog 58 = .pointer (some ⟨8, 58, none⟩) := by kernel_rfl
  rw [hh] at e5
  unfold ErrTy
  simpa using World.var?_cell gErrTy e5 0

/-- A variable that holds an error. -/
theorem err_of {W : World} {nm : String} {g : Nat} {cs : Array Value} {fuel : Nat} {nd : String} {d : DataW Unit} {p : List MemPlace} (hg : Tryd.prog.globalNamed nm = some g) (hvar : W.var? Tryd.prog nm = some cs)
    (hd : DataW.trod (fun _ => ()) Tryd.prog W 0 (fun _ => true) false fuel 58 cs.toList = some (.iface nd d, p)) : ∃ t v, W.cell? ⟨g, 0, none⟩ = some (.iface t v) := by
  obtain ⟨_, u, v, hcs, _, _⟩ := iface_of_trod Tryd.underlying58 hd
  refine ⟨u, v, ?_⟩
  rw [World.var?_cell hg hvar]
  have : cs[0]? = cs.toList[0]? := by simp
  rw [this, hcs]
  rfl

theorem gWidth : Tryd.prog.globalNamed "loop.example/kilnvault/impl.errWidth" = some 0 ∧ (Tryd.prog.globals[0]?).map (·.type) = some 58 := ⟨by kernel_rfl, by kernel_rfl⟩
theorem gEKind : Tryd.prog.globalNamed "loop.example/kilnvault/impl.errKind" = some 1 ∧ (Tryd.prog.globals[1]?).map (·.type) = some 58 := ⟨by kernel_rfl, by kernel_rfl⟩
theorem gShort : Tryd.prog.globalNamed "loop.example/kilnvault/impl.errShort" = some 6 ∧ (Tryd.prog.globals[6]?).map (·.type) = some 58 := ⟨by kernel_rfl, by kernel_rfl⟩
theorem gThing : Tryd.prog.globalNamed "loop.example/kilnvault/impl.errThing" = some 7 ∧ (Tryd.prog.globals[7]?).map (·.type) = some 58 := ⟨by kernel_rfl, by kernel_rfl⟩
theorem gLong : Tryd.prog.globalNamed "loop.example/kilnvault/impl.errLong" = some 2 ∧ (Tryd.prog.globals[2]?).map (·.type) = some 58 := ⟨by kernel_rfl, by kernel_rfl⟩
theorem gParts : Tryd.prog.globalNamed "loop.example/kilnvault/impl.errParts" = some 3 ∧ (Tryd.prog.globals[3]?).map (·.type) = some 58 := ⟨by kernel_rfl, by kernel_rfl⟩

/-- The rows' list, without the handle. -/
def laidE : List (String × DataW Unit) :=
  [("loop.example/kilnvault/impl.kindParts", Rows.laid_loop_example_kilnvault_impl_kindParts), ("loop.example/kilnvault/impl.errWidth", Rows.laid_loop_example_kilnvault_impl_errWidth), ("loop.example/kilnvault/impl.errKind", Rows.laid_loop_example_kilnvault_impl_errKind), ("loop.example/kilnvault/impl.errShort", Rows.laid_loop_example_kilnvault_impl_errShort),
    ("loop.example/kilnvault/impl.errThing", Rows.laid_loop_example_kilnvault_impl_errThing), ("loop.example/kilnvault/impl.errLong", Rows.laid_loop_example_kilnvault_impl_errLong), ("loop.example/kilnvault/impl.errParts", Rows.laid_loop_example_kilnvault_impl_errParts)]

theorem env_of {W : World} (h : laidMet Tryd.prog laidE W) (hh : handlesMet Tryd.prog [("errors.errorType", Rows.laid_errors_errorType)] W) : Env W := by
  obtain ⟨ps, hv, _⟩ := h
  obtain ⟨g1, t1, c1, f1, p1, q1, hg1, ht1, hv1, hd1, r1, _⟩ := hv
  obtain ⟨g2, t2, c2, f2, p2, q2, hg2, ht2, hv2, hd2, r2, _⟩ := r1
  obtain ⟨g3, t3, c3, f3, p3, q3, hg3, ht3, hv3, hd3, r3, _⟩ := r2
  obtain ⟨g4, t4, c4, f4, p4, q4, hg4, ht4, hv4, hd4, r4, _⟩ := r3
  obtain ⟨g5, t5, c5, f5, p5, q5, hg5, ht5, hv5, hd5, r5, _⟩ := r4
  obtain ⟨g6, t6, c6, f6, p6, q6, hg6, ht6, hv6, hd6, r6, _⟩ := r5
  obtain ⟨g7, t7, c7, f7, p7, q7, hg7, ht7, hv7, hd7, r7, _⟩ := r6
  obtain rfl := Option.some.inj (gKind.symm.trans hg1)
  obtain rfl := Option.some.inj (gKindType.symm.trans ht1)
  obtain rfl := Option.some.inj (gWidth.1.symm.trans hg2)
  obtain rfl := Option.some.inj (gWidth.2.symm.trans ht2)
  obtain rfl := Option.some.inj (gEKind.1.symm.trans hg3)
  obtain rfl := Option.some.inj (gEKind.2.symm.trans ht3)
  obtain rfl := Option.some.inj (gShort.1.symm.trans hg4)
  obtain rfl := Option.some.inj (gShort.2.symm.trans ht4)
  obtain rfl := Option.some.inj (gThing.1.symm.trans hg5)
  obtain rfl := Option.some.inj (gThing.2.symm.trans ht5)
  obtain rfl := Option.some.inj (gLong.1.symm.trans hg6)
  obtain rfl := Option.some.inj (gLong.2.symm.trans ht6)
  obtain rfl := Option.some.inj (gParts.1.symm.trans hg7)
  obtain rfl := Option.some.inj (gParts.2.symm.trans ht7)
  refine ⟨tab_of_parts hv1 hd1, ety_of hh, ?_⟩
  intro g hg
  simp only [List.mem_cons, List.not_mem_nil, or_false] at hg
  rcases hg with rfl | rfl | rfl | rfl | rfl | rfl
  · exact err_of gWidth.1 hv2 hd2
  · exact err_of gEKind.1 hv3 hd3
  · exact err_of gLong.1 hv6 hd6
  · exact err_of gParts.1 hv7 hd7
  · exact err_of gShort.1 hv4 hd4
  · exact err_of gThing.1 hv5 hd5

end Go.Proofs.YtdecihmplkgfkaaDoor
