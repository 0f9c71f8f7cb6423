/-
  The table of kinds, read off the row's list.
-/
import Derived.Test.YtdecihmplkgfkaaDoorEntRead
import Derived.Lib.LaidTab
namespace Go.Proofs.YtdecihmplkgfkaaDoor
open Go.ChangeShapes Go.WideShapes Go.ChangeAt Go.RowKit

theorem gKind : Tryd.prog.globalNamed "loop.example/kilnvault/impl.kindParts" = some 5 := by kernel_rfl
theorem gKindType : (Tryd.prog.globals[5]?).map (·.type) = some 121 := by kernel_rfl
theorem cParts : Tryd.prog.cellsOf 89 = 4 := by kernel_rfl
theorem cBool : Tryd.prog.cellsOf 4 = 1 := by kernel_rfl

theorem list4 {α : Type} {l : List α} (h : l.length = 4) : ∃ a b c d, l = [a, b, c, d] := by
  match l, h with
  | [a, b, c, d], _ => exact ⟨a, b, c, d, rfl⟩

theorem parts_cells {H : Type} {enc : TypeId × Value → H} {W : World} {base : Nat} {spare : Nat → Bool} {held : Bool} {fuel : Nat} {l : List Value} {p : List MemPlace} {a b c : Bool} {m : Int}
    (h : DataW.trod enc Tryd.prog W base spare held fuel 89 l = some (.agg [.lit (.bool a), .lit (.bool b), .lit (.bool c), .lit (.int .i64 m)], p)) : l = [.bool a, .bool b, .bool c, .int .i64 m] := by
  obtain ⟨xs, n0, _, hx, hl, hlen, hf⟩ := DataW.trod_struct Tryd.underlying89 h
  rw [cParts] at hl
  obtain ⟨v0, v1, v2, v3, rfl⟩ := list4 hl
  obtain ⟨x0, x1, x2, x3, rfl⟩ := list4 hlen
  have f0 : DataW.trod enc Tryd.prog W base spare held n0 4 [v0] = some x0 := by simpa [cBool] using hf 0 _ rfl
  have f1 : DataW.trod enc Tryd.prog W base spare held n0 4 [v1] = some x1 := by simpa [cBool] using hf 1 _ rfl
  have f2 : DataW.trod enc Tryd.prog W base spare held n0 4 [v2] = some x2 := by simpa [cBool] using hf 2 _ rfl
  have f3 : DataW.trod enc Tryd.prog W base spare held n0 3 [v3] = some x3 := by simpa [cInt] using hf 3 _ rfl
  obtain ⟨a', e0, rfl⟩ := DataW.trod_bool Tryd.underlying4 f0
  obtain ⟨b', e1, rfl⟩ := DataW.trod_bool Tryd.underlying4 f1
  obtain ⟨c', e2, rfl⟩ := DataW.trod_bool Tryd.underlying4 f2
  obtain ⟨m', e3, rfl, _⟩ := DataW.trod_int Tryd.underlying3 f3
  simp at e0 e1 e2 e3 hx
  obtain ⟨⟨rfl, rfl, rfl, rfl⟩, _⟩ := hx
  rw [e0, e1, e2, e3]

theorem tab_of_parts {W : World} {cs : Array Value} {fuel : Nat} {p : List MemPlace} (hvar : W.var? Tryd.prog "loop.example/kilnvault/impl.kindParts" = some cs)
    (hd : DataW.trod (fun _ => ()) Tryd.prog W 0 (fun _ => true) false fuel 121 cs.toList = some (Rows.laid_loop_example_kilnvault_impl_kindParts, p)) : Tab W := by
  obtain ⟨xs, n0, _, hx, hl, hlen, hf⟩ := DataW.trod_array Tryd.underlying121 hd
  rw [cParts] at hf
  have hx1 : xs.map (·.1) = _ := (DataW.agg.inj (Prod.mk.inj hx).1).symm
  intro k h1 h7
  have key : (xs.map (·.1))[k]? = some (.agg [.lit (.bool (kName k)), .lit (.bool (kSum k)), .lit (.bool (kThing k)), .lit (.int .i64 (kMost k))]) := by
    rw [hx1]
    match k, h1, h7 with
    | 1, _, _ => rfl
    | 2, _, _ => rfl
    | 3, _, _ => rfl
    | 4, _, _ => rfl
    | 5, _, _ => rfl
    | 6, _, _ => rfl
    | 7, _, _ => rfl
  rw [List.getElem?_map] at key
  obtain ⟨⟨yd, yp⟩, hy, hyd⟩ := Option.map_eq_some_iff.1 key
  simp only at hyd
  subst hyd
  have hk := hf k (by omega)
  rw [hy] at hk
  have hcs := parts_cells hk
  have at_ : ∀ j, j < 4 → W.cell? ⟨5, k * 4 + j, none⟩ = ([.bool (kName k), .bool (kSum k), .bool (kThing k), .int .i64 (kMost k)] : List Value)[j]? := by
    intro j hj
    rw [World.var?_cell gKind hvar, ← hcs, List.getElem?_take_of_lt hj, List.getElem?_drop]
    simp
  exact ⟨at_ 0 (by omega), at_ 1 (by omega), at_ 2 (by omega), at_ 3 (by omega)⟩

theorem tab_of {W : World} (h : laidMet Tryd.prog [("loop.example/kilnvault/impl.kindParts", Rows.laid_loop_example_kilnvault_impl_kindParts)] W) : Tab W := by
  obtain ⟨ps, ⟨g', t', cs, fuel, p, q, hg', ht', hvar, hd, _, _⟩, _⟩ := h
  obtain rfl := Option.some.inj (gKind.symm.trans hg')
  obtain rfl := Option.some.inj (gKindType.symm.trans ht')
  exact tab_of_parts hvar hd

end Go.Proofs.YtdecihmplkgfkaaDoor
