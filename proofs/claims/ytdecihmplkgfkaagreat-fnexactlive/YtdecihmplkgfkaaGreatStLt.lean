/-
  slices.Sort over a row of strings that the call owns (the shelf's contract, laid at this dump).
-/
import Derived.Test.YtdecihmplkgfkaaGreatStLs
import Derived.Ground.NamesProg
import Derived.Shelf.Lay
namespace Go.Proofs
open Go.Shelf
shelf_lay Lays.n190 Nm 190 at Tryz as Tryz.laysSort
end Go.Proofs

namespace Go.Proofs.YtdecihmplkgfkaaGreat
open Go.ChangeShapes Go.WideShapes Go.ChangeAt Go.RowKit

set_option maxRecDepth 100000 in
theorem sort_own {w : World} {base : Nat} {v : Value} {vs : List ByteArray} (h : w.ownsRow base 9 1 v vs.length (vs.map Value.string)) (hl : vs.length ≤ 600) :
    Calls Tryz.prog 26 #[v] w fun e w' => e = .returned (.tuple #[]) ∧ w'.ownsRow base 9 1 v vs.length ((mergeB vs).map Value.string) ∧ w.grownBy w' v.ownBlock := by
  rcases h.2 with ⟨hv, h0⟩ | ⟨g, cap, cur, rfl, hbase, hb, h1, h2, h3, h4⟩
  · subst hv
    have hvs : vs = [] := List.eq_nil_of_length_eq_zero h0
    subst hvs
    refine (calls_of_every_depth fun D => AnyS.slices_Sort_string_none_alone Tryz.laysSort D none 0 w).mono ?_
    rintro e w' ⟨rfl, rfl⟩
    have e : mergeB [] = [] := by simp [mergeB]
    rw [e]
    exact ⟨rfl, h, grown_refl _ _⟩
  · have e0 : (vs.map (fun v => v.toList)).map encStr = vs.map Value.string := by
      rw [List.map_map]
      exact List.map_congr_left (fun x _ => congrArg Value.string (back_toL x))
    have hH : Sort.Holds encStr w g 0 (vs.map (fun v => v.toList)).toArray := holds_of_block hb (by rw [e0, List.length_map]; simpa using h4)
    have hc := calls_of_every_depth fun D => AnyS.slices_Sort_string_alone Tryz.laysSort D g 0 cap (vs.map (fun v => v.toList)) w hH (Array.getElem?_eq_some_iff.1 hb).1 (by simp; omega)
    rw [List.length_map] at hc
    refine hc.mono ?_
    rintro e w' ⟨rfl, n, os, rfl⟩
    refine ⟨rfl, ?_, grownBy_sorted _⟩
    have ho := ownsRow_sorted (n := n) (os := os) (ts := (vs.map (fun v => v.toList)).mergeSort (fun x y => decide (x ≤ y))) (ss := vs.map (fun v => v.toList)) (base := base) (cap := cap) (by simp) hbase hb (by simpa using h1) h2 h3
    rw [List.length_map] at ho
    have e1 : ((vs.map (fun v => v.toList)).mergeSort (fun x y => decide (x ≤ y))).map encStr = (mergeB vs).map Value.string := by
      unfold mergeB
      rw [List.map_map]
      rfl
    rw [← e1]
    exact ho

end Go.Proofs.YtdecihmplkgfkaaGreat
