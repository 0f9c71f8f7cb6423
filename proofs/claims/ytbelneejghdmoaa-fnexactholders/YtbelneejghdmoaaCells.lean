/-
  Cells of a block from its beginning on, as a list, and what leaves them as they are.
-/
import Derived.Test.YtbelneejghdmoaaMarkS
import Derived.Maps.AppendAt
import Derived.Maps.Range
import Derived.Deep.AppendLies
namespace Go.Proofs.Ytbelneejghdmoaa
open Go.ChangeShapes Go.WideShapes Go.ChangeAt Go.RowKit

theorem sne {a b : Nat} (h : b < a) : some a ≠ some b := fun e => by have := Option.some.inj e; omega

theorem rd_grown (w : World) (g p : Nat) (v : Value) : w.grownBy (w.setCell ⟨g, p, none⟩ v) (some g) :=
  ⟨rfl, rfl, rfl, by simp, fun i _ hi => Below.heap_setCell _ _ _ _ (fun e => hi (by rw [e]))⟩

/-- Cells from a block's beginning on, that can be written. -/
def CellsAt (w : World) (B : Nat) (l : List Value) : Prop := ∀ j v, l[j]? = some v → w.cell? ⟨B, j, none⟩ = some v ∧ w.frozen? ⟨B, j, none⟩ = false

theorem CellsAt.lt {w : World} {B : Nat} {v : Value} {l : List Value} (h : CellsAt w B (v :: l)) : B < w.heap.size := World.block_lt_of_cell? w _ (h 0 v rfl).1

theorem CellsAt.far {w w' : World} {B b : Nat} {v : Value} {l : List Value} (h : CellsAt w B (v :: l)) (hg : w.grownBy w' (some b)) (hb : b < B) : CellsAt w' B (v :: l) := by
  intro j x hx
  have hl := h.lt
  exact ⟨(hg.cell_far ⟨B, j, none⟩ hl (sne hb)).trans (h j x hx).1, (hg.frozen_far ⟨B, j, none⟩ hl (sne hb)).trans (h j x hx).2⟩

theorem CellsAt.below {w w' : World} {B : Nat} {v : Value} {l : List Value} (h : CellsAt w B (v :: l)) (hb : Below w.heap.size w w') : CellsAt w' B (v :: l) := by
  intro j x hx
  have hl := h.lt
  exact ⟨(hb.cell (p := ⟨B, j, none⟩) hl).trans (h j x hx).1, (hb.frozen (p := ⟨B, j, none⟩) hl).trans (h j x hx).2⟩

theorem CellsAt.new (w : World) (l : List Value) (T : TypeId) : CellsAt (w.alloc (.cells l.toArray T)) w.heap.size l := by
  intro j v hv
  refine ⟨?_, by simp⟩
  rw [World.cell?_alloc_at _ _ _ _ rfl]
  simpa using hv

theorem CellsAt.far' {w w' : World} {B c : Nat} {v : Value} {l : List Value} (h : CellsAt w B (v :: l)) (hg : w.grownBy w' (some c)) (hc : c ≠ B) : CellsAt w' B (v :: l) := by
  intro j x hx
  have hl := h.lt
  have hn : some B ≠ some c := fun e => hc (Option.some.inj e).symm
  exact ⟨(hg.cell_far ⟨B, j, none⟩ hl hn).trans (h j x hx).1, (hg.frozen_far ⟨B, j, none⟩ hl hn).trans (h j x hx).2⟩

theorem CellsAt.set {w : World} {B : Nat} {l : List Value} (h : CellsAt w B l) (j : Nat) (v : Value) : CellsAt (w.setCell ⟨B, j, none⟩ v) B (l.set j v) := by
  intro i x hx
  by_cases hij : i = j
  · subst hij
    have hlt : i < l.length := by
      rcases Nat.lt_or_ge i l.length with h' | h'
      · exact h'
      · rw [List.getElem?_eq_none (by simpa using h')] at hx; cases hx
    rw [List.getElem?_set_self hlt] at hx
    injection hx with hx
    subst hx
    obtain ⟨h1, h2⟩ := h i _ (List.getElem?_eq_getElem hlt)
    exact ⟨by simp [go_sem, h1], by simpa [go_sem] using h2⟩
  · rw [List.getElem?_set_ne (fun e => hij e.symm)] at hx
    obtain ⟨h1, h2⟩ := h i x hx
    refine ⟨?_, by simpa [go_sem] using h2⟩
    rw [World.cell?_setCell_other _ _ _ _ (by intro e; injection e; omega)]
    exact h1

end Go.Proofs.Ytbelneejghdmoaa
