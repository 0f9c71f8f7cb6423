/-
  spec.Append where it refuses.
-/
import Derived.Test.YtdecihmplkgfkaaLogAp
import Derived.Test.YtdecihmplkgfkaaLogA
namespace Go.Proofs.Ytdecihmplkgfkaa
open Go.ChangeShapes Go.WideShapes Go.ChangeAt Go.RowKit
attribute [local go_sem ↓] Go.wp_at_zero Go.wp_at_succ

set_option maxRecDepth 20000 in
set_option maxHeartbeats 4000000 in
theorem sAppend_no (a b : Option Addr) (c d : Nat) (ss tt : List ByteArray) (en : ByteArray) (w : World) (hr : SRow w w.heap.size a ss) (hq : SRow w w.heap.size b tt) (hl : ss.length ≤ 1048576) (hl' : tt.length ≤ 1048576)
    (hs : ∀ s ∈ ss, s.size ≤ 1048576) (hs' : ∀ s ∈ tt, s.size ≤ 1048576) (hno : apCode ss tt en ≠ 0) :
    Calls Try.prog 39 #[.agg #[.slice a ss.length c, .slice b tt.length d], .string en] w fun e w' => e = .returned (.tuple #[.agg #[.slice none 0 0, .slice none 0 0], .int .i64 (apCode ss tt en)]) ∧ Below w.heap.size w w' := by
  have hbA : Below w.heap.size w ((w.alloc (.cells #[.slice a ss.length c, .slice b tt.length d] 40)).alloc (.cells #[.slice none 0 0, .slice none 0 0] 40)) := ((Below.refl _ _).alloc (Nat.le_refl _) _).alloc (by simp) _
  go_enter Try.func39, Try.ntmps39
  go_wp2_with fail
  refine (sValidLog_any _ _ c d ss tt _ _ (Nat.le_refl _) (hr.below' hbA) (hq.below' hbA) hl hl' hs hs').mono ?_
  rintro e w1 ⟨rfl, hb1⟩
  have hB1 := hbA.trans (hb1.mono (by simp; omega))
  have hz1' := hb1.size
  simp at hz1'
  have c0 : w1.cell? ⟨w.heap.size, 0, none⟩ = some (.slice a ss.length c) := by rw [hb1.cell (p := ⟨w.heap.size, 0, none⟩) (by simp; omega)]; simp [go_sem]
  have c1 : w1.cell? ⟨w.heap.size, 1, none⟩ = some (.slice b tt.length d) := by rw [hb1.cell (p := ⟨w.heap.size, 1, none⟩) (by simp; omega)]; simp [go_sem]
  have r0 : w1.cell? ⟨w.heap.size + 1, 0, none⟩ = some (.slice none 0 0) := by rw [hb1.cell (p := ⟨w.heap.size + 1, 0, none⟩) (by simp)]; simp [go_sem]
  have r1 : w1.cell? ⟨w.heap.size + 1, 1, none⟩ = some (.slice none 0 0) := by rw [hb1.cell (p := ⟨w.heap.size + 1, 1, none⟩) (by simp)]; simp [go_sem]
  have f0 : ∀ o, w1.frozen? ⟨w.heap.size + 1, o, none⟩ = false := fun o => by rw [hb1.frozen (p := ⟨w.heap.size + 1, o, none⟩) (by simp)]; simp [go_sem]
  clear hb1 hr hq hs hs'
  cases hok : okLog ss tt with
  | false =>
    have hc : apCode ss tt en = 1 := by simp [apCode, hok]
    go_wp2
    exact bodyPost_ret (v := .tuple #[.agg #[.slice none 0 0, .slice none 0 0], .int .i64 1]) (by simp [results, Try.results39, go_sem, r0, r1]) rfl ⟨by rw [hc], (hB1.setCell (p := ⟨w.heap.size + 1, 0, none⟩) (by simp) _).setCell (p := ⟨w.heap.size + 1, 1, none⟩) (by simp) _⟩
  | true =>
    by_cases he : en.size ≤ 5000
    · have hn : ss.length + tt.length = 4000 := by
        apply Classical.byContradiction; intro h; exact hno (by simp [apCode, hok, he, h])
      have hc : apCode ss tt en = 2 := by simp [apCode, hok, he, hn]
      have he' : decide ((5000 : Int) < (en.size : Int)) = false := by simp; omega
      have hne : decide ((4000 : Int) ≤ (ss.length : Int) + tt.length) = true := by simp; omega
      go_wp2
      exact bodyPost_ret (v := .tuple #[.agg #[.slice none 0 0, .slice none 0 0], .int .i64 2]) (by simp [results, Try.results39, go_sem, r0, r1]) rfl ⟨by rw [hc], (hB1.setCell (p := ⟨w.heap.size + 1, 0, none⟩) (by simp) _).setCell (p := ⟨w.heap.size + 1, 1, none⟩) (by simp) _⟩
    · have hc : apCode ss tt en = 1 := by simp [apCode, hok, he]
      have he' : decide ((5000 : Int) < (en.size : Int)) = true := by simp; omega
      go_wp2
      exact bodyPost_ret (v := .tuple #[.agg #[.slice none 0 0, .slice none 0 0], .int .i64 1]) (by simp [results, Try.results39, go_sem, r0, r1]) rfl ⟨by rw [hc], (hB1.setCell (p := ⟨w.heap.size + 1, 0, none⟩) (by simp) _).setCell (p := ⟨w.heap.size + 1, 1, none⟩) (by simp) _⟩

end Go.Proofs.Ytdecihmplkgfkaa
