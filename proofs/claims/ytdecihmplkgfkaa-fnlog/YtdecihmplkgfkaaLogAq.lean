/-
  impl.Append where it refuses, and impl.Append as a whole.
-/
import Derived.Test.YtdecihmplkgfkaaLogAp
namespace Go.Proofs.Ytdecihmplkgfkaa
open Go.ChangeShapes Go.WideShapes Go.ChangeAt Go.RowKit
attribute [local go_sem ↓] Go.wp_at_zero Go.wp_at_succ

set_option maxRecDepth 20000 in
set_option maxHeartbeats 4000000 in
theorem iAppend_no (a b : Option Addr) (c d : Nat) (ss tt : List ByteArray) (en : ByteArray) (w : World) (hr : SRow w w.heap.size a ss) (hq : SRow w w.heap.size b tt) (hl : ss.length ≤ 1048576) (hl' : tt.length ≤ 1048576)
    (hs : ∀ s ∈ ss, s.size ≤ 1048576) (hs' : ∀ s ∈ tt, s.size ≤ 1048576) (hno : apCode ss tt en ≠ 0) :
    Calls Try.prog 40 #[.agg #[.slice a ss.length c, .slice b tt.length d], .string en] w fun e w' => e = .returned (.tuple #[.agg #[.slice none 0 0, .slice none 0 0], .int .i64 (apCode ss tt en)]) ∧ Below w.heap.size w w' := by
  have hbA : Below w.heap.size w ((w.alloc (.cells #[.slice a ss.length c, .slice b tt.length d] 40)).alloc (.cells #[.slice none 0 0, .slice none 0 0] 40)) := ((Below.refl _ _).alloc (Nat.le_refl _) _).alloc (by simp) _
  go_enter Try.func40, Try.ntmps40
  go_wp2_with fail
  refine (iValidLog_any a b c d ss tt _ (hr.below' hbA) (hq.below' hbA) hl hl' hs hs').mono ?_
  rintro e w1 ⟨rfl, hb1⟩
  have hB1 := hbA.trans (hb1.mono (by simp; omega))
  have hz1' := hb1.size
  simp at hz1'
  have c0 : w1.cell? ⟨w.heap.size, 0, none⟩ = some (.slice a ss.length c) := by rw [hb1.cell (p := ⟨w.heap.size, 0, none⟩) (by simp; omega)]; simp [go_sem]
  have c1 : w1.cell? ⟨w.heap.size, 1, none⟩ = some (.slice b tt.length d) := by rw [hb1.cell (p := ⟨w.heap.size, 1, none⟩) (by simp; omega)]; simp [go_sem]
  have r0 : w1.cell? ⟨w.heap.size + 1, 0, none⟩ = some (.slice none 0 0) := by rw [hb1.cell (p := ⟨w.heap.size + 1, 0, none⟩) (by simp)]; simp [go_sem]
  have r1 : w1.cell? ⟨w.heap.size + 1, 1, none⟩ = some (.slice none 0 0) := by rw [hb1.cell (p := ⟨w.heap.size + 1, 1, none⟩) (by simp)]; simp [go_sem]
  have f0 : ∀ o, w1.frozen? ⟨w.heap.size + 1, o, none⟩ = false := fun o => by rw [hb1.frozen (p := ⟨w.heap.size + 1, o, none⟩) (by simp)]; simp [go_sem]
  clear hb1 hr hq hs hs'
  cases hok : okLog ss tt with
  | false =>
    have hc : apCode ss tt en = 1 := by simp [apCode, hok]
    go_wp2
    exact bodyPost_ret (v := .tuple #[.agg #[.slice none 0 0, .slice none 0 0], .int .i64 1]) (by simp [results, Try.results40, go_sem, r0, r1]) rfl ⟨by rw [hc], (hB1.setCell (p := ⟨w.heap.size + 1, 0, none⟩) (by simp) _).setCell (p := ⟨w.heap.size + 1, 1, none⟩) (by simp) _⟩
  | true =>
    by_cases he : en.size ≤ 5000
    · have hn : ss.length + tt.length = 4000 := by
        apply Classical.byContradiction; intro h; exact hno (by simp [apCode, hok, he, h])
      have hc : apCode ss tt en = 2 := by simp [apCode, hok, he, hn]
      have he' : decide ((5000 : Int) < (en.size : Int)) = false := by simp; omega
      have HR : Hid _ := And.intro r0 (And.intro r1 f0)
      clear r0 r1 f0
      go_wp2_with fail
      refine (diskOf_any a b ss.length tt.length c d _).mono ?_
      rintro e w2 ⟨rfl, hb2⟩
      have hB2 := hB1.trans (hb2.mono hB1.size)
      have HR2 : Hid (w2.cell? ⟨w.heap.size + 1, 0, none⟩ = some (.slice none 0 0) ∧ w2.cell? ⟨w.heap.size + 1, 1, none⟩ = some (.slice none 0 0) ∧ ∀ o, w2.frozen? ⟨w.heap.size + 1, o, none⟩ = false) := ⟨(hb2.cell (p := ⟨w.heap.size + 1, 0, none⟩) (by simp; omega)).trans HR.out.1, (hb2.cell (p := ⟨w.heap.size + 1, 1, none⟩) (by simp; omega)).trans HR.out.2.1, fun o => (hb2.frozen (p := ⟨w.heap.size + 1, o, none⟩) (by simp; omega)).trans (HR.out.2.2 o)⟩
      have hz2' := hb2.size
      clear hb2 HR c0 c1
      go_wp2_with fail
      refine (count_any a b ss.length tt.length c d _ hl hl').mono ?_
      rintro e w3 ⟨rfl, hb3⟩
      have hB3 : Below w.heap.size w w3 := (hB2.alloc hB2.size _).trans (hb3.mono (by simp; omega))
      have hbb : Below w2.heap.size w2 w3 := ((Below.refl _ _).alloc (Nat.le_refl _) _).trans (hb3.mono (by simp))
      have q0 := (hbb.cell (p := ⟨w.heap.size + 1, 0, none⟩) (by simp; omega)).trans HR2.out.1
      have q1 := (hbb.cell (p := ⟨w.heap.size + 1, 1, none⟩) (by simp; omega)).trans HR2.out.2.1
      have qf : ∀ o, w3.frozen? ⟨w.heap.size + 1, o, none⟩ = false := fun o => (hbb.frozen (p := ⟨w.heap.size + 1, o, none⟩) (by simp; omega)).trans (HR2.out.2.2 o)
      have hne : ((ss.length : Int) + tt.length == 4000) = true := by simp; omega
      clear hb3 hbb HR2
      go_wp2
      exact bodyPost_ret (v := .tuple #[.agg #[.slice none 0 0, .slice none 0 0], .int .i64 2]) (by simp [results, Try.results40, go_sem, q0, q1]) rfl ⟨by rw [hc], (hB3.setCell (p := ⟨w.heap.size + 1, 0, none⟩) (by simp) _).setCell (p := ⟨w.heap.size + 1, 1, none⟩) (by simp) _⟩
    · have hc : apCode ss tt en = 1 := by simp [apCode, hok, he]
      have he' : decide ((5000 : Int) < (en.size : Int)) = true := by simp; omega
      go_wp2
      exact bodyPost_ret (v := .tuple #[.agg #[.slice none 0 0, .slice none 0 0], .int .i64 1]) (by simp [results, Try.results40, go_sem, r0, r1]) rfl ⟨by rw [hc], (hB1.setCell (p := ⟨w.heap.size + 1, 0, none⟩) (by simp) _).setCell (p := ⟨w.heap.size + 1, 1, none⟩) (by simp) _⟩

end Go.Proofs.Ytdecihmplkgfkaa
