/-
  impl.Sync.
-/
import Derived.Test.YtdecihmplkgfkaaLogD
namespace Go.Proofs.Ytdecihmplkgfkaa
open Go.ChangeShapes Go.WideShapes Go.ChangeAt Go.RowKit

set_option maxHeartbeats 1000000 in
theorem iSync_any (a b : Option Addr) (c d : Nat) (ss tt : List ByteArray) (w : World) (hr : SRow w w.heap.size a ss) (hq : SRow w w.heap.size b tt) (hl : ss.length ≤ 1048576) (hl' : tt.length ≤ 1048576)
    (hs : ∀ s ∈ ss, s.size ≤ 1048576) (hs' : ∀ s ∈ tt, s.size ≤ 1048576) (hd : tt.length ≤ d) :
    Calls Try.prog 34 #[.agg #[.slice a ss.length c, .slice b tt.length d]] w fun e w' => ∃ v, e = .returned (.agg #[v, .slice none 0 0]) ∧
      w'.ownsRow w.heap.size 9 1 v (crashL ss tt tt.length).length ((crashL ss tt tt.length).map Value.string) ∧ Below w.heap.size w w' := by
  have hbA : Below w.heap.size w ((w.alloc (.cells #[.slice a ss.length c, .slice b tt.length d] 40)).alloc (.cells #[.slice none 0 0, .slice none 0 0] 40)) := ((Below.refl _ _).alloc (Nat.le_refl _) _).alloc (by simp) _
  go_enter Try.func34, Try.ntmps34
  go_wp2_with fail
  refine (iCrash_any a b c d ss tt _ _ (hr.below' hbA) (hq.below' hbA) hl hl' hs hs' hd).mono ?_
  rintro e w1 ⟨v, rfl, ho, hb1⟩
  have hB1 := hbA.trans (hb1.mono (by simp; omega))
  have r0 : w1.cell? ⟨w.heap.size + 1, 0, none⟩ = some (.slice none 0 0) := by rw [hb1.cell (p := ⟨w.heap.size + 1, 0, none⟩) (by simp)]; simp
  have r1 : w1.cell? ⟨w.heap.size + 1, 1, none⟩ = some (.slice none 0 0) := by rw [hb1.cell (p := ⟨w.heap.size + 1, 1, none⟩) (by simp)]; simp
  have f0 : ∀ o, w1.frozen? ⟨w.heap.size + 1, o, none⟩ = false := fun o => by rw [hb1.frozen (p := ⟨w.heap.size + 1, o, none⟩) (by simp)]; simp [go_sem]
  have hv := Joins.ownsRow_forms ho
  have R := crash_fin hB1 (ho.mono (by simp))
  have HR : Hid _ := R
  clear R ho hb1 hr hq hs hs'
  rcases hv with ⟨rfl, hv⟩ | ⟨g, cap, rfl⟩
  · go_wp2
    exact bodyPost_ret (v := .agg #[.slice none 0 0, .slice none 0 0]) (by simp [results, Try.results34, go_sem, r0, r1]) rfl ⟨_, rfl, HR.out.1, HR.out.2⟩
  · go_wp2
    exact bodyPost_ret (v := .agg #[.slice (some ⟨g, 0, none⟩) (crashL ss tt tt.length).length cap, .slice none 0 0]) (by simp [results, Try.results34, go_sem, r0, r1]) rfl ⟨_, rfl, HR.out.1, HR.out.2⟩

end Go.Proofs.Ytdecihmplkgfkaa
