/-
  spec.Crash.
-/
import Derived.Test.YtdecihmplkgfkaaLogD
import Derived.Test.YtdecihmplkgfkaaLogA
import Derived.Deep.RegionLaw
namespace Go.Proofs.Ytdecihmplkgfkaa
open Go.ChangeShapes Go.WideShapes Go.ChangeAt Go.RowKit

set_option maxRecDepth 20000 in
set_option maxHeartbeats 4000000 in
theorem sCrash_any (g h c d : Nat) (ss tt : List ByteArray) (keep : Int) (w : World) (hr : SRow w w.heap.size (some ⟨g, 0, none⟩) ss) (hq : SRow w w.heap.size (some ⟨h, 0, none⟩) tt) (hl : ss.length ≤ 1048576) (hl' : tt.length ≤ 1048576)
    (hs : ∀ s ∈ ss, s.size ≤ 1048576) (hs' : ∀ s ∈ tt, s.size ≤ 1048576) (hd : tt.length ≤ d) :
    Calls Try.prog 37 #[.agg #[.slice (some ⟨g, 0, none⟩) ss.length c, .slice (some ⟨h, 0, none⟩) tt.length d], .int .i64 keep] w fun e w' => ∃ v, e = .returned (.agg #[v, .slice none 0 0]) ∧
      w'.ownsRow w.heap.size 9 1 v (crashL ss tt keep).length ((crashL ss tt keep).map Value.string) ∧ Below w.heap.size w w' := by
  obtain ⟨i0, hi, hz0, hz1, hz2⟩ := info_parts Try.infoStr
  have hbA : Below w.heap.size w ((w.alloc (.cells #[.slice (some ⟨g, 0, none⟩) ss.length c, .slice (some ⟨h, 0, none⟩) tt.length d] 40)).alloc (.cells #[.slice none 0 0, .slice none 0 0] 40)) := ((Below.refl _ _).alloc (Nat.le_refl _) _).alloc (by simp) _
  go_enter Try.func37, Try.ntmps37
  go_wp2_with fail
  refine (sValidLog_any _ _ c d ss tt _ _ (Nat.le_refl _) (hr.below' hbA) (hq.below' hbA) hl hl' hs hs').mono ?_
  rintro e w1 ⟨rfl, hb1⟩
  have hB1 := hbA.trans (hb1.mono (by simp; omega))
  have hz1' := hb1.size
  simp at hz1'
  have c0 : w1.cell? ⟨w.heap.size, 0, none⟩ = some (.slice (some ⟨g, 0, none⟩) ss.length c) := by rw [hb1.cell (p := ⟨w.heap.size, 0, none⟩) (by simp; omega)]; simp
  have c1 : w1.cell? ⟨w.heap.size, 1, none⟩ = some (.slice (some ⟨h, 0, none⟩) tt.length d) := by rw [hb1.cell (p := ⟨w.heap.size, 1, none⟩) (by simp; omega)]; simp
  have r0 : w1.cell? ⟨w.heap.size + 1, 0, none⟩ = some (.slice none 0 0) := by rw [hb1.cell (p := ⟨w.heap.size + 1, 0, none⟩) (by simp)]; simp
  have r1 : w1.cell? ⟨w.heap.size + 1, 1, none⟩ = some (.slice none 0 0) := by rw [hb1.cell (p := ⟨w.heap.size + 1, 1, none⟩) (by simp)]; simp
  have f0 : ∀ o, w1.frozen? ⟨w.heap.size + 1, o, none⟩ = false := fun o => by rw [hb1.frozen (p := ⟨w.heap.size + 1, o, none⟩) (by simp)]; simp [go_sem]
  clear hb1
  cases hok : okLog ss tt with
  | false =>
    go_wp2
    refine bodyPost_ret (v := .agg #[.slice none 0 0, .slice none 0 0]) (by simp [results, Try.results37, go_sem, r0, r1]) rfl ⟨.slice none 0 0, rfl, ?_, ?_⟩
    · simp only [crashL, hok]; exact World.ownsRow_nil _ _ _ _
    · exact (hB1.setCell (p := ⟨w.heap.size + 1, 0, none⟩) (by simp) _).setCell (p := ⟨w.heap.size + 1, 1, none⟩) (by simp) _
  | true =>
    have hBA : Below w.heap.size w (w1.alloc (.cells #[] 9)) := hB1.alloc hB1.size _
    have a0 : (w1.alloc (.cells #[] 9)).cell? ⟨w.heap.size, 0, none⟩ = some (.slice (some ⟨g, 0, none⟩) ss.length c) := by rw [((Below.refl w1.heap.size w1).alloc (Nat.le_refl _) _).cell (p := ⟨w.heap.size, 0, none⟩) (by simp; omega)]; exact c0
    have a1 : (w1.alloc (.cells #[] 9)).cell? ⟨w.heap.size, 1, none⟩ = some (.slice (some ⟨h, 0, none⟩) tt.length d) := by rw [((Below.refl w1.heap.size w1).alloc (Nat.le_refl _) _).cell (p := ⟨w.heap.size, 1, none⟩) (by simp; omega)]; exact c1
    have b0 : (w1.alloc (.cells #[] 9)).cell? ⟨w.heap.size + 1, 0, none⟩ = some (.slice none 0 0) := by rw [((Below.refl w1.heap.size w1).alloc (Nat.le_refl _) _).cell (p := ⟨w.heap.size + 1, 0, none⟩) (by simp; omega)]; exact r0
    have b1 : (w1.alloc (.cells #[] 9)).cell? ⟨w.heap.size + 1, 1, none⟩ = some (.slice none 0 0) := by rw [((Below.refl w1.heap.size w1).alloc (Nat.le_refl _) _).cell (p := ⟨w.heap.size + 1, 1, none⟩) (by simp; omega)]; exact r1
    have g0 : ∀ o, (w1.alloc (.cells #[] 9)).frozen? ⟨w.heap.size + 1, o, none⟩ = false := fun o => by rw [((Below.refl w1.heap.size w1).alloc (Nat.le_refl _) _).frozen (p := ⟨w.heap.size + 1, o, none⟩) (by simp; omega)]; exact f0 o
    have hrA := (hr.below hBA).cells
    have hoA : (w1.alloc (.cells #[] 9)).ownsRow (w.heap.size + 2) 9 1 (.slice (some ⟨w1.heap.size, 0, none⟩) 0 0) 0 (([] : List ByteArray).map Value.string) := World.ownsRow_lit w1 #[] 0 (by omega) (by unfold maxLen; omega) rfl
    by_cases h1 : (tt.length : Int) < keep
    · have hk0 : ¬ keep < 0 := by omega
      have hcl : crashL ss tt keep = ss ++ tt.take (tt.length) := by simp only [crashL, hok, if_true]; rw [show (min (max keep 0) (tt.length : Int)).toNat = tt.length from by omega]
      have hTl : (tt.take (tt.length)).length = tt.length := by rw [List.length_take]; omega
      have hq' : SRow w w.heap.size (some ⟨h, 0, none⟩) (tt.take (tt.length)) := hq.take (tt.length)
      have HA : Hid _ := And.intro hrA hoA
      have HCL : Hid _ := hcl
      have HTL : Hid _ := hTl
      clear hrA hoA hcl hTl hr hq hs hs' r0 r1 f0
      go_wp2
      go_region_law (first
        | (refine step_append_row _ rfl (.tmp 19) (.tmp 21) 24 rfl (w.heap.size + 2) 9 i0 (.string ⟨#[]⟩) 16 Try.underlying24 hi hz0 hz1 hz2 rfl w1.heap.size 0 0 [] rfl (by exact HA.out.2) ⟨g, 0, none⟩ ss.length c ss rfl rfl (by exact HA.out.1) (by unfold maxLen; omega) (by omega) (by simp; omega) ?_; intro k3 cap3 w3 ho3 hg3; simp only [Nat.zero_add, List.nil_append] at ho3; have hz3 := hg3.size; have l1 := hg3.cell (a := ⟨w.heap.size, 1, none⟩) (by exact a1) (by simp; omega); have q0 := hg3.cell (a := ⟨w.heap.size + 1, 0, none⟩) (by exact b0) (by simp; omega); have q1 := hg3.cell (a := ⟨w.heap.size + 1, 1, none⟩) (by exact b1) (by simp; omega); have qf : ∀ o, w3.frozen? ⟨w.heap.size + 1, o, none⟩ = false := fun o => (hg3.frozen_far ⟨w.heap.size + 1, o, none⟩ (by simp; omega) (by simp; omega)).trans (g0 o); have hB3 := hBA.drew.grown hg3 (by simp; omega) (fun k hk => by cases hk; omega); have hz3' := hB3.size; have hk3 := (ho3.lt k3 rfl).1)
        | (refine step_append_row _ rfl (.tmp 22) (.tmp 26) 24 rfl (w.heap.size + 2) 9 i0 (.string ⟨#[]⟩) 16 Try.underlying24 hi hz0 hz1 hz2 rfl k3 ss.length cap3 ss rfl ho3 ⟨h, 0, none⟩ (tt.length) d (tt.take (tt.length)) rfl HTL.out (hq'.below hB3).cells (by unfold maxLen; omega) (by omega) (by simp at hz3; omega) ?_; intro k4 cap4 w4 ho4 hg4; have hz4 := hg4.size; have p0 := hg4.cell (a := ⟨w.heap.size + 1, 0, none⟩) q0 (by simp; omega); have p1 := hg4.cell (a := ⟨w.heap.size + 1, 1, none⟩) q1 (by simp; omega); have pf : ∀ o, w4.frozen? ⟨w.heap.size + 1, o, none⟩ = false := fun o => (hg4.frozen_far ⟨w.heap.size + 1, o, none⟩ (by simp at hz3; simp; omega) (by simp; omega)).trans (qf o); have hB4 := hB3.grown hg4 (by omega) (fun k hk => by cases hk; omega)))
      all_goals
        have R := crash_fin (L := ss ++ tt.take (tt.length)) hB4 (by rw [List.length_append, HTL.out]; exact ho4)
        have HR : Hid _ := R
        clear R ho3 ho4 hg3 hg4 hq' HA
        go_wp2
        refine bodyPost_ret (v := .agg #[.slice (some ⟨k4, 0, none⟩) (ss.length + (tt.length)) cap4, .slice none 0 0]) (by simp [results, Try.results37, go_sem, p0, p1]) rfl ⟨_, rfl, ?_, HR.out.2⟩
        rw [HCL.out]
        exact HR.out.1
    · by_cases h2 : keep < 0
      · have hk0 : ¬ (tt.length : Int) < 0 := by omega
        have hcl : crashL ss tt keep = ss ++ tt.take (0) := by simp only [crashL, hok, if_true]; rw [show (min (max keep 0) (tt.length : Int)).toNat = 0 from by omega]
        have hTl : (tt.take (0)).length = 0 := by rw [List.length_take]; omega
        have hq' : SRow w w.heap.size (some ⟨h, 0, none⟩) (tt.take (0)) := hq.take (0)
        have HA : Hid _ := And.intro hrA hoA
        have HCL : Hid _ := hcl
        have HTL : Hid _ := hTl
        clear hrA hoA hcl hTl hr hq hs hs' r0 r1 f0
        go_wp2
        go_region_law (first
          | (refine step_append_row _ rfl (.tmp 19) (.tmp 21) 24 rfl (w.heap.size + 2) 9 i0 (.string ⟨#[]⟩) 16 Try.underlying24 hi hz0 hz1 hz2 rfl w1.heap.size 0 0 [] rfl (by exact HA.out.2) ⟨g, 0, none⟩ ss.length c ss rfl rfl (by exact HA.out.1) (by unfold maxLen; omega) (by omega) (by simp; omega) ?_; intro k3 cap3 w3 ho3 hg3; simp only [Nat.zero_add, List.nil_append] at ho3; have hz3 := hg3.size; have l1 := hg3.cell (a := ⟨w.heap.size, 1, none⟩) (by exact a1) (by simp; omega); have q0 := hg3.cell (a := ⟨w.heap.size + 1, 0, none⟩) (by exact b0) (by simp; omega); have q1 := hg3.cell (a := ⟨w.heap.size + 1, 1, none⟩) (by exact b1) (by simp; omega); have qf : ∀ o, w3.frozen? ⟨w.heap.size + 1, o, none⟩ = false := fun o => (hg3.frozen_far ⟨w.heap.size + 1, o, none⟩ (by simp; omega) (by simp; omega)).trans (g0 o); have hB3 := hBA.drew.grown hg3 (by simp; omega) (fun k hk => by cases hk; omega); have hz3' := hB3.size; have hk3 := (ho3.lt k3 rfl).1)
          | (refine step_append_row _ rfl (.tmp 22) (.tmp 26) 24 rfl (w.heap.size + 2) 9 i0 (.string ⟨#[]⟩) 16 Try.underlying24 hi hz0 hz1 hz2 rfl k3 ss.length cap3 ss rfl ho3 ⟨h, 0, none⟩ (0) d (tt.take (0)) rfl HTL.out (hq'.below hB3).cells (by unfold maxLen; omega) (by omega) (by simp at hz3; omega) ?_; intro k4 cap4 w4 ho4 hg4; have hz4 := hg4.size; have p0 := hg4.cell (a := ⟨w.heap.size + 1, 0, none⟩) q0 (by simp; omega); have p1 := hg4.cell (a := ⟨w.heap.size + 1, 1, none⟩) q1 (by simp; omega); have pf : ∀ o, w4.frozen? ⟨w.heap.size + 1, o, none⟩ = false := fun o => (hg4.frozen_far ⟨w.heap.size + 1, o, none⟩ (by simp at hz3; simp; omega) (by simp; omega)).trans (qf o); have hB4 := hB3.grown hg4 (by omega) (fun k hk => by cases hk; omega)))
        all_goals
          have R := crash_fin (L := ss ++ tt.take (0)) hB4 (by rw [List.length_append, HTL.out]; exact ho4)
          have HR : Hid _ := R
          clear R ho3 ho4 hg3 hg4 hq' HA
          go_wp2
          refine bodyPost_ret (v := .agg #[.slice (some ⟨k4, 0, none⟩) (ss.length + (0)) cap4, .slice none 0 0]) (by simp [results, Try.results37, go_sem, p0, p1]) rfl ⟨_, rfl, ?_, HR.out.2⟩
          rw [HCL.out]
          exact HR.out.1
      · have hk0 : 0 ≤ keep := by omega
        have hk1 : keep ≤ tt.length := by omega
        have hk2 : keep.toNat ≤ tt.length := by omega
        have hk3 : keep ≤ d := by omega
        have hcl : crashL ss tt keep = ss ++ tt.take (keep.toNat) := by simp only [crashL, hok, if_true]; rw [show (min (max keep 0) (tt.length : Int)).toNat = keep.toNat from by omega]
        have hTl : (tt.take (keep.toNat)).length = keep.toNat := by rw [List.length_take]; omega
        have hq' : SRow w w.heap.size (some ⟨h, 0, none⟩) (tt.take (keep.toNat)) := hq.take (keep.toNat)
        have HA : Hid _ := And.intro hrA hoA
        have HCL : Hid _ := hcl
        have HTL : Hid _ := hTl
        clear hrA hoA hcl hTl hr hq hs hs' r0 r1 f0
        go_wp2
        go_region_law (first
          | (refine step_append_row _ rfl (.tmp 19) (.tmp 21) 24 rfl (w.heap.size + 2) 9 i0 (.string ⟨#[]⟩) 16 Try.underlying24 hi hz0 hz1 hz2 rfl w1.heap.size 0 0 [] rfl (by exact HA.out.2) ⟨g, 0, none⟩ ss.length c ss rfl rfl (by exact HA.out.1) (by unfold maxLen; omega) (by omega) (by simp; omega) ?_; intro k3 cap3 w3 ho3 hg3; simp only [Nat.zero_add, List.nil_append] at ho3; have hz3 := hg3.size; have l1 := hg3.cell (a := ⟨w.heap.size, 1, none⟩) (by exact a1) (by simp; omega); have q0 := hg3.cell (a := ⟨w.heap.size + 1, 0, none⟩) (by exact b0) (by simp; omega); have q1 := hg3.cell (a := ⟨w.heap.size + 1, 1, none⟩) (by exact b1) (by simp; omega); have qf : ∀ o, w3.frozen? ⟨w.heap.size + 1, o, none⟩ = false := fun o => (hg3.frozen_far ⟨w.heap.size + 1, o, none⟩ (by simp; omega) (by simp; omega)).trans (g0 o); have hB3 := hBA.drew.grown hg3 (by simp; omega) (fun k hk => by cases hk; omega); have hz3' := hB3.size; have hk3 := (ho3.lt k3 rfl).1)
          | (refine step_append_row _ rfl (.tmp 22) (.tmp 26) 24 rfl (w.heap.size + 2) 9 i0 (.string ⟨#[]⟩) 16 Try.underlying24 hi hz0 hz1 hz2 rfl k3 ss.length cap3 ss rfl ho3 ⟨h, 0, none⟩ (keep.toNat) d (tt.take (keep.toNat)) rfl HTL.out (hq'.below hB3).cells (by unfold maxLen; omega) (by omega) (by simp at hz3; omega) ?_; intro k4 cap4 w4 ho4 hg4; have hz4 := hg4.size; have p0 := hg4.cell (a := ⟨w.heap.size + 1, 0, none⟩) q0 (by simp; omega); have p1 := hg4.cell (a := ⟨w.heap.size + 1, 1, none⟩) q1 (by simp; omega); have pf : ∀ o, w4.frozen? ⟨w.heap.size + 1, o, none⟩ = false := fun o => (hg4.frozen_far ⟨w.heap.size + 1, o, none⟩ (by simp at hz3; simp; omega) (by simp; omega)).trans (qf o); have hB4 := hB3.grown hg4 (by omega) (fun k hk => by cases hk; omega)))
        all_goals
          have R := crash_fin (L := ss ++ tt.take (keep.toNat)) hB4 (by rw [List.length_append, HTL.out]; exact ho4)
          have HR : Hid _ := R
          clear R ho3 ho4 hg3 hg4 hq' HA
          go_wp2
          refine bodyPost_ret (v := .agg #[.slice (some ⟨k4, 0, none⟩) (ss.length + (keep.toNat)) cap4, .slice none 0 0]) (by simp [results, Try.results37, go_sem, p0, p1]) rfl ⟨_, rfl, ?_, HR.out.2⟩
          rw [HCL.out]
          exact HR.out.1

end Go.Proofs.Ytdecihmplkgfkaa
