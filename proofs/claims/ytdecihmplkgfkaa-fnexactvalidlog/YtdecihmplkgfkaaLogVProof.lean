/-
  laws.FnExactValidLog, at every input.
-/
import Derived.Test.YtdecihmplkgfkaaRead
import Derived.Test.YtdecihmplkgfkaaLogV
import Derived.Deep.RegionWith
namespace Go.Proofs.Ytdecihmplkgfkaa
namespace ExactValidLog
open Go.ChangeShapes Go.WideShapes Go.ChangeAt Go.RowKit

set_option maxHeartbeats 1000000 in
theorem walk (a b : Option Addr) (c d : Nat) (ss tt : List ByteArray) (w : World) (hr : SRow w w.heap.size a ss) (hq : SRow w w.heap.size b tt)
    (hl : ss.length ≤ maxLen) (hs : ∀ s ∈ ss, s.size ≤ maxLen) (hl' : tt.length ≤ maxLen) (hs' : ∀ s ∈ tt, s.size ≤ maxLen) :
    Calls Try.prog 6 #[.agg #[.slice a ss.length c, .slice b tt.length d]] w fun e w' => e = .returned (.bool true) ∧ Below w.heap.size w w' := by
  have hb0 : Below w.heap.size w (w.alloc (.cells #[.slice a ss.length c, .slice b tt.length d] 37)) := (Below.refl _ _).alloc (Nat.le_refl _) _
  by_cases hfit : (ss.length : Int) + bulk ss + tt.length + bulk tt ≤ 1048576
  · have hsB : ∀ s ∈ ss, s.size ≤ 1048576 := fun s hm => by
      obtain ⟨i, hi⟩ := List.getElem?_of_mem hm
      have := le_bulk ss i s hi
      omega
    have hsB' : ∀ s ∈ tt, s.size ≤ 1048576 := fun s hm => by
      obtain ⟨i, hi⟩ := List.getElem?_of_mem hm
      have := le_bulk tt i s hi
      omega
    go_enter Try.func6, Try.ntmps6
    go_wp2_with fail
    refine (szLog_yes a b c d ss tt _ _ (hr.below' hb0) (hq.below' hb0) (by omega) hfit).mono ?_
    rintro e w1 ⟨rfl, hb1⟩
    have hB1 := hb0.trans (hb1.mono (by simp))
    have hz1 := hb1.size
    simp at hz1
    have hbox0 : w1.cell? ⟨w.heap.size, 0, none⟩ = some (.slice a ss.length c) := by rw [hb1.cell (p := ⟨w.heap.size, 0, none⟩) (by simp)]; simp
    have hbox1 : w1.cell? ⟨w.heap.size, 1, none⟩ = some (.slice b tt.length d) := by rw [hb1.cell (p := ⟨w.heap.size, 1, none⟩) (by simp)]; simp
    have hnn : 0 ≤ 1048576 - (ss.length : Int) - bulk ss - tt.length - bulk tt := by omega
    have hfitS : ss.length ≤ 1048576 := by omega
    have hfitT : tt.length ≤ 1048576 := by omega
    generalize 1048576 - (ss.length : Int) - bulk ss - tt.length - bulk tt = L at *
    go_wp2_with fail
    refine (toLog_any a b c d ss tt _ (hr.below' hB1) (hq.below' hB1) hfitS hfitT).mono ?_
    rintro e w2 ⟨g, k, rfl, hg, hgk, hown, hown', hb2⟩
    have hrow2 := SRow.own hown
    have hrow2' := SRow.own hown'
    have hB2 := hB1.trans (hb2.mono hB1.size)
    replace hbox0 : w2.cell? ⟨w.heap.size, 0, none⟩ = some (.slice a ss.length c) := (hb2.cell (p := ⟨w.heap.size, 0, none⟩) (by simp; omega)).trans hbox0
    replace hbox1 : w2.cell? ⟨w.heap.size, 1, none⟩ = some (.slice b tt.length d) := (hb2.cell (p := ⟨w.heap.size, 1, none⟩) (by simp; omega)).trans hbox1
    go_wp2_with fail
    refine (sValidLog_any _ _ _ _ ss tt _ _ (Nat.le_refl _) hrow2 hrow2' hfitS hfitT hsB hsB').mono ?_
    rintro e w3 ⟨rfl, hb3⟩
    have hB3 := hB2.trans (hb3.mono hB2.size)
    have hz2 := hb2.size
    replace hbox0 : w3.cell? ⟨w.heap.size, 0, none⟩ = some (.slice a ss.length c) := (hb3.cell (p := ⟨w.heap.size, 0, none⟩) (by simp; omega)).trans hbox0
    replace hbox1 : w3.cell? ⟨w.heap.size, 1, none⟩ = some (.slice b tt.length d) := (hb3.cell (p := ⟨w.heap.size, 1, none⟩) (by simp; omega)).trans hbox1
    have hz3 := hb3.size
    clear hown hown' hrow2 hrow2' hb2 hb3 hg hgk
    obtain ⟨T, hT⟩ : ∃ T, T = okLog ss tt := ⟨_, rfl⟩
    rw [← hT]
    have HT : Hid _ := hT
    clear hT
    go_wp2_with fail
    refine (toLog_any a b c d ss tt _ (hr.below' hB3) (hq.below' hB3) hfitS hfitT).mono ?_
    rintro e w4 ⟨g4, k4, rfl, hg4, hk4, hown4, hown4', hb4⟩
    have hrow4 := SRow.own hown4
    have hrow4' := SRow.own hown4'
    have hB4 := hB3.trans (hb4.mono hB3.size)
    replace hbox0 : w4.cell? ⟨w.heap.size, 0, none⟩ = some (.slice a ss.length c) := (hb4.cell (p := ⟨w.heap.size, 0, none⟩) (by simp; omega)).trans hbox0
    replace hbox1 : w4.cell? ⟨w.heap.size, 1, none⟩ = some (.slice b tt.length d) := (hb4.cell (p := ⟨w.heap.size, 1, none⟩) (by simp; omega)).trans hbox1
    have hz4 := hb4.size
    have hb5 : Below w4.heap.size w4 (w4.alloc (.cells #[.slice (some ⟨g4, 0, none⟩) ss.length ss.length, .slice (some ⟨k4, 0, none⟩) tt.length tt.length] 40)) := (Below.refl _ _).alloc (Nat.le_refl _) _
    go_wp2_with fail
    refine (iValidLog_any _ _ _ _ ss tt _ (hrow4.below' hb5) (hrow4'.below' hb5) hfitS hfitT hsB hsB').mono ?_
    rintro e w6 ⟨rfl, hb6⟩
    rw [← HT.out]
    have hz6 := hb6.size
    simp at hz6
    have hx0 : w6.cell? ⟨w4.heap.size, 0, none⟩ = some (.slice (some ⟨g4, 0, none⟩) ss.length ss.length) := by rw [hb6.cell (p := ⟨w4.heap.size, 0, none⟩) (by simp)]; simp
    have hx1 : w6.cell? ⟨w4.heap.size, 1, none⟩ = some (.slice (some ⟨k4, 0, none⟩) tt.length tt.length) := by rw [hb6.cell (p := ⟨w4.heap.size, 1, none⟩) (by simp)]; simp
    have hB46 : Below w4.heap.size w4 w6 := hb5.trans (hb6.mono (by simp))
    have hB6 := hB4.trans (hB46.mono hB4.size)
    replace hbox0 : w6.cell? ⟨w.heap.size, 0, none⟩ = some (.slice a ss.length c) := (hB46.cell (p := ⟨w.heap.size, 0, none⟩) (by simp; omega)).trans hbox0
    replace hbox1 : w6.cell? ⟨w.heap.size, 1, none⟩ = some (.slice b tt.length d) := (hB46.cell (p := ⟨w.heap.size, 1, none⟩) (by simp; omega)).trans hbox1
    have hr6 : SRow w6 w6.heap.size a ss := hr.below' hB6
    have hq6 : SRow w6 w6.heap.size b tt := hq.below' hB6
    have hr46 : SRow w6 w6.heap.size (some ⟨g4, 0, none⟩) ss := hrow4.below' hB46
    have hq46 : SRow w6 w6.heap.size (some ⟨k4, 0, none⟩) tt := hrow4'.below' hB46
    clear hown4 hown4' hrow4 hrow4' hb4 hb5 hb6 hg4 hk4 HT hb1 hB1 hB2 hB3 hr hq hs hs' hsB hsB'
    go_wp2_with fail
    go_region_with (first
      | (go_at_call 30; refine (toLog_any a b c d ss tt _ (by exact hr6) (by exact hq6) hfitS hfitT).mono ?_; rintro e w7 ⟨g7, k7, rfl, hg7, hk7, hown7, hown7', hb7⟩; have hx0' : w7.cell? ⟨w4.heap.size, 0, none⟩ = some (.slice (some ⟨g4, 0, none⟩) ss.length ss.length) := (hb7.cell (p := ⟨w4.heap.size, 0, none⟩) (by simp; omega)).trans hx0; have hx1' : w7.cell? ⟨w4.heap.size, 1, none⟩ = some (.slice (some ⟨k4, 0, none⟩) tt.length tt.length) := (hb7.cell (p := ⟨w4.heap.size, 1, none⟩) (by simp; omega)).trans hx1; have hr7 := SRow.own hown7; have hq7 := SRow.own hown7'; have hr47 := SRow.below' (w := w6.drew) hr46 hb7; have hq47 := SRow.below' (w := w6.drew) hq46 hb7; have hB7 := hB6.drew.trans (hb7.mono (by simp; omega)))
      | (go_at_call 32; refine (eqLog_yes _ _ _ _ _ _ _ _ ss tt _ hr47 hq47 hr7 hq7 hfitS hfitT).mono ?_; rintro e w8 ⟨rfl, hb8⟩; have hB8 := hB7.trans (hb8.mono hB7.size)))
    all_goals go_wp2
    all_goals go_ret
    all_goals exact ⟨rfl, hB8⟩
  · go_enter Try.func6, Try.ntmps6
    go_wp2_with fail
    refine (szLog_no a b c d ss tt _ _ (hr.below' hb0) (hq.below' hb0) hl hs hl' hs' (by omega) (by omega) (by omega)).mono ?_
    rintro e w1 ⟨rfl, hb1⟩
    go_wp2
    go_ret
    exact ⟨rfl, hb0.trans (hb1.mono (by simp))⟩

theorem cellsL : Try.prog.cellsOf 37 = 2 := by kernel_rfl

set_option maxRecDepth 100000 in
theorem lifted (os : Os) (started : os.Started) (H : Type) (enc : TypeId × Value → H) :
    ReturnsInHanded {} Try.checked os 6 .any (Rows.fnExactValidLogSpec.pre6 enc Try.prog Try.f6 Rows.fnExactValidLogRow.domain false) (Rows.fnExactValidLogSpec.post enc Try.prog Try.f6 false true false false) := by
  refine returnsInHanded_of_change (C := Try.checked) own started (by kernel_rfl) Try.func6
    (ChangeSpec.witness6 (enc := enc) (C := Try.checked) false ⟨#[], #[.agg #[.slice none 0 0, .slice none 0 0]], []⟩ 8 (by kernel_rfl) (by kernel_rfl) (by kernel_rfl) (by kernel_rfl)) ?_
  intro W base args ds gs before hval0 hW hcnd _
  have hval : ∀ (j : Nat) t v, Try.f6.params[j]? = some t → args[j]? = some v → Value.okWide Try.prog W .any base t v := hval0
  have hW' := hW
  obtain ⟨p, q, hA0, hV, rfl, hfz, hnd⟩ := hW
  have hA : DataW.TrodAll enc Try.prog W 0 (fun _ => true) true Try.f6.params.toList args.toList ds p := hA0
  rw [Try.params6] at hA hval
  obtain ⟨v0, vs0, d0, ds0, p0, q0, hargs, rfl, rfl, h0, r0⟩ := trodAll_cons hA
  obtain ⟨rfl, rfl, rfl⟩ := trodAll_nil r0
  obtain rfl : args = #[v0] := by cases args; simp_all
  obtain ⟨rfl, rfl⟩ := trodVars_none hV
  have k0 := h0
  have lt0 : ∀ x ∈ p0, x.block < W.heap.size := by obtain ⟨m, hm⟩ := k0; exact DataW.trod_lt m _ _ _ hm
  obtain ⟨c0, c1, y0, y1, m, hv0, _, _, hy0, hy1⟩ := Joins.open_agg2 Try.underlying37 (by kernel_rfl) cellsL (hval 0 37 v0 rfl rfl) h0
  obtain ⟨a, c, ss, ha0, hr, hl, hs⟩ := read_strs hy0
  obtain ⟨b, d, tt, hb0, hq, hl', hs'⟩ := read_strs hy1
  subst ha0 hb0 hv0
  clear hA0 hval0
  refine (walk a b c d ss tt W hr hq hl hs hl' hs').mono fun e W' ⟨he, bel⟩ => ?_
  subst he
  exact ⟨_, rfl, _, _, _, [], _, [], hW', trodAll_mk1 (shut_bool Try.underlying4 _), (trodAll_cons_mk (Below.trod laidOut (by kernel_rfl) (of_decide_eq_true (by kernel_rfl)) k0 bel lt0) trodAll_mk0), rfl, bel.frame _, fun h => by cases h⟩

end ExactValidLog

theorem fnExactValidLog_holds : Rows.FnExactValidLogSaid :=
  OpenClaim.holds_of_wide 6 Try.f6 rfl rfl rfl rfl rfl rfl rfl ⟨rfl, rfl, rfl, rfl, rfl⟩ rfl rfl rfl rfl rfl (by kernel_rfl) Try.func6 (by kernel_rfl)
    (of_decide_eq_true (by kernel_rfl)) (by unfold Func.isWrapper; first | (rw [if_pos (by decide +kernel)]; kernel_rfl) | (rw [if_neg (by decide +kernel)]; exact ⟨rfl, rfl⟩))
    (fun os started H enc _ => ExactValidLog.lifted os started H enc)
#print axioms fnExactValidLog_holds
end Go.Proofs.Ytdecihmplkgfkaa
