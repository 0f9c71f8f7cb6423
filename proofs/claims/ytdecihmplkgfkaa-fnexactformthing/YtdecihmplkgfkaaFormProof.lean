/-
  laws.FnExactFormThing, at every input.
-/
import Derived.Test.YtdecihmplkgfkaaRead
import Derived.Test.YtdecihmplkgfkaaForm
import Derived.Deep.RegionWith
namespace Go.Proofs.Ytdecihmplkgfkaa
namespace ExactFormThing
open Go.ChangeShapes Go.WideShapes Go.ChangeAt Go.RowKit

set_option maxHeartbeats 1000000 in
theorem walk (t : ByteArray) (a : Option Addr) (cap : Nat) (ss : List ByteArray) (wd : Int) (w : World) (hrow : SRow w w.heap.size a ss)
    (ht : t.size ≤ maxLen) (hl : ss.length ≤ maxLen) (hs : ∀ s ∈ ss, s.size ≤ maxLen) :
    Calls Try.prog 4 #[.agg #[.string t, .slice a ss.length cap], .int .i64 wd] w fun e w' => e = .returned (.bool true) ∧ Below w.heap.size w w' := by
  have hb0 : Below w.heap.size w (w.alloc (.cells #[.string t, .slice a ss.length cap] 26)) := (Below.refl _ _).alloc (Nat.le_refl _) _
  by_cases hfit : (t.size : Int) + ss.length + bulk ss ≤ 1048576
  · go_enter Try.func4, Try.ntmps4
    go_wp2_with fail
    refine (szThing_yes t a cap ss _ _ (hrow.below' hb0) (by omega) hfit).mono ?_
    rintro e w1 ⟨rfl, hb1⟩
    have hB1 := hb0.trans (hb1.mono (by simp))
    have hz1 := hb1.size
    simp at hz1
    have hbox0 : w1.cell? ⟨w.heap.size, 0, none⟩ = some (.string t) := by rw [hb1.cell (p := ⟨w.heap.size, 0, none⟩) (by simp)]; simp
    have hbox1 : w1.cell? ⟨w.heap.size, 1, none⟩ = some (.slice a ss.length cap) := by rw [hb1.cell (p := ⟨w.heap.size, 1, none⟩) (by simp)]; simp
    have hnn : 0 ≤ 1048576 - (t.size : Int) - ss.length - bulk ss := by omega
    generalize 1048576 - (t.size : Int) - ss.length - bulk ss = L at *
    go_wp2_with fail
    refine (toThing_any t a cap ss _ (hrow.below' hB1) (by omega)).mono ?_
    rintro e w2 ⟨g, rfl, hg, hown, hb2⟩
    have hrow2 := SRow.own hown
    have hB2 := hB1.trans (hb2.mono hB1.size)
    have hbox0 : w2.cell? ⟨w.heap.size, 0, none⟩ = some (.string t) := (hb2.cell (p := ⟨w.heap.size, 0, none⟩) (by simp; omega)).trans hbox0
    have hbox1 : w2.cell? ⟨w.heap.size, 1, none⟩ = some (.slice a ss.length cap) := (hb2.cell (p := ⟨w.heap.size, 1, none⟩) (by simp; omega)).trans hbox1
    go_wp2_with fail
    refine (sForm_any t _ _ ss wd _ hrow2 (by omega) ht).mono ?_
    rintro e w3 ⟨rfl, hb3⟩
    have hB3 := hB2.trans (hb3.mono hB2.size)
    have hz2 := hb2.size
    have hbox0 : w3.cell? ⟨w.heap.size, 0, none⟩ = some (.string t) := (hb3.cell (p := ⟨w.heap.size, 0, none⟩) (by simp; omega)).trans hbox0
    have hbox1 : w3.cell? ⟨w.heap.size, 1, none⟩ = some (.slice a ss.length cap) := (hb3.cell (p := ⟨w.heap.size, 1, none⟩) (by simp; omega)).trans hbox1
    have hz3 := hb3.size
    clear hown hrow2 hb2 hb3 hg
    obtain ⟨T, hT⟩ : ∃ T, T = formTxt t ss wd := ⟨_, rfl⟩
    rw [← hT]
    have HT : Hid _ := hT
    clear hT
    go_wp2_with fail
    refine (toThing_any t a cap ss _ (hrow.below' hB3) (by omega)).mono ?_
    rintro e w4 ⟨g4, rfl, hg4, hown4, hb4⟩
    have hrow4 := SRow.own hown4
    have hB4 := hB3.trans (hb4.mono hB3.size)
    have hbox0 : w4.cell? ⟨w.heap.size, 0, none⟩ = some (.string t) := (hb4.cell (p := ⟨w.heap.size, 0, none⟩) (by simp; omega)).trans hbox0
    have hbox1 : w4.cell? ⟨w.heap.size, 1, none⟩ = some (.slice a ss.length cap) := (hb4.cell (p := ⟨w.heap.size, 1, none⟩) (by simp; omega)).trans hbox1
    have hz4 := hb4.size
    have hb5 : Below w4.heap.size w4 (w4.alloc (.cells #[.string t, .slice (some ⟨g4, 0, none⟩) ss.length ss.length] 29)) := (Below.refl _ _).alloc (Nat.le_refl _) _
    go_wp2_with fail
    refine (iForm_any t _ _ ss wd _ (hrow4.below' hb5) (by omega) ht).mono ?_
    rintro e w6 ⟨rfl, hb6⟩
    rw [← HT.out]
    have hz6 := hb6.size
    simp at hz6
    have hx0 : w6.cell? ⟨w4.heap.size, 0, none⟩ = some (.string t) := by rw [hb6.cell (p := ⟨w4.heap.size, 0, none⟩) (by simp)]; simp
    have hx1 : w6.cell? ⟨w4.heap.size, 1, none⟩ = some (.slice (some ⟨g4, 0, none⟩) ss.length ss.length) := by rw [hb6.cell (p := ⟨w4.heap.size, 1, none⟩) (by simp)]; simp
    have hB46 : Below w4.heap.size w4 w6 := hb5.trans (hb6.mono (by simp))
    have hB6 := hB4.trans (hB46.mono hB4.size)
    have hbox0 : w6.cell? ⟨w.heap.size, 0, none⟩ = some (.string t) := (hB46.cell (p := ⟨w.heap.size, 0, none⟩) (by simp; omega)).trans hbox0
    have hbox1 : w6.cell? ⟨w.heap.size, 1, none⟩ = some (.slice a ss.length cap) := (hB46.cell (p := ⟨w.heap.size, 1, none⟩) (by simp; omega)).trans hbox1
    have hrow6 : SRow w6 w6.heap.size a ss := hrow.below' hB6
    have hrow46 : SRow w6 w4.heap.size (some ⟨g4, 0, none⟩) ss := hrow4.below hB46
    clear hown4 hrow4 hb4 hb5 hb6 hg4 HT hb1 hB1 hB2 hB3 hrow hs
    go_wp2_with fail
    go_region_with (first
      | (go_at_call 21; refine (toThing_any t a cap ss _ (by exact hrow6) (by omega)).mono ?_; rintro e w7 ⟨g7, rfl, hg7, hown7, hb7⟩; have hx0' : w7.cell? ⟨w4.heap.size, 0, none⟩ = some (.string t) := (hb7.cell (p := ⟨w4.heap.size, 0, none⟩) (by simp; omega)).trans hx0; have hx1' : w7.cell? ⟨w4.heap.size, 1, none⟩ = some (.slice (some ⟨g4, 0, none⟩) ss.length ss.length) := (hb7.cell (p := ⟨w4.heap.size, 1, none⟩) (by simp; omega)).trans hx1; have hz7 := hb7.size; have hr7 := SRow.own hown7; have hr47 := (SRow.below (w := w6.drew) hrow46 (hb7.mono (by simp; omega))).mono (show w4.heap.size ≤ w7.heap.size by simp at hz7; omega); have hB7 := hB6.drew.trans (hb7.mono (by simp; omega)))
      | (go_at_call 23; refine (eqThing_yes t _ _ _ _ ss _ hr47 hr7 (by omega)).mono ?_; rintro e w8 ⟨rfl, hb8⟩; have hB8 := hB7.trans (hb8.mono hB7.size)))
    all_goals go_wp2
    all_goals go_ret
    all_goals exact ⟨rfl, hB8⟩
  · go_enter Try.func4, Try.ntmps4
    go_wp2_with fail
    refine (szThing_no t a cap ss _ _ (hrow.below' hb0) ht hl hs (by omega) (by omega) (by omega)).mono ?_
    rintro e w1 ⟨rfl, hb1⟩
    go_wp2
    go_ret
    exact ⟨rfl, hb0.trans (hb1.mono (by simp))⟩

theorem cellsT : Try.prog.cellsOf 26 = 2 := by kernel_rfl

set_option maxRecDepth 100000 in
theorem lifted (os : Os) (started : os.Started) (H : Type) (enc : TypeId × Value → H) :
    ReturnsInHanded {} Try.checked os 4 .any (Rows.fnExactFormThingSpec.pre6 enc Try.prog Try.f4 Rows.fnExactFormThingRow.domain false) (Rows.fnExactFormThingSpec.post enc Try.prog Try.f4 false true false false) := by
  refine returnsInHanded_of_change (C := Try.checked) own started (by kernel_rfl) Try.func4
    (ChangeSpec.witness6 (enc := enc) (C := Try.checked) false ⟨#[], #[.agg #[.string ByteArray.empty, .slice none 0 0], .int .i64 0], []⟩ 8 (by kernel_rfl) (by kernel_rfl) (by kernel_rfl) (by kernel_rfl)) ?_
  intro W base args ds gs before hval0 hW hcnd _
  have hval : ∀ (j : Nat) t v, Try.f4.params[j]? = some t → args[j]? = some v → Value.okWide Try.prog W .any base t v := hval0
  have hW' := hW
  obtain ⟨p, q, hA0, hV, rfl, hfz, hnd⟩ := hW
  have hA : DataW.TrodAll enc Try.prog W 0 (fun _ => true) true Try.f4.params.toList args.toList ds p := hA0
  rw [Try.params4] at hA hval
  obtain ⟨v0, vs0, d0, ds0, p0, q0, hargs, rfl, rfl, h0, r0⟩ := trodAll_cons hA
  obtain ⟨v1, vs1, d1, ds1, p1, q1, rfl, rfl, rfl, h1, r1⟩ := trodAll_cons r0
  obtain ⟨rfl, rfl, rfl⟩ := trodAll_nil r1
  obtain rfl : args = #[v0, v1] := by cases args; simp_all
  obtain ⟨rfl, rfl⟩ := trodVars_none hV
  have k0 := h0
  have lt0 : ∀ x ∈ p0, x.block < W.heap.size := by obtain ⟨m, hm⟩ := k0; exact DataW.trod_lt m _ _ _ hm
  obtain ⟨c0, c1, y0, y1, m, hv0, _, _, hy0, hy1⟩ := Joins.open_agg2 Try.underlying26 (by kernel_rfl) cellsT (hval 0 26 v0 rfl rfl) h0
  obtain ⟨t, ht0, ht⟩ := read_str hy0
  obtain ⟨a, cap, ss, hs0, hrow, hl, hs⟩ := read_strs hy1
  subst ht0 hs0 hv0
  obtain ⟨a1, rfl, rfl, rfl, w1⟩ := open_int Try.underlying3 (hval 1 3 v1 rfl rfl) h1
  clear hA0 hval0
  refine (walk t a cap ss a1 W hrow ht hl hs).mono fun e W' ⟨he, bel⟩ => ?_
  subst he
  exact ⟨_, rfl, _, _, _, [], _, [], hW', trodAll_mk1 (shut_bool Try.underlying4 _), (trodAll_cons_mk (Below.trod laidOut (by kernel_rfl) (of_decide_eq_true (by kernel_rfl)) k0 bel lt0) (trodAll_cons_mk (shut_int Try.underlying3 w1) trodAll_mk0)), rfl, bel.frame _, fun h => by cases h⟩

end ExactFormThing

theorem fnExactFormThing_holds : Rows.FnExactFormThingSaid :=
  OpenClaim.holds_of_wide 4 Try.f4 rfl rfl rfl rfl rfl rfl rfl ⟨rfl, rfl, rfl, rfl, rfl⟩ rfl rfl rfl rfl rfl (by kernel_rfl) Try.func4 (by kernel_rfl)
    (of_decide_eq_true (by kernel_rfl)) (by unfold Func.isWrapper; first | (rw [if_pos (by decide +kernel)]; kernel_rfl) | (rw [if_neg (by decide +kernel)]; exact ⟨rfl, rfl⟩))
    (fun os started H enc _ => ExactFormThing.lifted os started H enc)
#print axioms fnExactFormThing_holds
end Go.Proofs.Ytdecihmplkgfkaa
