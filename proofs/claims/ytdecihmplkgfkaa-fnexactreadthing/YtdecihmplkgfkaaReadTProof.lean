/-
  laws.FnExactReadThing, at every input.
-/
import Derived.Test.YtdecihmplkgfkaaRead
import Derived.Test.YtdecihmplkgfkaaReadS
import Derived.Test.YtdecihmplkgfkaaMark
namespace Go.Proofs.Ytdecihmplkgfkaa
namespace ExactReadThing
open Go.ChangeShapes Go.WideShapes Go.ChangeAt Go.RowKit
open Go.ChangeMaps (open_string shut_string)

set_option maxHeartbeats 1000000 in
theorem walk (s : ByteArray) (wd : Int) (w : World) (hs : s.size ≤ maxLen) :
    Calls Try.prog 5 #[.string s, .int .i64 wd] w fun e w' => e = .returned (.bool true) ∧ Below w.heap.size w w' := by
  unfold maxLen at hs
  by_cases hbig : (1048576 : Int) < s.size
  · go_enter Try.func5, Try.ntmps5
    go_wp2
    go_ret
    exact ⟨rfl, Below.refl _ _⟩
  · have hsz : s.size ≤ 1048576 := by omega
    have hle := rd_le s wd
    have hS := fun W => sRead_any s wd W hsz
    have hI := fun W => iRead_any s wd W hsz
    unfold ReadPost at hS hI
    generalize rd s wd = r at *
    obtain ⟨t, ss, b⟩ := r
    simp only at hle hS hI
    have HS : Hid _ := hS
    have HI : Hid _ := hI
    clear hS hI
    have hbb : (b != b) = false := by cases b <;> rfl
    go_enter Try.func5, Try.ntmps5
    go_wp2_with fail
    refine (HS.out w).mono ?_
    rintro e w1 ⟨v0, rfl, ho0, hb1⟩
    obtain ⟨a0, c0, hv0, hr0⟩ := own_form ho0
    subst hv0
    clear ho0
    have hz1 := hb1.size
    go_wp2_with fail
    refine (HI.out _).mono ?_
    rintro e w2 ⟨v1, rfl, ho1, hb2⟩
    obtain ⟨a1, c1, hv1, hr1⟩ := own_form ho1
    subst hv1
    have hz2 := hb2.size
    simp at hz2
    have hlt12 : w1.heap.size < w2.heap.size := by omega
    have x50 : w2.cell? ⟨w1.heap.size, 0, none⟩ = some (.string t) := by rw [hb2.cell (p := ⟨w1.heap.size, 0, none⟩) (by simp)]; simp
    have x51 : w2.cell? ⟨w1.heap.size, 1, none⟩ = some (.slice a0 ss.length c0) := by rw [hb2.cell (p := ⟨w1.heap.size, 1, none⟩) (by simp)]; simp
    have hB12 : Below w1.heap.size w1 w2 := ((Below.refl _ _).alloc (Nat.le_refl _) _).trans (hb2.mono (by simp))
    have hB2 : Below w.heap.size w w2 := hb1.trans (hB12.mono hz1)
    have hr0 := hr0.below hB12
    have ho1 : w2.ownsRow (w1.heap.size + 1) 9 1 (.slice a1 ss.length c1) ss.length (ss.map Value.string) := by simpa using ho1
    obtain ⟨W7, hW7⟩ : ∃ W, W = w2.alloc (.cells #[.string t, .slice a1 ss.length c1] 29) := ⟨_, rfl⟩
    have h27 : Below w2.heap.size w2 W7 := by rw [hW7]; exact (Below.refl _ _).alloc (Nat.le_refl _) _
    have hz7 : W7.heap.size = w2.heap.size + 1 := by rw [hW7]; simp
    have x70 : W7.cell? ⟨w2.heap.size, 0, none⟩ = some (.string t) := by rw [hW7]; simp
    have x71 : W7.cell? ⟨w2.heap.size, 1, none⟩ = some (.slice a1 ss.length c1) := by rw [hW7]; simp
    have HW : Hid _ := hW7
    clear hW7
    go_wp2_with fail
    rw [← HW.out]
    refine (eqThing_yes t a1 a0 c1 c0 ss W7 ((hr1.below h27).mono h27.size) ((hr0.below (h27.mono (by omega))).mono (by omega)) (by omega)).mono ?_
    rintro e w3 ⟨rfl, hb3⟩
    have h23 : Below w2.heap.size w2 w3 := h27.trans (hb3.mono h27.size)
    have hz3 := hb3.size
    have x50 : w3.cell? ⟨w1.heap.size, 0, none⟩ = some (.string t) := (h23.cell (p := ⟨w1.heap.size, 0, none⟩) (by simp; omega)).trans x50
    have x51 : w3.cell? ⟨w1.heap.size, 1, none⟩ = some (.slice a0 ss.length c0) := (h23.cell (p := ⟨w1.heap.size, 1, none⟩) (by simp; omega)).trans x51
    have x70 : w3.cell? ⟨w2.heap.size, 0, none⟩ = some (.string t) := (hb3.cell (p := ⟨w2.heap.size, 0, none⟩) (by simp; omega)).trans x70
    have x71 : w3.cell? ⟨w2.heap.size, 1, none⟩ = some (.slice a1 ss.length c1) := (hb3.cell (p := ⟨w2.heap.size, 1, none⟩) (by simp; omega)).trans x71
    have ho3 := ho1.kept (grown_below none h23) (by cases a1 <;> simp [Value.ownBlock])
    have hr0 := hr0.below (h23.mono (by omega))
    have hB3 := hB2.trans (h23.mono hB2.size)
    have hlt1 : ∀ k, (Value.slice a1 ss.length c1).ownBlock = some k → w1.heap.size + 1 ≤ k ∧ k < w2.heap.size := ho1.lt
    clear ho1 hr1 h27 hb3
    go_wp2_with fail
    refine (markThing_any t a1 ss.length c1 1 (w1.heap.size + 1) _ w3 ho3 (by omega) (by omega)).mono ?_
    rintro e w4 ⟨rfl, ho4, hg4⟩
    have h34 : Below (w1.heap.size + 1) w3 w4 := (Below.refl _ _).grown hg4 (by omega) (fun k hk => (hlt1 k hk).1)
    have hz4 := hg4.size
    have hB4 := hB3.trans (h34.mono (by omega))
    have x50 : w4.cell? ⟨w1.heap.size, 0, none⟩ = some (.string t) := (h34.cell (p := ⟨w1.heap.size, 0, none⟩) (by simp)).trans x50
    have x51 : w4.cell? ⟨w1.heap.size, 1, none⟩ = some (.slice a0 ss.length c0) := (h34.cell (p := ⟨w1.heap.size, 1, none⟩) (by simp)).trans x51
    have hne7 : some w2.heap.size ≠ (Value.slice a1 ss.length c1).ownBlock := by
      intro he
      have := (hlt1 _ he.symm).2
      omega
    have x70 : w4.cell? ⟨w2.heap.size, 0, none⟩ = some (.string t) := hg4.cell x70 hne7
    have x71 : w4.cell? ⟨w2.heap.size, 1, none⟩ = some (.slice a1 ss.length c1) := hg4.cell x71 hne7
    have hr0 := hr0.below (h34.mono (by omega))
    obtain ⟨a4, c4, hv4, hr4⟩ := own_form (ss := marks 1 ss.length) (by rw [marks_length]; exact ho4)
    rw [marks_length] at hv4
    simp at hv4
    obtain ⟨rfl, rfl⟩ := hv4
    clear ho3 ho4 hg4 h34 h23
    go_wp2_with fail
    refine (heldThing_any t a1 ss.length c1 1 w4 hr4 (by omega) (by omega)).mono ?_
    rintro e w5 ⟨rfl, hb5⟩
    have hz5 := hb5.size
    have hB5 := hB4.trans (hb5.mono hB4.size)
    have x50 : w5.cell? ⟨w1.heap.size, 0, none⟩ = some (.string t) := (hb5.cell (p := ⟨w1.heap.size, 0, none⟩) (by simp; omega)).trans x50
    have x51 : w5.cell? ⟨w1.heap.size, 1, none⟩ = some (.slice a0 ss.length c0) := (hb5.cell (p := ⟨w1.heap.size, 1, none⟩) (by simp; omega)).trans x51
    have x70 : w5.cell? ⟨w2.heap.size, 0, none⟩ = some (.string t) := (hb5.cell (p := ⟨w2.heap.size, 0, none⟩) (by simp; omega)).trans x70
    have x71 : w5.cell? ⟨w2.heap.size, 1, none⟩ = some (.slice a1 ss.length c1) := (hb5.cell (p := ⟨w2.heap.size, 1, none⟩) (by simp; omega)).trans x71
    have hr0 := hr0.below (hb5.mono (by omega))
    have hr4 := hr4.below' hb5
    have hq0 : ¬ ((1 : Int) + (ss.length : Int) < 0) := by omega
    clear hb5
    go_wp2_with fail
    refine (HI.out _).mono ?_
    rintro e w6 ⟨v6, rfl, ho6, hb6⟩
    obtain ⟨a6, c6, hv6, hr6⟩ := own_form ho6
    subst hv6
    have hz6 := hb6.size
    have hB6 := hB5.trans (hb6.mono hB5.size)
    have x50 : w6.cell? ⟨w1.heap.size, 0, none⟩ = some (.string t) := (hb6.cell (p := ⟨w1.heap.size, 0, none⟩) (by simp; omega)).trans x50
    have x51 : w6.cell? ⟨w1.heap.size, 1, none⟩ = some (.slice a0 ss.length c0) := (hb6.cell (p := ⟨w1.heap.size, 1, none⟩) (by simp; omega)).trans x51
    have x70 : w6.cell? ⟨w2.heap.size, 0, none⟩ = some (.string t) := (hb6.cell (p := ⟨w2.heap.size, 0, none⟩) (by simp; omega)).trans x70
    have x71 : w6.cell? ⟨w2.heap.size, 1, none⟩ = some (.slice a1 ss.length c1) := (hb6.cell (p := ⟨w2.heap.size, 1, none⟩) (by simp; omega)).trans x71
    have hr0 := hr0.below (hb6.mono (by omega))
    have hr4 := hr4.below' hb6
    have l16 : w1.heap.size < w6.heap.size := by omega
    have l26 : w2.heap.size < w6.heap.size := by omega
    obtain ⟨W8, hW8⟩ : ∃ W, W = w6.alloc (.cells #[.string t, .slice a6 ss.length c6] 29) := ⟨_, rfl⟩
    have h68 : Below w6.heap.size w6 W8 := by rw [hW8]; exact (Below.refl _ _).alloc (Nat.le_refl _) _
    have hz8 : W8.heap.size = w6.heap.size + 1 := by rw [hW8]; simp
    have HW8 : Hid _ := hW8
    clear hW8 ho6 hb6
    go_wp2_with fail
    rw [← HW8.out]
    refine (eqThing_yes t a6 a0 c6 c0 ss W8 (hr6.below' h68) ((hr0.below (h68.mono (by omega))).mono (by omega)) (by omega)).mono ?_
    rintro e w9 ⟨rfl, hb9⟩
    have h69 : Below w6.heap.size w6 w9 := h68.trans (hb9.mono h68.size)
    have hB9 := hB6.trans (h69.mono hB6.size)
    have x70 : w9.cell? ⟨w2.heap.size, 0, none⟩ = some (.string t) := (h69.cell (p := ⟨w2.heap.size, 0, none⟩) l26).trans x70
    have x71 : w9.cell? ⟨w2.heap.size, 1, none⟩ = some (.slice a1 ss.length c1) := (h69.cell (p := ⟨w2.heap.size, 1, none⟩) l26).trans x71
    have hr4 := hr4.below' h69
    go_wp2_with fail
    refine (heldThing_any t a1 ss.length c1 1 w9 hr4 (by omega) (by omega)).mono ?_
    rintro e w10 ⟨rfl, hb10⟩
    go_wp2
    go_ret
    exact ⟨rfl, hB9.trans (hb10.mono hB9.size)⟩

set_option maxRecDepth 100000 in
theorem lifted (os : Os) (started : os.Started) (H : Type) (enc : TypeId × Value → H) :
    ReturnsInHanded {} Try.checked os 5 .any (Rows.fnExactReadThingSpec.pre6 enc Try.prog Try.f5 Rows.fnExactReadThingRow.domain false) (Rows.fnExactReadThingSpec.post enc Try.prog Try.f5 false true false false) := by
  refine returnsInHanded_of_change (C := Try.checked) own started (by kernel_rfl) Try.func5
    (ChangeSpec.witness6 (enc := enc) (C := Try.checked) false ⟨#[], #[.string ByteArray.empty, .int .i64 0], []⟩ 8 (by kernel_rfl) (by kernel_rfl) (by kernel_rfl) (by kernel_rfl)) ?_
  intro W base args ds gs before hval0 hW hcnd _
  have hval : ∀ (j : Nat) t v, Try.f5.params[j]? = some t → args[j]? = some v → Value.okWide Try.prog W .any base t v := hval0
  have hW' := hW
  obtain ⟨p, q, hA0, hV, rfl, hfz, hnd⟩ := hW
  have hA : DataW.TrodAll enc Try.prog W 0 (fun _ => true) true Try.f5.params.toList args.toList ds p := hA0
  rw [Try.params5] at hA hval
  obtain ⟨v0, vs0, d0, ds0, p0, q0, hargs, rfl, rfl, h0, r0⟩ := trodAll_cons hA
  obtain ⟨v1, vs1, d1, ds1, p1, q1, rfl, rfl, rfl, h1, r1⟩ := trodAll_cons r0
  obtain ⟨rfl, rfl, rfl⟩ := trodAll_nil r1
  obtain rfl : args = #[v0, v1] := by cases args; simp_all
  obtain ⟨rfl, rfl⟩ := trodVars_none hV
  obtain ⟨a0, rfl, rfl, rfl, w0⟩ := open_string Try.underlying9 (hval 0 9 v0 rfl rfl) h0
  obtain ⟨a1, rfl, rfl, rfl, w1⟩ := open_int Try.underlying3 (hval 1 3 v1 rfl rfl) h1
  clear hA0 hval0
  simp only [List.append_nil] at hW'
  refine (walk a0 a1 W w0).mono fun e W' ⟨he, bel⟩ => ?_
  subst he
  exact ⟨_, rfl, _, _, _, [], [], [], hW', trodAll_mk1 (shut_bool Try.underlying4 _), (trodAll_cons_mk (shut_string Try.underlying9 w0) (trodAll_cons_mk (shut_int Try.underlying3 w1) trodAll_mk0)), rfl, bel.frame _, fun h => by cases h⟩

end ExactReadThing

theorem fnExactReadThing_holds : Rows.FnExactReadThingSaid :=
  OpenClaim.holds_of_wide 5 Try.f5 rfl rfl rfl rfl rfl rfl rfl ⟨rfl, rfl, rfl, rfl, rfl⟩ rfl rfl rfl rfl rfl (by kernel_rfl) Try.func5 (by kernel_rfl)
    (of_decide_eq_true (by kernel_rfl)) (by unfold Func.isWrapper; first | (rw [if_pos (by decide +kernel)]; kernel_rfl) | (rw [if_neg (by decide +kernel)]; exact ⟨rfl, rfl⟩))
    (fun os started H enc _ => ExactReadThing.lifted os started H enc)
#print axioms fnExactReadThing_holds
end Go.Proofs.Ytdecihmplkgfkaa
