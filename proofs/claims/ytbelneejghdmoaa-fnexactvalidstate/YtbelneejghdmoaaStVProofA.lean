/-
  laws.FnExactValidState, at every input.
-/
import Derived.Test.YtbelneejghdmoaaStRead
import Derived.Test.YtbelneejghdmoaaStEq
import Derived.Test.YtbelneejghdmoaaStSV
import Derived.Deep.RegionWith
namespace Go.Proofs.Ytbelneejghdmoaa
namespace ExactValidState
open Go.ChangeShapes Go.WideShapes Go.ChangeAt Go.RowKit

set_option maxRecDepth 20000 in
set_option maxHeartbeats 8000000 in
theorem walk (wd now given births : Int) (a p l : Option Addr) (ac pc lc : Nat) (ks : List Kd) (ps : List Pd) (ls : List Ld) (w : World) (hrow : SRows w w.heap.size a p l ks ps ls) (hk : KMem ks) (hp : PMem ps) (hl : LMem ls) (hbw : ∀ k ∈ ks, (Lit.int .i64 k.born).wf = true) :
    Calls Try.prog 3 #[stV wd now given births a ks.length ac p ps.length pc l ls.length lc] w fun e w' => e = .returned (.bool true) ∧ Below w.heap.size w w' := by
  have hb0 : Below w.heap.size w (w.alloc (.cells #[.int .i64 wd, .int .i64 now, .int .i64 given, .int .i64 births, .slice a ks.length ac, .slice p ps.length pc, .slice l ls.length lc] 26)) := (Below.refl _ _).alloc (Nat.le_refl _) _
  have hx := SBox.new w wd now given births (.slice a ks.length ac) (.slice p ps.length pc) (.slice l ls.length lc) 26
  unfold stV
  go_enter Try.func3, Try.ntmps3
  go_wp2_with fail
  refine (szState_any wd now given births a p l ac pc lc ks ps ls _ _ (hrow.below' hb0) hk hp hl (by omega) (by omega)).mono ?_
  rintro e w1 ⟨left, rfl, hw1, hfit⟩
  have hB1 := hb0.trans (hw1.mono (by simp))
  obtain ⟨x0, x1, x2, x3, x4, x5, x6, x7⟩ := hx.below hw1
  clear hw1 hx
  by_cases hneg : left < 0
  · clear x0 x1 x2 x3 x4 x5 x6
    go_wp2
    go_ret
    exact ⟨rfl, hB1⟩
  · have hf : SFit ks ps ls := hfit (by omega)
    have hT : ∀ W, Below w.heap.size w W → Calls Try.prog 11 #[.agg #[.int .i64 wd, .int .i64 now, .int .i64 given, .int .i64 births, .slice a ks.length ac, .slice p ps.length pc, .slice l ls.length lc]] W fun e w' =>
      ∃ g q r, e = .returned (.agg #[.int .i64 wd, .int .i64 now, .int .i64 given, .int .i64 births, .slice (some ⟨g, 0, none⟩) ks.length ks.length, .slice (some ⟨q, 0, none⟩) ps.length ps.length, .slice (some ⟨r, 0, none⟩) ls.length ls.length]) ∧ SOwn w' W.heap.size g q r ks ps ls ∧ Below W.heap.size W w' := fun W hB => toState_any wd now given births a p l ac pc lc ks ps ls W (hrow.below' hB) hf
    have hS : ∀ (W : World) (g q r : Nat), SRows W W.heap.size (some ⟨g, 0, none⟩) (some ⟨q, 0, none⟩) (some ⟨r, 0, none⟩) ks ps ls → Calls Try.prog 10 #[stV wd now given births (some ⟨g, 0, none⟩) ks.length ks.length (some ⟨q, 0, none⟩) ps.length ps.length (some ⟨r, 0, none⟩) ls.length ls.length] W fun e w' => Says (StateOk wd now given births ks ps ls) W w' e := fun W g q r h => sValidState_any wd now given births _ _ _ _ _ _ ks ps ls W h hk hp hf
    have hI : ∀ (W : World) (g q r : Nat), SRows W W.heap.size (some ⟨g, 0, none⟩) (some ⟨q, 0, none⟩) (some ⟨r, 0, none⟩) ks ps ls → Calls Try.prog 12 #[stV wd now given births (some ⟨g, 0, none⟩) ks.length ks.length (some ⟨q, 0, none⟩) ps.length ps.length (some ⟨r, 0, none⟩) ls.length ls.length] W fun e w' => Says (StateOk wd now given births ks ps ls) W w' e := fun W g q r h => iValidState_any wd now given births _ _ _ _ _ _ ks ps ls W h hk hp hl hf hbw
    have HT : Hid _ := hT
    have HS : Hid _ := hS
    have HI : Hid _ := hI
    have HFit : Hid _ := hf
    clear hT hS hI hf hfit hrow hk hp hl hbw
    go_wp2_with fail
    refine (HT.out w1 hB1).mono ?_
    rintro e w2 ⟨g, q, r, rfl, ho, hw2⟩
    have hB2 := hB1.trans (hw2.mono hB1.size)
    have hx2 := SBox.below ⟨x0, x1, x2, x3, x4, x5, x6, x7⟩ hw2
    have hr2 := ho.rows
    clear hw2 ho x0 x1 x2 x3 x4 x5 x6 x7
    obtain ⟨x0, x1, x2, x3, x4, x5, x6, x7⟩ := hx2
    go_wp2_with fail
    refine (HS.out w2 g q r hr2).mono ?_
    rintro e w3 ⟨b3, rfl, hb3, hw3⟩
    have hB3 := hB2.trans (hw3.mono hB2.size)
    have hx3 := SBox.below ⟨x0, x1, x2, x3, x4, x5, x6, x7⟩ hw3
    clear hw3 hr2 x0 x1 x2 x3 x4 x5 x6 x7 HS
    obtain ⟨x0, x1, x2, x3, x4, x5, x6, x7⟩ := hx3
    have HB3 : Hid _ := hb3
    clear hb3
    go_wp2_with fail
    refine (HT.out w3 hB3).mono ?_
    rintro e w4 ⟨g4, q4, r4, rfl, ho4, hw4⟩
    have hB4 := hB3.trans (hw4.mono hB3.size)
    have hx4 := SBox.below ⟨x0, x1, x2, x3, x4, x5, x6, x7⟩ hw4
    have hr4 := ho4.rows
    clear hw4 ho4 x0 x1 x2 x3 x4 x5 x6 x7
    obtain ⟨W4, hW4⟩ : ∃ W, W = w4.alloc (.cells #[.int .i64 wd, .int .i64 now, .int .i64 given, .int .i64 births, .slice (some ⟨g4, 0, none⟩) ks.length ks.length, .slice (some ⟨q4, 0, none⟩) ps.length ps.length, .slice (some ⟨r4, 0, none⟩) ls.length ls.length] 33) := ⟨_, rfl⟩
    have h44 : Below w4.heap.size w4 W4 := by rw [hW4]; exact (Below.refl _ _).alloc (Nat.le_refl _) _
    have hy4 : SBox W4 w4.heap.size wd now given births (.slice (some ⟨g4, 0, none⟩) ks.length ks.length) (.slice (some ⟨q4, 0, none⟩) ps.length ps.length) (.slice (some ⟨r4, 0, none⟩) ls.length ls.length) := by rw [hW4]; exact SBox.new _ _ _ _ _ _ _ _ _
    have HX4 : Hid _ := And.intro (hx4.below h44) (And.intro hy4 (hr4.below' h44))
    have hB4' := hB4.trans (h44.mono hB4.size)
    have HW4 : Hid _ := hW4
    clear h44 hy4 hW4 hr4
    obtain ⟨x0, x1, x2, x3, x4, x5, x6, x7⟩ := hx4
    go_wp2_with fail
    rw [← HW4.out]
    refine (HI.out W4 g4 q4 r4 HX4.out.2.2).mono ?_
    rintro e w5 ⟨b5, rfl, hb5, hw5⟩
    have hB5 := hB4'.trans (hw5.mono hB4'.size)
    have hx5 := SBox.below HX4.out.1 hw5
    have hy5 := SBox.below HX4.out.2.1 hw5
    have hr5 := HX4.out.2.2.below' hw5
    clear hw5 HX4 x0 x1 x2 x3 x4 x5 x6 x7 HW4 hB4 hB4' HI
    have hbb : b5 = b3 := by
      cases b5 <;> cases b3 <;> first | rfl | (have := HB3.out.2 (hb5.1 rfl); cases this) | (have := hb5.2 (HB3.out.1 rfl); cases this)
    subst hbb
    clear hb5 HB3
    obtain ⟨x0, x1, x2, x3, x4, x5, x6, x7⟩ := hx5
    obtain ⟨y0, y1, y2, y3, y4, y5, y6, y7⟩ := hy5
    have HY : Hid (SBox w5 w4.heap.size wd now given births (.slice (some ⟨g4, 0, none⟩) ks.length ks.length) (.slice (some ⟨q4, 0, none⟩) ps.length ps.length) (.slice (some ⟨r4, 0, none⟩) ls.length ls.length)) := ⟨y0, y1, y2, y3, y4, y5, y6, y7⟩
    have HR5 : Hid _ := hr5
    clear hr5
    go_wp2
    go_region_with (first
      | (go_at_call 11; refine (HT.out _ hB5.drew).mono ?_; rintro e w7 ⟨g7, q7, r7, rfl, ho7, hw7⟩; obtain ⟨z0, z1, z2, z3, z4, z5, z6, z7⟩ := SBox.below (SBox.below HY.out (Below.refl _ _).drew) hw7; have hr7 := ho7.rows; have hr57 := SRows.below' (SRows.below' HR5.out (Below.refl _ _).drew) hw7; have hB7 := hB5.drew.trans (hw7.mono hB5.size))
      | (go_at_call 13; refine (eqState_yes wd now given births _ _ _ _ _ _ _ _ _ _ _ _ ks ps ls _ hr57 hr7 HFit.out).mono ?_; rintro e w8 ⟨rfl, hw8⟩; have hB8 := hB7.trans (hw8.mono hB7.size)))
    all_goals
      clear x0 x1 x2 x3 x4 x5 x6 x7 y0 y1 y2 y3 y4 y5 y6 y7 z0 z1 z2 z3 z4 z5 z6 z7 HT HR5 HY
      go_wp2
      go_ret
      exact ⟨rfl, hB8⟩

set_option maxRecDepth 100000 in
theorem lifted (os : Os) (started : os.Started) (H : Type) (enc : TypeId × Value → H) :
    ReturnsInHanded {} Try.checked os 3 .any (Rows.fnExactValidStateSpec.pre6 enc Try.prog Try.f3 Rows.fnExactValidStateRow.domain false) (Rows.fnExactValidStateSpec.post enc Try.prog Try.f3 false true false false) := by
  refine returnsInHanded_of_change (C := Try.checked) own started (by kernel_rfl) Try.func3
    (ChangeSpec.witness6 (enc := enc) (C := Try.checked) false ⟨#[], #[.agg #[.int .i64 0, .int .i64 0, .int .i64 0, .int .i64 0, .slice none 0 0, .slice none 0 0, .slice none 0 0]], []⟩ 8 (by kernel_rfl) (by kernel_rfl) (by kernel_rfl) (by kernel_rfl)) ?_
  intro W base args ds gs before hval0 hW hcnd _
  have hval : ∀ (j : Nat) t v, Try.f3.params[j]? = some t → args[j]? = some v → Value.okWide Try.prog W .any base t v := hval0
  have hW' := hW
  obtain ⟨p, q, hA0, hV, rfl, hfz, hnd⟩ := hW
  have hA : DataW.TrodAll enc Try.prog W 0 (fun _ => true) true Try.f3.params.toList args.toList ds p := hA0
  rw [Try.params3] at hA hval
  obtain ⟨v0, vs0, d0, ds0, p0, q0, hargs, rfl, rfl, h0, r0⟩ := trodAll_cons hA
  obtain ⟨rfl, rfl, rfl⟩ := trodAll_nil r0
  obtain rfl : args = #[v0] := by cases args; simp_all
  obtain ⟨rfl, rfl⟩ := trodVars_none hV
  have k0 := h0
  have lt0 : ∀ x ∈ p0, x.block < W.heap.size := by obtain ⟨m, hm⟩ := k0; exact DataW.trod_lt m _ _ _ hm
  obtain ⟨wd, now, given, births, a, ac, p, pc, l, lc, ks, ps, ls, rfl, hrow, hk, hp, hl, hbw⟩ := read_state (hval 0 26 v0 rfl rfl) h0
  clear hA0 hval0
  refine (walk wd now given births a p l ac pc lc ks ps ls W hrow hk hp hl hbw).mono fun e W' ⟨he, bel⟩ => ?_
  subst he
  exact ⟨_, rfl, _, _, _, [], _, [], hW', trodAll_mk1 (shut_bool Try.underlying4 _), (trodAll_cons_mk (Below.trod laidOut (by kernel_rfl) (of_decide_eq_true (by kernel_rfl)) k0 bel lt0) trodAll_mk0), rfl, bel.frame _, fun h => by cases h⟩

end ExactValidState

end Go.Proofs.Ytbelneejghdmoaa
