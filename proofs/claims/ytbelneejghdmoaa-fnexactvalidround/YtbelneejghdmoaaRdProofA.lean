/-
  laws.FnExactValidRound, at every input.
-/
import Derived.Test.YtbelneejghdmoaaRdW
import Derived.Test.YtbelneejghdmoaaRdRead
import Derived.Test.YtbelneejghdmoaaStEq
import Derived.Test.YtbelneejghdmoaaStTo
import Derived.Deep.RegionWith
import Derived.Deep.DeepCutAuto
namespace Go.Proofs.Ytbelneejghdmoaa

namespace ExactValidRound
open Go.ChangeShapes Go.WideShapes Go.ChangeAt Go.RowKit

set_option maxRecDepth 20000 in
set_option maxHeartbeats 8000000 in
theorem walk (wd now given births : Int) (a p l : Option Addr) (ac pc lc : Nat) (ks : List Kd) (ps : List Pd) (ls : List Ld) (ph top at_ ro : Int) (qa ma : Option Addr) (qac mac : Nat) (qs ms : List ByteArray) (w : World)
    (hrow : SRows w w.heap.size a p l ks ps ls) (hk : KMem ks) (hp : PMem ps) (hl : LMem ls) (hbw : ∀ k ∈ ks, (Lit.int .i64 k.born).wf = true)
    (hq : SRow w w.heap.size qa qs) (hm : SRow w w.heap.size ma ms) (hql : qs.length ≤ maxLen) (hqs : ∀ s ∈ qs, s.size ≤ maxLen) (hml : ms.length ≤ maxLen) (hms : ∀ s ∈ ms, s.size ≤ maxLen) :
    Calls Try.prog 5 #[.agg #[.int .i64 wd, .int .i64 now, .int .i64 given, .int .i64 births, .slice a ks.length ac, .slice p ps.length pc, .slice l ls.length lc], .agg #[.int .i64 ph, .slice qa qs.length qac, .slice ma ms.length mac, .int .i64 top, .int .i64 at_, .int .i64 ro]] w fun e w' => e = .returned (.bool true) ∧ Below w.heap.size w w' := by
  have hb0 : Below w.heap.size w ((w.alloc (.cells #[.int .i64 wd, .int .i64 now, .int .i64 given, .int .i64 births, .slice a ks.length ac, .slice p ps.length pc, .slice l ls.length lc] 26)).alloc (.cells #[.int .i64 ph, .slice qa qs.length qac, .slice ma ms.length mac, .int .i64 top, .int .i64 at_, .int .i64 ro] 40)) := ((Below.refl _ _).alloc (Nat.le_refl _) _).alloc (by simp) _
  have hsx := (SBox.new w wd now given births (.slice a ks.length ac) (.slice p ps.length pc) (.slice l ls.length lc) 26).below ((Below.refl _ _).alloc (Nat.le_refl _) (.cells #[.int .i64 ph, .slice qa qs.length qac, .slice ma ms.length mac, .int .i64 top, .int .i64 at_, .int .i64 ro] 40))
  have hrx := RBox.new (w.alloc (.cells #[.int .i64 wd, .int .i64 now, .int .i64 given, .int .i64 births, .slice a ks.length ac, .slice p ps.length pc, .slice l ls.length lc] 26)) ph top at_ ro (.slice qa qs.length qac) (.slice ma ms.length mac) 40
  rw [World.size_alloc] at hrx
  go_enter Try.func5, Try.ntmps5
  go_wp2_with fail
  refine (szState_le wd now given births a p l ac pc lc ks ps ls _ _ (hrow.below' hb0) hk hp hl (by omega) (by omega)).mono ?_
  rintro e w1 ⟨left, rfl, hw1, hle, hfit⟩
  have hB1 := hb0.trans (hw1.mono (by simp; omega))
  have HSX : Hid (SBox w1 w.heap.size wd now given births (.slice a ks.length ac) (.slice p ps.length pc) (.slice l ls.length lc)) := hsx.below hw1
  have HRX : Hid (RBox w1 (w.heap.size + 1) ph (.slice qa qs.length qac) (.slice ma ms.length mac) top at_ ro) := hrx.below hw1
  clear hw1 hsx hrx hb0
  by_cases hneg : left < 0
  · clear hrow hk hp hl hbw hq hm hqs hms hfit
    go_wp2
    go_ret
    exact ⟨rfl, hB1⟩
  have hf : SFit ks ps ls := hfit (by omega)
  obtain ⟨x0, x1, x2, x3, x4, x5, x6⟩ := HRX.out
  have HSZ : Hid _ := szRound_any ph top at_ ro qa ma qac mac qs ms left w1 (hq.below' hB1) (hm.below' hB1) hql hqs hml hms (by omega) (by omega)
  have hT : ∀ W, Below w.heap.size w W → Calls Try.prog 11 #[.agg #[.int .i64 wd, .int .i64 now, .int .i64 given, .int .i64 births, .slice a ks.length ac, .slice p ps.length pc, .slice l ls.length lc]] W fun e w' => ∃ g q r, e = .returned (.agg #[.int .i64 wd, .int .i64 now, .int .i64 given, .int .i64 births, .slice (some ⟨g, 0, none⟩) ks.length ks.length, .slice (some ⟨q, 0, none⟩) ps.length ps.length, .slice (some ⟨r, 0, none⟩) ls.length ls.length]) ∧ SOwn w' W.heap.size g q r ks ps ls ∧ Below W.heap.size W w' := fun W hB => toState_any wd now given births a p l ac pc lc ks ps ls W (hrow.below' hB) hf
  have hTR : ∀ W, Below w.heap.size w W → RFit qs ms → Calls Try.prog 18 #[.agg #[.int .i64 ph, .slice qa qs.length qac, .slice ma ms.length mac, .int .i64 top, .int .i64 at_, .int .i64 ro]] W fun e w' => ∃ g k, e = .returned (.agg #[.int .i64 ph, .slice (some ⟨g, 0, none⟩) qs.length qs.length, .slice (some ⟨k, 0, none⟩) ms.length ms.length, .int .i64 top, .int .i64 at_, .int .i64 ro]) ∧ W.heap.size ≤ g ∧ g < k ∧
      w'.ownsRow W.heap.size 9 1 (.slice (some ⟨g, 0, none⟩) qs.length qs.length) qs.length (qs.map Value.string) ∧ w'.ownsRow W.heap.size 9 1 (.slice (some ⟨k, 0, none⟩) ms.length ms.length) ms.length (ms.map Value.string) ∧ Below W.heap.size W w' := fun W hB hrf => toRound_any ph top at_ ro qa ma qac mac qs ms W (hq.below' hB) (hm.below' hB) hrf
  have hS : ∀ (W : World) (g q r g' k' : Nat), SRows W W.heap.size (some ⟨g, 0, none⟩) (some ⟨q, 0, none⟩) (some ⟨r, 0, none⟩) ks ps ls → SRow W W.heap.size (some ⟨g', 0, none⟩) qs → SRow W W.heap.size (some ⟨k', 0, none⟩) ms → RFit qs ms → Calls Try.prog 17 #[.agg #[.int .i64 wd, .int .i64 now, .int .i64 given, .int .i64 births, .slice (some ⟨g, 0, none⟩) ks.length ks.length, .slice (some ⟨q, 0, none⟩) ps.length ps.length, .slice (some ⟨r, 0, none⟩) ls.length ls.length], .agg #[.int .i64 ph, .slice (some ⟨g', 0, none⟩) qs.length qs.length, .slice (some ⟨k', 0, none⟩) ms.length ms.length, .int .i64 top, .int .i64 at_, .int .i64 ro]] W fun e w' => Says (StateOk wd now given births ks ps ls ∧ RoundOk wd births ph top at_ ro qs ms) W w' e := fun W g q r g' k' h1 h2 h3 hrf => sValidRound_any wd now given births _ _ _ _ _ _ ks ps ls ph top at_ ro _ _ _ _ qs ms W h1 hk hp hf h2 h3 hrf (Nat.le_refl _)
  have hI : ∀ (W : World) (g q r g' k' : Nat), SRows W W.heap.size (some ⟨g, 0, none⟩) (some ⟨q, 0, none⟩) (some ⟨r, 0, none⟩) ks ps ls → SRow W W.heap.size (some ⟨g', 0, none⟩) qs → SRow W W.heap.size (some ⟨k', 0, none⟩) ms → RFit qs ms → Calls Try.prog 19 #[.agg #[.int .i64 wd, .int .i64 now, .int .i64 given, .int .i64 births, .slice (some ⟨g, 0, none⟩) ks.length ks.length, .slice (some ⟨q, 0, none⟩) ps.length ps.length, .slice (some ⟨r, 0, none⟩) ls.length ls.length], .agg #[.int .i64 ph, .slice (some ⟨g', 0, none⟩) qs.length qs.length, .slice (some ⟨k', 0, none⟩) ms.length ms.length, .int .i64 top, .int .i64 at_, .int .i64 ro]] W fun e w' => Says (StateOk wd now given births ks ps ls ∧ RoundOk wd births ph top at_ ro qs ms) W w' e := fun W g q r g' k' h1 h2 h3 hrf => iValidRound_any wd now given births _ _ _ _ _ _ ks ps ls ph top at_ ro _ _ _ _ qs ms W h1 hk hp hl hf hbw h2 h3 hrf
  have HT : Hid _ := hT
  have HTR : Hid _ := hTR
  have HS : Hid _ := hS
  have HI : Hid _ := hI
  have HFit : Hid _ := hf
  clear hT hTR hS hI hf hfit hrow hk hp hl hbw hq hm hqs hms hql hml
  go_wp2_with fail
  refine Calls.mono HSZ.out ?_
  rintro e w2 ⟨left2, rfl, hw2, hrfit⟩
  have hB2 := hB1.trans (hw2.mono hB1.size)
  have HSX : Hid (SBox w2 w.heap.size wd now given births (.slice a ks.length ac) (.slice p ps.length pc) (.slice l ls.length lc)) := SBox.below HSX.out hw2
  have HRX : Hid (RBox w2 (w.heap.size + 1) ph (.slice qa qs.length qac) (.slice ma ms.length mac) top at_ ro) := RBox.below HRX.out hw2
  clear hw2 hB1 x0 x1 x2 x3 x4 x5 x6
  by_cases hneg2 : left2 < 0
  · clear hrfit HSZ HT HTR HS HI HFit
    go_wp2
    go_ret
    exact ⟨rfl, hB2⟩
  have hrf : RFit qs ms := hrfit (by omega)
  have HRF : Hid _ := hrf
  clear hrfit hrf HSZ
  obtain ⟨x0, x1, x2, x3, x4, x5, x6⟩ := HRX.out
  obtain ⟨y0, y1, y2, y3, y4, y5, y6, y7⟩ := HSX.out
  go_upto_region 8 with fail
  go_cut [6] (fun v wx => ∃ b3 : Bool, v = .bool b3 ∧ Hid (b3 = true ↔ (StateOk wd now given births ks ps ls ∧ RoundOk wd births ph top at_ ro qs ms)) ∧ Hid (SBox wx w.heap.size wd now given births (.slice a ks.length ac) (.slice p ps.length pc) (.slice l ls.length lc)) ∧ Hid (RBox wx (w.heap.size + 1) ph (.slice qa qs.length qac) (.slice ma ms.length mac) top at_ ro) ∧ Below w.heap.size w wx)
  case first =>
    go_region_with (first
      | (go_at_call 11; refine (HT.out _ hB2.drew).mono ?_; rintro e w3 ⟨g, q, r, rfl, ho3, hw3⟩; have hB3 := hB2.drew.trans (hw3.mono hB2.size); obtain ⟨u0, u1, u2, u3, u4, u5, u6⟩ := RBox.below (w := w2.drew) HRX.out hw3; have hr3 := ho3.rows; have HS3 := SBox.below (w := w2.drew) HSX.out hw3; have HR3 := RBox.below (w := w2.drew) HRX.out hw3)
      | (go_at_call 18; refine (HTR.out w3 hB3 HRF.out).mono ?_; rintro e w4 ⟨g4, k4, rfl, _, _, ho4, ho4', hw4⟩; have hB4 := hB3.trans (hw4.mono hB3.size); have hr4 := hr3.below' hw4; have hq4 := SRow.own ho4; have hm4 := SRow.own ho4'; have HS4 := HS3.below hw4; have HR4 := HR3.below hw4)
      | (go_at_call 17; refine (HS.out w4 g q r g4 k4 hr4 hq4 hm4 HRF.out).mono ?_; rintro e w5 ⟨b5, rfl, hb5, hw5⟩; have hB5 := hB4.trans (hw5.mono hB4.size); have HS5 := HS4.below hw5; have HR5 := HR4.below hw5))
    all_goals (go_wp2_with fail; go_meet; exact ⟨b5, rfl, hb5, HS5, HR5, hB5⟩)
  case rest =>
  clear x0 x1 x2 x3 x4 x5 x6 y0 y1 y2 y3 y4 y5 y6 y7 HSX HRX hB2 HS
  obtain ⟨b3, rfl, HB3, HSX, HRX, hB3⟩ := hcut
  obtain ⟨x0, x1, x2, x3, x4, x5, x6⟩ := HRX.out
  obtain ⟨y0, y1, y2, y3, y4, y5, y6, y7⟩ := HSX.out
  go_wp2_with fail
  refine (HT.out wc hB3).mono ?_
  rintro e w4 ⟨g4, q4, r4, rfl, ho4, hw4⟩
  have hB4 := hB3.trans (hw4.mono hB3.size)
  have HSX : Hid _ := SBox.below HSX.out hw4
  have HRX : Hid _ := RBox.below HRX.out hw4
  have hr4 := ho4.rows
  clear x0 x1 x2 x3 x4 x5 x6 y0 y1 y2 y3 y4 y5 y6 y7 ho4 hw4 hB3
  obtain ⟨x0, x1, x2, x3, x4, x5, x6⟩ := HRX.out
  obtain ⟨W4, hW4⟩ : ∃ W, W = w4.alloc (.cells #[.int .i64 wd, .int .i64 now, .int .i64 given, .int .i64 births, .slice (some ⟨g4, 0, none⟩) ks.length ks.length, .slice (some ⟨q4, 0, none⟩) ps.length ps.length, .slice (some ⟨r4, 0, none⟩) ls.length ls.length] 33) := ⟨_, rfl⟩
  have h44 : Below w4.heap.size w4 W4 := by rw [hW4]; exact (Below.refl _ _).alloc (Nat.le_refl _) _
  have HI4 : Hid (SBox W4 w4.heap.size wd now given births (.slice (some ⟨g4, 0, none⟩) ks.length ks.length) (.slice (some ⟨q4, 0, none⟩) ps.length ps.length) (.slice (some ⟨r4, 0, none⟩) ls.length ls.length)) := by show SBox W4 w4.heap.size wd now given births (.slice (some ⟨g4, 0, none⟩) ks.length ks.length) (.slice (some ⟨q4, 0, none⟩) ps.length ps.length) (.slice (some ⟨r4, 0, none⟩) ls.length ls.length); rw [hW4]; exact SBox.new _ _ _ _ _ _ _ _ _
  have HR4 : Hid _ := hr4.below' h44
  have HSX : Hid _ := SBox.below HSX.out h44
  have HRX : Hid _ := RBox.below HRX.out h44
  have hB4 := hB4.trans (h44.mono hB4.size)
  have HW4 : Hid _ := hW4
  clear h44 hW4 hr4
  go_wp2_with fail
  rw [← HW4.out]
  refine (HTR.out W4 hB4 HRF.out).mono ?_
  rintro e w5 ⟨g5, k5, rfl, _, _, ho5, ho5', hw5⟩
  have hB5 := hB4.trans (hw5.mono hB4.size)
  have HSX : Hid _ := SBox.below HSX.out hw5
  have HRX : Hid _ := RBox.below HRX.out hw5
  have HI4 : Hid _ := SBox.below HI4.out hw5
  have HR4 : Hid _ := SRows.below' HR4.out hw5
  have hq5 := SRow.own ho5
  have hm5 := SRow.own ho5'
  clear x0 x1 x2 x3 x4 x5 x6 ho5 ho5' hw5 hB4 HW4
  obtain ⟨y0, y1, y2, y3, y4, y5, y6, y7⟩ := HI4.out
  obtain ⟨W5, hW5⟩ : ∃ W, W = w5.alloc (.cells #[.int .i64 ph, .slice (some ⟨g5, 0, none⟩) qs.length qs.length, .slice (some ⟨k5, 0, none⟩) ms.length ms.length, .int .i64 top, .int .i64 at_, .int .i64 ro] 43) := ⟨_, rfl⟩
  have h55 : Below w5.heap.size w5 W5 := by rw [hW5]; exact (Below.refl _ _).alloc (Nat.le_refl _) _
  have HI5 : Hid (RBox W5 w5.heap.size ph (.slice (some ⟨g5, 0, none⟩) qs.length qs.length) (.slice (some ⟨k5, 0, none⟩) ms.length ms.length) top at_ ro) := by show RBox W5 w5.heap.size ph (.slice (some ⟨g5, 0, none⟩) qs.length qs.length) (.slice (some ⟨k5, 0, none⟩) ms.length ms.length) top at_ ro; rw [hW5]; exact RBox.new _ _ _ _ _ _ _ _
  have HR5 : Hid _ := And.intro (hq5.below' h55) (hm5.below' h55)
  have HR4 : Hid _ := SRows.below' HR4.out h55
  have HI4 : Hid _ := SBox.below HI4.out h55
  have HSX : Hid _ := SBox.below HSX.out h55
  have HRX : Hid _ := RBox.below HRX.out h55
  have hB5 := hB5.trans (h55.mono hB5.size)
  have HW5 : Hid _ := hW5
  clear h55 hW5 hq5 hm5
  go_wp2_with fail
  rw [← HW5.out]
  refine (HI.out W5 g4 q4 r4 g5 k5 HR4.out HR5.out.1 HR5.out.2 HRF.out).mono ?_
  rintro e w6 ⟨b6, rfl, hb6, hw6⟩
  have hbb : b6 = b3 := by
    have h9 := HB3.out
    cases b6 <;> cases b3 <;> first | rfl | (have := h9.2 (hb6.1 rfl); cases this) | (have := hb6.2 (h9.1 rfl); cases this)
  subst hbb
  have hB6 := hB5.trans (hw6.mono hB5.size)
  have HSX : Hid _ := SBox.below HSX.out hw6
  have HRX : Hid _ := RBox.below HRX.out hw6
  have HI4 : Hid _ := SBox.below HI4.out hw6
  have HI5 : Hid _ := RBox.below HI5.out hw6
  have HR4 : Hid _ := SRows.below' HR4.out hw6
  have HR5 : Hid _ := And.intro (SRow.below' HR5.out.1 hw6) (SRow.below' HR5.out.2 hw6)
  clear y0 y1 y2 y3 y4 y5 y6 y7 hb6 hw6 HB3 HW5 HI hB5
  obtain ⟨x0, x1, x2, x3, x4, x5, x6, x7⟩ := HI4.out
  obtain ⟨y0, y1, y2, y3, y4, y5, y6, y7⟩ := HSX.out
  go_upto_region 14 with fail
  go_cut [39] (fun v wx => v = .bool false ∧ Hid (RBox wx (w.heap.size + 1) ph (.slice qa qs.length qac) (.slice ma ms.length mac) top at_ ro) ∧ Hid (RBox wx w5.heap.size ph (.slice (some ⟨g5, 0, none⟩) qs.length qs.length) (.slice (some ⟨k5, 0, none⟩) ms.length ms.length) top at_ ro) ∧ Hid (SRow wx wx.heap.size (some ⟨g5, 0, none⟩) qs ∧ SRow wx wx.heap.size (some ⟨k5, 0, none⟩) ms) ∧ Below w.heap.size w wx)
  case first =>
    go_region_with (first
      | (go_at_call 11; refine (HT.out _ hB6.drew).mono ?_; rintro e w7 ⟨g7, q7, r7, rfl, ho7, hw7⟩; have hw67 : Below w6.heap.size w6 w7 := (Below.refl w6.heap.size w6).drew.trans hw7; obtain ⟨z0, z1, z2, z3, z4, z5, z6, z7⟩ := SBox.below HI4.out hw67; have hr7 := ho7.rows; have hr47 := SRows.below' HR4.out hw67)
      | (go_at_call 13; refine (eqState_yes wd now given births _ _ _ _ _ _ _ _ _ _ _ _ ks ps ls _ hr47 hr7 HFit.out).mono ?_; rintro e w8 ⟨rfl, hw8⟩; have hw68 := hw67.trans (hw8.mono hw67.size)))
    all_goals (go_wp2_with fail; go_meet; exact ⟨rfl, RBox.below HRX.out hw68, RBox.below HI5.out hw68, And.intro (SRow.below' HR5.out.1 hw68) (SRow.below' HR5.out.2 hw68), hB6.trans (hw68.mono hB6.size)⟩)
  case rest =>
  clear x0 x1 x2 x3 x4 x5 x6 x7 y0 y1 y2 y3 y4 y5 y6 y7 HSX HRX HI4 HI5 HR4 HR5 hB6 HT
  obtain ⟨rfl, HRX, HI5, HR5, hB8⟩ := hcut
  obtain ⟨x0, x1, x2, x3, x4, x5, x6⟩ := HRX.out
  obtain ⟨y0, y1, y2, y3, y4, y5, y6⟩ := HI5.out
  go_upto_region 16 with fail
  go_cut [44] (fun v wx => v = .bool false ∧ Below w.heap.size w wx)
  case first =>
    go_region_with (first
      | (go_at_call 18; refine (HTR.out _ hB8.drew HRF.out).mono ?_; rintro e w9 ⟨g9, k9, rfl, _, _, ho9, ho9', hw9⟩; have hw89 := (Below.refl _ _).drew.trans hw9; obtain ⟨z0, z1, z2, z3, z4, z5, z6⟩ := RBox.below HI5.out hw89; have hq9 := SRow.own ho9; have hm9 := SRow.own ho9'; have hq59 := SRow.below' HR5.out.1 hw89; have hm59 := SRow.below' HR5.out.2 hw89)
      | (go_at_call 20; refine (eqRound_yes ph top at_ ro _ _ _ _ _ _ _ _ qs ms _ hq59 hm59 hq9 hm9 HRF.out).mono ?_; rintro e w10 ⟨rfl, hw10⟩; have hw810 := hw89.trans (hw10.mono hw89.size)))
    all_goals (go_wp2_with fail; go_meet; exact ⟨rfl, hB8.trans (hw810.mono hB8.size)⟩)
  case rest =>
  obtain ⟨rfl, hB9⟩ := hcut
  clear x0 x1 x2 x3 x4 x5 x6 y0 y1 y2 y3 y4 y5 y6 HRX HI5 HR5 HTR
  go_wp2
  go_ret
  exact ⟨rfl, hB9⟩

set_option maxRecDepth 100000 in
theorem lifted (os : Os) (started : os.Started) (H : Type) (enc : TypeId × Value → H) :
    ReturnsInHanded {} Try.checked os 5 .any (Rows.fnExactValidRoundSpec.pre6 enc Try.prog Try.f5 Rows.fnExactValidRoundRow.domain false) (Rows.fnExactValidRoundSpec.post enc Try.prog Try.f5 false true false false) := by
  refine returnsInHanded_of_change (C := Try.checked) own started (by kernel_rfl) Try.func5
    (ChangeSpec.witness6 (enc := enc) (C := Try.checked) false ⟨#[], #[.agg #[.int .i64 0, .int .i64 0, .int .i64 0, .int .i64 0, .slice none 0 0, .slice none 0 0, .slice none 0 0], .agg #[.int .i64 0, .slice none 0 0, .slice none 0 0, .int .i64 0, .int .i64 0, .int .i64 0]], []⟩ 8 (by kernel_rfl) (by kernel_rfl) (by kernel_rfl) (by kernel_rfl)) ?_
  intro W base args ds gs before hval0 hW hcnd _
  have hval : ∀ (j : Nat) t v, Try.f5.params[j]? = some t → args[j]? = some v → Value.okWide Try.prog W .any base t v := hval0
  have hW' := hW
  obtain ⟨p, q, hA0, hV, rfl, hfz, hnd⟩ := hW
  have hA : DataW.TrodAll enc Try.prog W 0 (fun _ => true) true Try.f5.params.toList args.toList ds p := hA0
  rw [Try.params5] at hA hval
  obtain ⟨v0, vs0, d0, ds0, p0, q0, hargs, rfl, rfl, h0, r0⟩ := trodAll_cons hA
  obtain ⟨v1, vs1, d1, ds1, p1, q1, rfl, rfl, rfl, h1, r1⟩ := trodAll_cons r0
  obtain ⟨rfl, rfl, rfl⟩ := trodAll_nil r1
  obtain rfl : args = #[v0, v1] := by cases args; simp_all
  obtain ⟨rfl, rfl⟩ := trodVars_none hV
  have k0 := h0
  have k1 := h1
  have lt0 : ∀ x ∈ p0, x.block < W.heap.size := by obtain ⟨m, hm⟩ := k0; exact DataW.trod_lt m _ _ _ hm
  have lt1 : ∀ x ∈ p1, x.block < W.heap.size := by obtain ⟨m, hm⟩ := k1; exact DataW.trod_lt m _ _ _ hm
  obtain ⟨wd, now, given, births, a, ac, p, pc, l, lc, ks, ps, ls, rfl, hrow, hk, hp, hl, hbw⟩ := read_state (hval 0 26 v0 rfl rfl) h0
  obtain ⟨ph, top, at_, ro, qa, qac, ma, mac, qs, ms, rfl, hq, hm, hql, hqs, hml, hms⟩ := read_round (hval 1 40 v1 rfl rfl) h1
  clear hA0 hval0
  refine (walk wd now given births a p l ac pc lc ks ps ls ph top at_ ro qa ma qac mac qs ms W hrow hk hp hl hbw hq hm hql hqs hml hms).mono fun e W' ⟨he, bel⟩ => ?_
  subst he
  exact ⟨_, rfl, _, _, _, [], _, [], hW', trodAll_mk1 (shut_bool Try.underlying4 _), (trodAll_cons_mk (Below.trod laidOut (by kernel_rfl) (of_decide_eq_true (by kernel_rfl)) k0 bel lt0) (trodAll_cons_mk (Below.trod laidOut (by kernel_rfl) (of_decide_eq_true (by kernel_rfl)) k1 bel lt1) trodAll_mk0)), rfl, bel.frame _, fun h => by cases h⟩

end ExactValidRound

end Go.Proofs.Ytbelneejghdmoaa
