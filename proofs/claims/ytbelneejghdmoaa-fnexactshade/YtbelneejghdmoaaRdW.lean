/-
  ValidRound, on both sides.
-/
import Derived.Test.YtbelneejghdmoaaRdS
import Derived.Test.YtbelneejghdmoaaStSV
namespace Go.Proofs.Ytbelneejghdmoaa
open Go.ChangeShapes Go.WideShapes Go.ChangeAt Go.RowKit
attribute [local go_sem ↓] Go.wp_at_zero Go.wp_at_succ

set_option maxRecDepth 20000 in
set_option maxHeartbeats 2000000 in
theorem sValidRound_any (wd now given births : Int) (a p l : Option Addr) (ac pc lc : Nat) (ks : List Kd) (ps : List Pd) (ls : List Ld) (ph top at_ ro : Int) (qa ma : Option Addr) (qac mac : Nat) (qs ms : List ByteArray) (w : World)
    (hrow : SRows w w.heap.size a p l ks ps ls) (hk : KMem ks) (hp : PMem ps) (hf : SFit ks ps ls) (hq : SRow w w.heap.size qa qs) (hm : SRow w w.heap.size ma ms) (hrf : RFit qs ms) (hcap : ms.length ≤ mac) :
    Calls Try.prog 17 #[.agg #[.int .i64 wd, .int .i64 now, .int .i64 given, .int .i64 births, .slice a ks.length ac, .slice p ps.length pc, .slice l ls.length lc], .agg #[.int .i64 ph, .slice qa qs.length qac, .slice ma ms.length mac, .int .i64 top, .int .i64 at_, .int .i64 ro]] w fun e w' => Says (StateOk wd now given births ks ps ls ∧ RoundOk wd births ph top at_ ro qs ms) w w' e := by
  have hb : Below w.heap.size w ((w.alloc (.cells #[.int .i64 wd, .int .i64 now, .int .i64 given, .int .i64 births, .slice a ks.length ac, .slice p ps.length pc, .slice l ls.length lc] 33)).alloc (.cells #[.int .i64 ph, .slice qa qs.length qac, .slice ma ms.length mac, .int .i64 top, .int .i64 at_, .int .i64 ro] 43)) := ((Below.refl _ _).alloc (Nat.le_refl _) _).alloc (by simp) _
  have hsx := (SBox.new w wd now given births (.slice a ks.length ac) (.slice p ps.length pc) (.slice l ls.length lc) 33).below ((Below.refl _ _).alloc (Nat.le_refl _) (.cells #[.int .i64 ph, .slice qa qs.length qac, .slice ma ms.length mac, .int .i64 top, .int .i64 at_, .int .i64 ro] 43))
  have hrx := RBox.new (w.alloc (.cells #[.int .i64 wd, .int .i64 now, .int .i64 given, .int .i64 births, .slice a ks.length ac, .slice p ps.length pc, .slice l ls.length lc] 33)) ph top at_ ro (.slice qa qs.length qac) (.slice ma ms.length mac) 43
  rw [World.size_alloc] at hrx
  go_enter Try.func17, Try.ntmps17
  go_wp2_with fail
  refine (sValidState_any wd now given births a p l ac pc lc ks ps ls _ (hrow.below' hb) hk hp hf).mono ?_
  rintro e w2 ⟨b2, rfl, hs2, hb2⟩
  have hB2 := hb.trans (hb2.mono (by simp; omega))
  obtain ⟨x0, x1, x2, x3, x4, x5, x6⟩ := hrx.below hb2
  obtain ⟨y0, y1, y2, y3, y4, y5, y6, y7⟩ := hsx.below hb2
  clear hb2 hrx hsx hb
  have HS2 : Hid _ := hs2
  clear hs2
  cases b2 with
  | false =>
    have HB2 : Hid _ := hB2
    clear x0 x1 x2 x3 x4 x5 x6 y0 y1 y2 y3 y4 y5 y6 y7 hrow hk hp hf hq hm hB2 hrf
    go_wp2
    go_ret
    exact Says.no (fun h => by have := HS2.out.2 h.1; cases this) HB2.out
  | true =>
    have hok := HS2.out.1 rfl
    have HC : Hid _ := l6Ok_any wd now given births ph top at_ ro (.slice a ks.length ac) (.slice p ps.length pc) (.slice l ls.length lc) qa ma qac mac qs ms w2 (hq.below' hB2) (hm.below' hB2) hrf hcap hok.nums.births2
    have HOK : Hid _ := hok
    have HB2 : Hid _ := hB2
    have hz2 := hB2.size
    clear hrow hk hp hf hq hm hok hB2 HS2
    go_wp2_with fail
    refine Calls.mono HC.out ?_
    rintro e w3 ⟨b3, rfl, hs3, hb3⟩
    have HB3 : Hid _ := HB2.out.trans (hb3.mono hz2)
    have HN : Hid (b3 = true ↔ StateOk wd now given births ks ps ls ∧ RoundOk wd births ph top at_ ro qs ms) := ⟨fun h => ⟨HOK.out, hs3.1 h⟩, fun h => hs3.2 h.2⟩
    clear hs3 HC hb3
    go_wp2
    go_ret
    exact ⟨b3, rfl, HN.out, HB3.out⟩

set_option maxRecDepth 20000 in
set_option maxHeartbeats 2000000 in
theorem iValidRound_any (wd now given births : Int) (a p l : Option Addr) (ac pc lc : Nat) (ks : List Kd) (ps : List Pd) (ls : List Ld) (ph top at_ ro : Int) (qa ma : Option Addr) (qac mac : Nat) (qs ms : List ByteArray) (w : World)
    (hrow : SRows w w.heap.size a p l ks ps ls) (hk : KMem ks) (hp : PMem ps) (hl : LMem ls) (hf : SFit ks ps ls) (hbw : ∀ k ∈ ks, (Lit.int .i64 k.born).wf = true) (hq : SRow w w.heap.size qa qs) (hm : SRow w w.heap.size ma ms) (hrf : RFit qs ms) :
    Calls Try.prog 19 #[.agg #[.int .i64 wd, .int .i64 now, .int .i64 given, .int .i64 births, .slice a ks.length ac, .slice p ps.length pc, .slice l ls.length lc], .agg #[.int .i64 ph, .slice qa qs.length qac, .slice ma ms.length mac, .int .i64 top, .int .i64 at_, .int .i64 ro]] w fun e w' => Says (StateOk wd now given births ks ps ls ∧ RoundOk wd births ph top at_ ro qs ms) w w' e := by
  have hb : Below w.heap.size w ((w.alloc (.cells #[.int .i64 wd, .int .i64 now, .int .i64 given, .int .i64 births, .slice a ks.length ac, .slice p ps.length pc, .slice l ls.length lc] 33)).alloc (.cells #[.int .i64 ph, .slice qa qs.length qac, .slice ma ms.length mac, .int .i64 top, .int .i64 at_, .int .i64 ro] 43)) := ((Below.refl _ _).alloc (Nat.le_refl _) _).alloc (by simp) _
  have hsx := (SBox.new w wd now given births (.slice a ks.length ac) (.slice p ps.length pc) (.slice l ls.length lc) 33).below ((Below.refl _ _).alloc (Nat.le_refl _) (.cells #[.int .i64 ph, .slice qa qs.length qac, .slice ma ms.length mac, .int .i64 top, .int .i64 at_, .int .i64 ro] 43))
  have hrx := RBox.new (w.alloc (.cells #[.int .i64 wd, .int .i64 now, .int .i64 given, .int .i64 births, .slice a ks.length ac, .slice p ps.length pc, .slice l ls.length lc] 33)) ph top at_ ro (.slice qa qs.length qac) (.slice ma ms.length mac) 43
  rw [World.size_alloc] at hrx
  go_enter Try.func19, Try.ntmps19
  go_wp2_with fail
  refine (iValidState_any wd now given births a p l ac pc lc ks ps ls _ (hrow.below' hb) hk hp hl hf hbw).mono ?_
  rintro e w2 ⟨b2, rfl, hs2, hb2⟩
  have hB2 := hb.trans (hb2.mono (by simp; omega))
  obtain ⟨x0, x1, x2, x3, x4, x5, x6⟩ := hrx.below hb2
  obtain ⟨y0, y1, y2, y3, y4, y5, y6, y7⟩ := hsx.below hb2
  clear hb2 hrx hsx hb
  have HS2 : Hid _ := hs2
  clear hs2
  cases b2 with
  | false =>
    have HB2 : Hid _ := hB2
    clear x0 x1 x2 x3 x4 x5 x6 y0 y1 y2 y3 y4 y5 y6 y7 hrow hk hp hf hq hm hB2 hrf
    go_wp2
    go_ret
    exact Says.no (fun h => by have := HS2.out.2 h.1; cases this) HB2.out
  | true =>
    have hok := HS2.out.1 rfl
    have HC : Hid _ := validRound_any ph top at_ ro wd births qa ma qac mac qs ms w2 (hq.below' hB2) (hm.below' hB2) hrf hok.nums.wd2 hok.nums.births2
    have HOK : Hid _ := hok
    have HB2 : Hid _ := hB2
    have hz2 := hB2.size
    clear hrow hk hp hf hq hm hok hB2 HS2
    go_wp2_with fail
    refine Calls.mono HC.out ?_
    rintro e w3 ⟨b3, rfl, hs3, hb3⟩
    have HB3 : Hid _ := HB2.out.trans (hb3.mono hz2)
    have HN : Hid (b3 = true ↔ StateOk wd now given births ks ps ls ∧ RoundOk wd births ph top at_ ro qs ms) := ⟨fun h => ⟨HOK.out, hs3.1 h⟩, fun h => hs3.2 h.2⟩
    clear hs3 HC hb3
    go_wp2
    go_ret
    exact ⟨b3, rfl, HN.out, HB3.out⟩

end Go.Proofs.Ytbelneejghdmoaa
