/-
  impl.validRound, impl.ValidRound.
-/
import Derived.Test.YtbelneejghdmoaaRdI
import Derived.Test.YtbelneejghdmoaaStIV
namespace Go.Proofs.Ytbelneejghdmoaa
open Go.ChangeShapes Go.WideShapes Go.ChangeAt Go.RowKit
attribute [local go_sem ↓] Go.wp_at_zero Go.wp_at_succ

/-- The parts of a round fit its phase. -/
def PhOk (births ph top at_ : Int) (qs ms : List ByteArray) : Prop :=
  (ph = 0 ∧ qs = [] ∧ ms = [] ∧ top = 0 ∧ at_ = 0) ∨ (ph = 1 ∧ 0 ≤ top ∧ top ≤ births ∧ at_ = top + 1) ∨ (ph = 2 ∧ 0 ≤ top ∧ top ≤ births ∧ 1 ≤ at_ ∧ at_ ≤ top + 1)

/-- A round is valid for a state of width wd. -/
structure RoundOk (wd births ph top at_ ro : Int) (qs ms : List ByteArray) : Prop where
  ro1 : 0 ≤ ro
  ro2 : ro ≤ 1000000000
  sums : SumsOk wd qs ms
  ph : PhOk births ph top at_ qs ms

set_option maxRecDepth 20000 in
set_option maxHeartbeats 4000000 in
theorem validRound_any (ph top at_ ro wd births : Int) (a b : Option Addr) (ac bc : Nat) (qs ms : List ByteArray) (w : World) (hq : SRow w w.heap.size a qs) (hm : SRow w w.heap.size b ms) (hf : RFit qs ms) (h8 : wd ≤ 8) (hbi : births ≤ 1000000000) :
    Calls Try.prog 61 #[.agg #[.int .i64 ph, .slice a qs.length ac, .slice b ms.length bc, .int .i64 top, .int .i64 at_, .int .i64 ro], .int .i64 wd, .int .i64 births] w fun e w' => Says (RoundOk wd births ph top at_ ro qs ms) w w' e := by
  have hfq := hf.q
  have hfm := hf.m
  have hb : Below w.heap.size w (w.alloc (.cells #[.int .i64 ph, .slice a qs.length ac, .slice b ms.length bc, .int .i64 top, .int .i64 at_, .int .i64 ro] 43)) := (Below.refl _ _).alloc (Nat.le_refl _) _
  have hx := RBox.new w ph top at_ ro (.slice a qs.length ac) (.slice b ms.length bc) 43
  go_enter Try.func61, Try.ntmps61
  go_wp2_with fail
  refine (itime_any ro _).mono ?_
  rintro e w1 ⟨rfl, rfl⟩
  by_cases h1 : 0 ≤ ro ∧ ro ≤ 1000000000
  · rw [decide_eq_true h1]
    go_wp2_with fail
    refine (validSums_any ph top at_ ro wd a b ac bc qs ms _ (hq.below' hb) (hm.below' hb) hf h8).mono ?_
    rintro e w2 ⟨b2, rfl, hs2, hb2⟩
    have hB2 := hb.trans (hb2.mono (by simp))
    obtain ⟨x0, x1, x2, x3, x4, x5, x6⟩ := hx.below hb2
    clear hb2 hx
    cases b2 with
    | false =>
      go_wp2
      go_ret
      exact Says.no (fun h => by have := hs2.2 h.sums; cases this) hB2
    | true =>
      have hsum := hs2.1 rfl
      have HS : Hid _ := hsum
      clear hs2 hsum
      by_cases p0 : ph = 0
      · subst p0
        by_cases e1 : qs.length = 0
        · by_cases e2 : ms.length = 0
          · by_cases e3 : top = 0
            · by_cases e4 : at_ = 0
              · go_wp2
                go_ret
                exact Says.yes ⟨h1.1, h1.2, HS.out, .inl ⟨rfl, List.eq_nil_of_length_eq_zero e1, List.eq_nil_of_length_eq_zero e2, e3, e4⟩⟩ hB2
              · have e4' : (at_ == 0) = false := by simpa using e4
                go_wp2
                go_ret
                exact Says.no (P := RoundOk wd births 0 top at_ ro qs ms) (fun h => by have := h.ph; unfold PhOk at this; simp at this; have h9 := this.2.2.2; omega) hB2
            · have e3' : (top == 0) = false := by simpa using e3
              go_wp2
              go_ret
              exact Says.no (fun h => by have := h.ph; unfold PhOk at this; simp at this; have h9 := this.2.2.1; omega) hB2
          · have e2' : ((ms.length : Int) == 0) = false := beq_eq_false_iff_ne.2 (by omega)
            go_wp2
            go_ret
            exact Says.no (fun h => by have := h.ph; unfold PhOk at this; simp at this; exact e2 (by rw [this.2.1]; rfl)) hB2
        · have e1' : ((qs.length : Int) == 0) = false := beq_eq_false_iff_ne.2 (by omega)
          go_wp2
          go_ret
          exact Says.no (fun h => by have := h.ph; unfold PhOk at this; simp at this; exact e1 (by rw [this.1]; rfl)) hB2
      · have p0' : (ph == 0) = false := by simpa using p0
        by_cases p1 : ph = 1
        · subst p1
          by_cases e1 : 0 ≤ top
          · by_cases e2 : top ≤ births
            · have hwr : IntKind.i64.wrap (top + 1) = top + 1 := cnt_wrap (by omega) (by omega)
              by_cases e3 : at_ = top + 1
              · have e3' : (at_ == top + 1) = true := by simpa using e3
                go_wp2
                go_ret
                exact Says.yes (P := RoundOk wd births 1 top at_ ro qs ms) ⟨h1.1, h1.2, HS.out, .inr (.inl ⟨rfl, e1, e2, e3⟩)⟩ hB2
              · have e3' : (at_ == top + 1) = false := by simpa using e3
                go_wp2
                go_ret
                exact Says.no (P := RoundOk wd births 1 top at_ ro qs ms) (fun h => by have := h.ph; unfold PhOk at this; simp at this; have h9 := this.2.2; omega) hB2
            · have e2' : decide (top ≤ births) = false := by simpa using e2
              go_wp2
              go_ret
              exact Says.no (P := RoundOk wd births 1 top at_ ro qs ms) (fun h => by have := h.ph; unfold PhOk at this; simp at this; have h9 := this.2.1; omega) hB2
          · have e1' : decide (0 ≤ top) = false := by simpa using e1
            go_wp2
            go_ret
            exact Says.no (P := RoundOk wd births 1 top at_ ro qs ms) (fun h => by have := h.ph; unfold PhOk at this; simp at this; have h9 := this.1; omega) hB2
        · have p1' : (ph == 1) = false := by simpa using p1
          by_cases p2 : ph = 2
          · subst p2
            by_cases e1 : 0 ≤ top
            · by_cases e2 : top ≤ births
              · have hwr : IntKind.i64.wrap (top + 1) = top + 1 := cnt_wrap (by omega) (by omega)
                by_cases e3 : 1 ≤ at_
                · by_cases e4 : at_ ≤ top + 1
                  · have e4' : decide (at_ ≤ top + 1) = true := by simpa using e4
                    go_wp2
                    go_ret
                    exact Says.yes (P := RoundOk wd births 2 top at_ ro qs ms) ⟨h1.1, h1.2, HS.out, .inr (.inr ⟨rfl, e1, e2, e3, e4⟩)⟩ hB2
                  · have e4' : decide (at_ ≤ top + 1) = false := by simpa using e4
                    go_wp2
                    go_ret
                    exact Says.no (P := RoundOk wd births 2 top at_ ro qs ms) (fun h => by have := h.ph; unfold PhOk at this; simp at this; have h9 := this.2.2.2; omega) hB2
                · have e3' : decide (1 ≤ at_) = false := by simpa using e3
                  go_wp2
                  go_ret
                  exact Says.no (P := RoundOk wd births 2 top at_ ro qs ms) (fun h => by have := h.ph; unfold PhOk at this; simp at this; have h9 := this.2.2.1; omega) hB2
              · have e2' : decide (top ≤ births) = false := by simpa using e2
                go_wp2
                go_ret
                exact Says.no (P := RoundOk wd births 2 top at_ ro qs ms) (fun h => by have := h.ph; unfold PhOk at this; simp at this; have h9 := this.2.1; omega) hB2
            · have e1' : decide (0 ≤ top) = false := by simpa using e1
              go_wp2
              go_ret
              exact Says.no (P := RoundOk wd births 2 top at_ ro qs ms) (fun h => by have := h.ph; unfold PhOk at this; simp at this; have h9 := this.1; omega) hB2
          · have p2' : (ph == 2) = false := by simpa using p2
            go_wp2
            go_ret
            exact Says.no (P := RoundOk wd births ph top at_ ro qs ms) (fun h => by rcases h.ph with h | h | h; exact p0 h.1; exact p1 h.1; exact p2 h.1) hB2
  · rw [decide_eq_false h1]
    go_wp2
    go_ret
    exact Says.no (fun h => h1 ⟨h.ro1, h.ro2⟩) hb

end Go.Proofs.Ytbelneejghdmoaa
