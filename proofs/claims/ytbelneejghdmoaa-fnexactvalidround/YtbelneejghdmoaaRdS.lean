/-
  spec.l6Ok: a round is valid.
-/
import Derived.Test.YtbelneejghdmoaaRdV
import Derived.Test.YtbelneejghdmoaaStHas
import Derived.Test.YtbelneejghdmoaaStST
import Derived.Test.YtbelneejghdmoaaCls
namespace Go.Proofs.Ytbelneejghdmoaa
open Go.ChangeShapes Go.WideShapes Go.ChangeAt Go.RowKit
attribute [local go_sem ↓] Go.wp_at_zero Go.wp_at_succ

theorem nodup_takes {ms : List ByteArray} : ms.Nodup ↔ ∀ (j : Nat) x, ms[j]? = some x → x ∉ ms.take j := by
  unfold List.Nodup
  rw [List.pairwise_iff_getElem]
  constructor
  · intro h j x hj hm
    obtain ⟨hj1, rfl⟩ := List.getElem?_eq_some_iff.1 hj
    obtain ⟨i, hi, e⟩ := List.getElem_of_mem hm
    have hi' : i < j := by simp at hi; omega
    rw [List.getElem_take] at e
    exact h i j (by omega) hj1 hi' e
  · intro h i j hi hj hij e
    refine h j ms[j] (List.getElem?_eq_getElem hj) ?_
    rw [← e]
    have hi2 : i < (ms.take j).length := by simp; omega
    have := List.getElem_mem hi2
    rw [List.getElem_take] at this
    exact this

theorem SRow.front {w : World} {B : Nat} {a : Option Addr} {tt : List ByteArray} (h : SRow w B a tt) (K : Nat) : SRow w B a (tt.take K) := by
  rcases h with h | ⟨q, off, h1, h2, h3⟩
  · exact .inl (by simp [h])
  · refine .inr ⟨q, off, h1, h2, fun i s his => h3 i s ?_⟩
    have hi := (List.getElem?_eq_some_iff.1 his).1
    simp at hi
    rw [List.getElem?_take_of_lt (by omega)] at his
    exact his

set_option maxRecDepth 20000 in
set_option maxHeartbeats 8000000 in
theorem l6Ok_any (wd now given births ph top at_ ro : Int) (T P L : Value) (a b : Option Addr) (ac bc : Nat) (qs ms : List ByteArray) (w : World) (hq : SRow w w.heap.size a qs) (hm : SRow w w.heap.size b ms) (hf : RFit qs ms) (hcap : ms.length ≤ bc) (hbi : births ≤ 1000000000) :
    Calls Try.prog 59 #[.agg #[.int .i64 wd, .int .i64 now, .int .i64 given, .int .i64 births, T, P, L], .agg #[.int .i64 ph, .slice a qs.length ac, .slice b ms.length bc, .int .i64 top, .int .i64 at_, .int .i64 ro]] w fun e w' => Says (RoundOk wd births ph top at_ ro qs ms) w w' e := by
  have hfq := hf.q
  have hfm := hf.m
  obtain ⟨W, hW⟩ : ∃ W, W = (w.alloc (.cells #[.int .i64 wd, .int .i64 now, .int .i64 given, .int .i64 births, T, P, L] 33)).alloc (.cells #[.int .i64 ph, .slice a qs.length ac, .slice b ms.length bc, .int .i64 top, .int .i64 at_, .int .i64 ro] 43) := ⟨_, rfl⟩
  have hbW : Below w.heap.size w W := by rw [hW]; exact ((Below.refl _ _).alloc (Nat.le_refl _) _).alloc (by simp) _
  have hsx : SBox W w.heap.size wd now given births T P L := by rw [hW]; exact (SBox.new w wd now given births T P L 33).below ((Below.refl _ _).alloc (Nat.le_refl _) _)
  have hrx : RBox W (w.heap.size + 1) ph (.slice a qs.length ac) (.slice b ms.length bc) top at_ ro := by
    rw [hW]
    have := RBox.new (w.alloc (.cells #[.int .i64 wd, .int .i64 now, .int .i64 given, .int .i64 births, T, P, L] 33)) ph top at_ ro (.slice a qs.length ac) (.slice b ms.length bc) 43
    rw [World.size_alloc] at this
    exact this
  have hzW : W.heap.size = w.heap.size + 2 := by rw [hW]; simp
  have HW : Hid _ := hW
  clear hW
  have HSX : Hid _ := hsx
  have HRX : Hid _ := hrx
  have HQ : Hid _ := hq
  have HM : Hid _ := hm
  clear hsx hrx hq hm
  by_cases p1 : ph < 0
  · have d1 : decide (ph < 0) = true := by simpa using p1
    go_enter Try.func59, Try.ntmps59
    go_wp2
    go_ret
    rw [← HW.out]
    exact Says.no (P := RoundOk wd births ph top at_ ro qs ms) (fun h => by rcases h.ph with h | h | h <;> (have := h.1; omega)) hbW
  have d1 : decide (ph < 0) = false := by simpa using p1
  by_cases p2 : 2 < ph
  · have d2 : decide ((2 : Int) < ph) = true := by simpa using p2
    go_enter Try.func59, Try.ntmps59
    go_wp2
    go_ret
    rw [← HW.out]
    exact Says.no (P := RoundOk wd births ph top at_ ro qs ms) (fun h => by rcases h.ph with h | h | h <;> (have := h.1; omega)) hbW
  have d2 : decide ((2 : Int) < ph) = false := by simpa using p2
  go_enter Try.func59, Try.ntmps59
  go_wp2_with fail
  rw [← HW.out]
  refine (range_any ro 0 1000000000 W).mono ?_
  rintro e w1 ⟨rfl, rfl⟩
  obtain ⟨x0, x1, x2, x3, x4, x5, x6⟩ := HRX.out
  by_cases h1 : 0 ≤ ro ∧ ro ≤ 1000000000
  · rw [decide_eq_true h1]
    by_cases h2 : qs.length ≤ 23200
    · have e2 : decide ((23200 : Int) < (qs.length : Int)) = false := by simp; omega
      by_cases h3 : ms.length ≤ 600
      · have e3 : decide ((600 : Int) < (ms.length : Int)) = false := by simp; omega
        clear HW
        go_wp2
        go_loopw [5] (fun i wr => ∃ k : Nat, k ≤ qs.length ∧ i = .int .i64 k ∧ Hid (∀ j x, j < k → qs[j]? = some x → (x.size : Int) = wd) ∧ Hid (SBox wr w.heap.size wd now given births T P L) ∧ Hid (RBox wr (w.heap.size + 1) ph (.slice a qs.length ac) (.slice b ms.length bc) top at_ ro) ∧ Below w.heap.size w wr) (fun i _ => qs.length - (intOf i).toNat)
        case atStart => exact ⟨0, Nat.zero_le _, rfl, fun j x h => by omega, HSX, HRX, hbW⟩
        case round =>
          clear x0 x1 x2 x3 x4 x5 x6 HSX HRX hbW hzW
          obtain ⟨k, hk, rfl, hall, HSX, HRX, hbW⟩ := hrel
          obtain ⟨x0, x1, x2, x3, x4, x5, x6⟩ := HRX.out
          obtain ⟨y0, _, _, y3, _, _, _, y7⟩ := HSX.out
          by_cases hlt : k < qs.length
          · obtain ⟨b', off, ha, hb, hc⟩ := (SRow.below HQ.out hbW).at hlt
            subst ha
            have hg : Hid (qs[k]? = some qs[k]) := List.getElem?_eq_getElem hlt
            have c0 := hc k _ hg
            have hb'' : b' < wr.heap.size := Nat.lt_of_lt_of_le hb hbW.size
            clear hc
            generalize qs[k] = x at *
            have q1 := Cls.cell x1 x6
            have q2 := Cls.cell c0 hb''
            have q3 := Cls.cell y0 y7
            have hne := Cls.ne wr
            by_cases h : (x.size : Int) = wd
            · have hn : ((x.size : Int) != wd) = false := by simp [h]
              have HA : Hid (∀ j y, j < k + 1 → qs[j]? = some y → (y.size : Int) = wd) := by
                intro j y hj hy
                rcases Nat.lt_or_ge j k with h' | h'
                · exact hall j y h' hy
                · obtain rfl : j = k := by omega
                  rw [hg.out] at hy
                  cases hy
                  exact h
              go_wp2
              refine region_cls_lit (by kernel_rfl) (by kernel_rfl) ?_
              repeat (go_big_quiet_step (fail))
              refine wpQuiet_nil ?_
              intro n
              have HSn : Hid _ := SBox.keep HSX.out n.h y7
              have HRn : Hid _ := RBox.keep HRX.out n.h x6
              have hbn : Below w.heap.size w n.w := hbW.trans (n.h.mono hbW.size)
              clear q1 q2 q3 x0 x1 x2 x3 x4 x5 y0 y3 c0
              go_wp2
              exact ⟨⟨k + 1, by omega, by go_num, HA, HSn, HRn, hbn⟩, by simp [intOf]; omega⟩
            · have hn : ((x.size : Int) != wd) = true := by simp [h]
              go_wp2
              refine region_cls_lit (by kernel_rfl) (by kernel_rfl) ?_
              repeat (go_big_quiet_step (fail))
              refine wpQuiet_nil ?_
              intro n
              have hbn : Below w.heap.size w n.w := hbW.trans (n.h.mono hbW.size)
              clear q1 q2 q3 x0 x1 x2 x3 x4 x5 y0 y3 c0
              go_wp2
              go_ret
              exact Says.no (P := RoundOk wd births ph top at_ ro qs ms) (fun h' => h (h'.sums.q x (List.mem_of_getElem? hg.out))) hbn
          · have HQA : Hid (∀ s ∈ qs, (s.size : Int) = wd) := by
              intro s hs
              obtain ⟨j, hj, rfl⟩ := List.getElem_of_mem hs
              exact hall j _ (by omega) (List.getElem?_eq_getElem hj)
            clear hall
            go_wp2
            go_loopw [6] (fun i wr => ∃ k : Nat, k ≤ ms.length ∧ i = .int .i64 k ∧ Hid (∀ j x, j < k → ms[j]? = some x → (x.size : Int) = wd ∧ x ∉ ms.take j) ∧ Hid (SBox wr w.heap.size wd now given births T P L) ∧ Hid (RBox wr (w.heap.size + 1) ph (.slice a qs.length ac) (.slice b ms.length bc) top at_ ro) ∧ Below w.heap.size w wr) (fun i _ => ms.length - (intOf i).toNat)
            case atStart => exact ⟨0, Nat.zero_le _, rfl, fun j x h => by omega, HSX, HRX, hbW⟩
            case round =>
              clear x0 x1 x2 x3 x4 x5 x6 y0 y3 y7 HSX HRX hbW
              obtain ⟨k, hk, rfl, hall, HSX, HRX, hbW⟩ := hrel
              obtain ⟨x0, x1, x2, x3, x4, x5, x6⟩ := HRX.out
              obtain ⟨y0, _, _, y3, _, _, _, y7⟩ := HSX.out
              by_cases hlt : k < ms.length
              · obtain ⟨b', off, ha, hb, hc⟩ := (SRow.below HM.out hbW).at hlt
                subst ha
                have hg : Hid (ms[k]? = some ms[k]) := List.getElem?_eq_getElem hlt
                have c0 := hc k _ hg
                have hb'' : b' < wr.heap.size := Nat.lt_of_lt_of_le hb hbW.size
                clear hc
                generalize ms[k] = x at *
                have q1 := Cls.cell x2 x6
                have q2 := Cls.cell c0 hb''
                have q3 := Cls.cell y0 y7
                have hne := Cls.ne wr
                have htl : (ms.take k).length = k := by simp; omega
                have hH : ∀ n : Cls wr, Calls Try.prog 68 #[.slice (some ⟨b', off, none⟩) k bc, .string x] n.w fun e w' => e = .returned (.bool ((ms.take k).any (fun y => decide (y = x)))) ∧ Below n.w.heap.size n.w w' := fun n => by
                  have := has_any (some ⟨b', off, none⟩) bc (ms.take k) x n.w w.heap.size (SRow.front (SRow.below HM.out (hbW.trans (n.h.mono hbW.size))) k) (by omega)
                  rw [htl] at this
                  exact this.mono (by rintro e w' ⟨rfl, rfl⟩; exact ⟨rfl, Below.refl _ _⟩)
                have HH : Hid _ := hH
                clear hH
                have hkc : k ≤ bc := by omega
                by_cases h : (x.size : Int) = wd
                · have hn : ((x.size : Int) != wd) = false := by simp [h]
                  cases hin : (ms.take k).any (fun y => decide (y = x)) with
                  | false =>
                    rw [hin] at HH
                    have hnot : x ∉ ms.take k := fun hx => by
                      have : (ms.take k).any (fun y => decide (y = x)) = true := List.any_eq_true.2 ⟨x, hx, by simp⟩
                      rw [hin] at this
                      cases this
                    have HA : Hid (∀ j y, j < k + 1 → ms[j]? = some y → (y.size : Int) = wd ∧ y ∉ ms.take j) := by
                      intro j y hj hy
                      rcases Nat.lt_or_ge j k with h' | h'
                      · exact hall j y h' hy
                      · obtain rfl : j = k := by omega
                        rw [hg.out] at hy
                        cases hy
                        exact ⟨h, hnot⟩
                    clear hnot hall
                    go_wp2
                    refine region_cls_lit (by kernel_rfl) (by kernel_rfl) ?_
                    repeat (go_big_quiet_step (exact Cls.calls (HH.out _)))
                    refine wpQuiet_nil ?_
                    intro n
                    have HSn : Hid _ := SBox.keep HSX.out n.h y7
                    have HRn : Hid _ := RBox.keep HRX.out n.h x6
                    have hbn : Below w.heap.size w n.w := hbW.trans (n.h.mono hbW.size)
                    clear q1 q2 q3 x0 x1 x2 x3 x4 x5 y0 y3 c0
                    go_wp2
                    exact ⟨⟨k + 1, by omega, by go_num, HA, HSn, HRn, hbn⟩, by simp [intOf]; omega⟩
                  | true =>
                    rw [hin] at HH
                    have HN : Hid (x ∈ ms.take k) := by
                      obtain ⟨y, hy, e⟩ := List.any_eq_true.1 hin
                      have : y = x := by simpa using e
                      rw [← this]
                      exact hy
                    clear hall
                    go_wp2
                    refine region_cls_lit (by kernel_rfl) (by kernel_rfl) ?_
                    repeat (go_big_quiet_step (exact Cls.calls (HH.out _)))
                    refine wpQuiet_nil ?_
                    intro n
                    have hbn : Below w.heap.size w n.w := hbW.trans (n.h.mono hbW.size)
                    clear q1 q2 q3 x0 x1 x2 x3 x4 x5 y0 y3 c0
                    go_wp2
                    go_ret
                    exact Says.no (P := RoundOk wd births ph top at_ ro qs ms) (fun h' => (nodup_takes.1 h'.sums.nd) k x hg.out HN.out) hbn
                · have hn : ((x.size : Int) != wd) = true := by simp [h]
                  go_wp2
                  refine region_cls_lit (by kernel_rfl) (by kernel_rfl) ?_
                  repeat (go_big_quiet_step (fail))
                  refine wpQuiet_nil ?_
                  intro n
                  have hbn : Below w.heap.size w n.w := hbW.trans (n.h.mono hbW.size)
                  clear q1 q2 q3 x0 x1 x2 x3 x4 x5 y0 y3 c0
                  go_wp2
                  go_ret
                  exact Says.no (P := RoundOk wd births ph top at_ ro qs ms) (fun h' => h (h'.sums.m x (List.mem_of_getElem? hg.out))) hbn
              · have HS : Hid (SumsOk wd qs ms) := by
                  refine ⟨h2, h3, HQA.out, fun s hs => ?_, nodup_takes.2 fun j x hx => (hall j x (by have := (List.getElem?_eq_some_iff.1 hx).1; omega) hx).2⟩
                  obtain ⟨j, hj, rfl⟩ := List.getElem_of_mem hs
                  exact (hall j _ (by omega) (List.getElem?_eq_getElem hj)).1
                clear hall HQA
                by_cases p0 : ph = 0
                · subst p0
                  by_cases e1 : qs.length = 0
                  · by_cases e2 : ms.length = 0
                    · by_cases e3 : top = 0
                      · by_cases e4 : at_ = 0
                        · go_wp2
                          go_ret
                          exact Says.yes (P := RoundOk wd births 0 top at_ ro qs ms) ⟨h1.1, h1.2, HS.out, .inl ⟨rfl, List.eq_nil_of_length_eq_zero e1, List.eq_nil_of_length_eq_zero e2, e3, e4⟩⟩ hbW
                        · have e4' : (at_ == 0) = false := by simpa using e4
                          go_wp2
                          go_ret
                          exact Says.no (P := RoundOk wd births 0 top at_ ro qs ms) (fun h => by have := h.ph; unfold PhOk at this; simp at this; have h9 := this.2.2.2; omega) hbW
                      · have e3' : (top == 0) = false := by simpa using e3
                        go_wp2
                        go_ret
                        exact Says.no (P := RoundOk wd births 0 top at_ ro qs ms) (fun h => by have := h.ph; unfold PhOk at this; simp at this; have h9 := this.2.2.1; omega) hbW
                    · have e2' : ((ms.length : Int) == 0) = false := beq_eq_false_iff_ne.2 (by omega)
                      go_wp2
                      go_ret
                      exact Says.no (P := RoundOk wd births 0 top at_ ro qs ms) (fun h => by have := h.ph; unfold PhOk at this; simp at this; exact e2 (by rw [this.2.1]; rfl)) hbW
                  · have e1' : ((qs.length : Int) == 0) = false := beq_eq_false_iff_ne.2 (by omega)
                    go_wp2
                    go_ret
                    exact Says.no (P := RoundOk wd births 0 top at_ ro qs ms) (fun h => by have := h.ph; unfold PhOk at this; simp at this; exact e1 (by rw [this.1]; rfl)) hbW
                · have p0' : (ph == 0) = false := by simpa using p0
                  go_wp2_with fail
                  refine (range_any top 0 births wr).mono ?_
                  rintro e w1 ⟨rfl, rfl⟩
                  by_cases e1 : 0 ≤ top ∧ top ≤ births
                  · rw [decide_eq_true e1]
                    have hwr : IntKind.i64.wrap (top + 1) = top + 1 := cnt_wrap (by omega) (by omega)
                    go_wp2_with fail
                    refine (range_any at_ 1 (top + 1) _).mono ?_
                    rintro e w1 ⟨rfl, rfl⟩
                    by_cases e2 : 1 ≤ at_ ∧ at_ ≤ top + 1
                    · rw [decide_eq_true e2]
                      by_cases p3 : ph = 2
                      · subst p3
                        go_wp2
                        go_ret
                        exact Says.yes (P := RoundOk wd births 2 top at_ ro qs ms) ⟨h1.1, h1.2, HS.out, .inr (.inr ⟨rfl, e1.1, e1.2, e2.1, e2.2⟩)⟩ hbW
                      · have p3' : (ph == 2) = false := by simpa using p3
                        obtain rfl : ph = 1 := by omega
                        by_cases e3 : at_ = top + 1
                        · have e3' : (at_ == top + 1) = true := by simpa using e3
                          go_wp2
                          go_ret
                          exact Says.yes (P := RoundOk wd births 1 top at_ ro qs ms) ⟨h1.1, h1.2, HS.out, .inr (.inl ⟨rfl, e1.1, e1.2, e3⟩)⟩ hbW
                        · have e3' : (at_ == top + 1) = false := by simpa using e3
                          go_wp2
                          go_ret
                          exact Says.no (P := RoundOk wd births 1 top at_ ro qs ms) (fun h => by have := h.ph; unfold PhOk at this; simp at this; exact e3 this.2.2) hbW
                    · rw [decide_eq_false e2]
                      go_wp2
                      go_ret
                      exact Says.no (P := RoundOk wd births ph top at_ ro qs ms) (fun h => by rcases h.ph with h | h | h; exact p0 h.1; exact e2 (by have := h.2.2.2; omega); exact e2 h.2.2.2) hbW
                  · rw [decide_eq_false e1]
                    go_wp2
                    go_ret
                    exact Says.no (P := RoundOk wd births ph top at_ ro qs ms) (fun h => by rcases h.ph with h | h | h; exact p0 h.1; exact e1 ⟨h.2.1, h.2.2.1⟩; exact e1 ⟨h.2.1, h.2.2.1⟩) hbW
      · have e3 : decide ((600 : Int) < (ms.length : Int)) = true := by simp; omega
        go_wp2
        go_ret
        exact Says.no (P := RoundOk wd births ph top at_ ro qs ms) (fun h => h3 h.sums.nm) hbW
    · have e2 : decide ((23200 : Int) < (qs.length : Int)) = true := by simp; omega
      go_wp2
      go_ret
      exact Says.no (P := RoundOk wd births ph top at_ ro qs ms) (fun h => h2 h.sums.nq) hbW
  · rw [decide_eq_false h1]
    go_wp2
    go_ret
    exact Says.no (P := RoundOk wd births ph top at_ ro qs ms) (fun h => h1 ⟨h.ro1, h.ro2⟩) hbW

end Go.Proofs.Ytbelneejghdmoaa
