import Derived.Test.YthkmpihfhkmaoaaGreatU16
import Derived.Test.YthkmpihfhkmaoaaGreatU11
import Derived.Test.YthkmpihfhkmaoaaGreatU15
import Derived.Test.YthkmpihfhkmaoaaGreatU06
/-
  spec.l6Ok: a round is valid.
-/
namespace Go.Proofs.YthkmpihfhkmaoaaGreat
open Go.ChangeShapes Go.WideShapes Go.ChangeAt Go.RowKit
attribute [local go_sem ↓] Go.wp_at_zero Go.wp_at_succ

theorem nodup_takes {ms : List ByteArray} : ms.Nodup ↔ ∀ (j : Nat) x, ms[j]? = some x → x ∉ ms.take j := by
  unfold List.Nodup
  rw [List.pairwise_iff_getElem]
  constructor
  · intro h j x hj hm
    obtain ⟨hj1, rfl⟩ := List.getElem?_eq_some_iff.1 hj
    obtain ⟨i, hi, e⟩ := List.getElem_of_mem hm
    have hi' : i < j := by simp at hi; omega
    rw [List.getElem_take] at e
    exact h i j (by omega) hj1 hi' e
  · intro h i j hi hj hij e
    refine h j ms[j] (List.getElem?_eq_getElem hj) ?_
    rw [← e]
    have hi2 : i < (ms.take j).length := by simp; omega
    have := List.getElem_mem hi2
    rw [List.getElem_take] at this
    exact this

theorem SRow.front {w : World} {B : Nat} {a : Option Addr} {tt : List ByteArray} (h : SRow w B a tt) (K : Nat) : SRow w B a (tt.take K) := by
  rcases h with h | ⟨q, off, h1, h2, h3⟩
  · exact .inl (by simp [h])
  · refine .inr ⟨q, off, h1, h2, fun i s his => h3 i s ?_⟩
    have hi := (List.getElem?_eq_some_iff.1 his).1
    simp at hi
    rw [List.getElem?_take_of_lt (by omega)] at his
    exact his

set_option maxRecDepth 20000 in
set_option maxHeartbeats 8000000 in
theorem l6Ok_any (wd now given births ph top at_ ro : Int) (T P L : Value) (a b : Option Addr) (ac bc : Nat) (qs ms : List ByteArray) (w : World) (hq : SRow w w.heap.size a qs) (hm : SRow w w.heap.size b ms) (hf : RFit qs ms) (hcap : ms.length ≤ bc) (hbi : births ≤ 1000000000) :
    Calls Tryz.prog 87 #[.agg #[.int .i64 wd, .int .i64 now, .int .i64 given, .int .i64 births, T, P, L], .agg #[.int .i64 ph, .slice a qs.length ac, .slice b ms.length bc, .int .i64 top, .int .i64 at_, .int .i64 ro]] w fun e w' => Says (RoundOk wd births ph top at_ ro qs ms) w w' e := by
  have hfq := hf.q
  have hfm := hf.m
  obtain ⟨W, hW⟩ : ∃ W, W = (w.alloc (.cells #[.int .i64 wd, .int .i64 now, .int .i64 given, .int .i64 births, T, P, L] 36)).alloc (.cells #[.int .i64 ph, .slice a qs.length ac, .slice b ms.length bc, .int .i64 top, .int .i64 at_, .int .i64 ro] 37) := ⟨_, rfl⟩
  have hbW : Below w.heap.size w W := by rw [hW]; exact ((Below.refl _ _).alloc (Nat.le_refl _) _).alloc (by simp) _
  have hsx : SBox W w.heap.size wd now given births T P L := by rw [hW]; exact (SBox.new w wd now given births T P L 36).below ((Below.refl _ _).alloc (Nat.le_refl _) _)
  have hrx : RBox W (w.heap.size + 1) ph (.slice a qs.length ac) (.slice b ms.length bc) top at_ ro := by
    rw [hW]
    have := RBox.new (w.alloc (.cells #[.int .i64 wd, .int .i64 now, .int .i64 given, .int .i64 births, T, P, L] 36)) ph top at_ ro (.slice a qs.length ac) (.slice b ms.length bc) 37
    rw [World.size_alloc] at this
    exact this
  have hzW : W.heap.size = w.heap.size + 2 := by rw [hW]; simp
  have HW : Hid _ := hW
  clear hW
  have HSX : Hid _ := hsx
  have HRX : Hid _ := hrx
  have HQ : Hid _ := hq
  have HM : Hid _ := hm
  clear hsx hrx hq hm
  by_cases p1 : ph < 0
  · have d1 : decide (ph < 0) = true := by simpa using p1
    go_enter Tryz.func87, Tryz.ntmps87
    go_wp2
    go_ret
    rw [← HW.out]
    exact Says.no (P := RoundOk wd births ph top at_ ro qs ms) (fun h => by rcases h.ph with h | h | h <;> (have := h.1; omega)) hbW
  have d1 : decide (ph < 0) = false := by simpa using p1
  by_cases p2 : 2 < ph
  · have d2 : decide ((2 : Int) < ph) = true := by simpa using p2
    go_enter Tryz.func87, Tryz.ntmps87
    go_wp2
    go_ret
    rw [← HW.out]
    exact Says.no (P := RoundOk wd births ph top at_ ro qs ms) (fun h => by rcases h.ph with h | h | h <;> (have := h.1; omega)) hbW
  have d2 : decide ((2 : Int) < ph) = false := by simpa using p2
  go_enter Tryz.func87, Tryz.ntmps87
  go_wp2_with fail
  rw [← HW.out]
  refine (range_any ro 0 1000000000 W).mono ?_
  rintro e w1 ⟨rfl, rfl⟩
  obtain ⟨x0, x1, x2, x3, x4, x5, x6⟩ := HRX.out
  by_cases h1 : 0 ≤ ro ∧ ro ≤ 1000000000
  · rw [decide_eq_true h1]
    by_cases h2 : qs.length ≤ 23200
    · have e2 : decide ((23200 : Int) < (qs.length : Int)) = false := by simp; omega
      by_cases h3 : ms.length ≤ 600
      · have e3 : decide ((600 : Int) < (ms.length : Int)) = false := by simp; omega
        clear HW
        go_wp2
        go_loopw [5] (fun i wr => ∃ k : Nat, k ≤ qs.length ∧ i = .int .i64 k ∧ Hid (∀ j x, j < k → qs[j]? = some x → (x.size : Int) = wd) ∧ Hid (SBox wr w.heap.size wd now given births T P L) ∧ Hid (RBox wr (w.heap.size + 1) ph (.slice a qs.length ac) (.slice b ms.length bc) top at_ ro) ∧ Below w.heap.size w wr) (fun i _ => qs.length - (intOf i).toNat)
        case atStart => exact ⟨0, Nat.zero_le _, rfl, fun j x h => by omega, HSX, HRX, hbW⟩
        case round =>
          clear x0 x1 x2 x3 x4 x5 x6 HSX HRX hbW hzW
          obtain ⟨k, hk, rfl, hall, HSX, HRX, hbW⟩ := hrel
          obtain ⟨x0, x1, x2, x3, x4, x5, x6⟩ := HRX.out
          obtain ⟨y0, _, _, y3, _, _, _, y7⟩ := HSX.out
          by_cases hlt : k < qs.length
          · obtain ⟨b', off, ha, hb, hc⟩ := (SRow.below HQ.out hbW).at hlt
            subst ha
            have hg : Hid (qs[k]? = some qs[k]) := List.getElem?_eq_getElem hlt
            have c0 := hc k _ hg
            have hb'' : b' < wr.heap.size := Nat.lt_of_lt_of_le hb hbW.size
            clear hc
            generalize qs[k] = x at *
            have q1 := Cls.cell x1 x6
            have q2 := Cls.cell c0 hb''
            have q3 := Cls.cell y0 y7
            have hne := Cls.ne wr
            by_cases h : (x.size : Int) = wd
            · have hn : ((x.size : Int) != wd) = false := by simp [h]
              have HA : Hid (∀ j y, j < k + 1 → qs[j]? = some y → (y.size : Int) = wd) := by
                intro j y hj hy
                rcases Nat.lt_or_ge j k with h' | h'
                · exact hall j y h' hy
                · obtain rfl : j = k := by omega
                  rw [hg.out] at hy
                  cases hy
                  exact h
              go_wp2
              refine region_cls_lit (by kernel_rfl) (by kernel_rfl) ?_
              repeat (go_big_quiet_step (fail))
              refine wpQuiet_nil ?_
              intro n
              have HSn : Hid _ := SBox.keep HSX.out n.h y7
              have HRn : Hid _ := RBox.keep HRX.out n.h x6
              have hbn : Below w.heap.size w n.w := hbW.trans (n.h.mono hbW.size)
              clear q1 q2 q3 x0 x1 x2 x3 x4 x5 y0 y3 c0
              go_wp2
              exact ⟨⟨k + 1, by omega, by go_num, HA, HSn, HRn, hbn⟩, by simp [intOf]; omega⟩
            · have hn : ((x.size : Int) != wd) = true := by simp [h]
              go_wp2
              refine region_cls_lit (by kernel_rfl) (by kernel_rfl) ?_
              repeat (go_big_quiet_step (fail))
              refine wpQuiet_nil ?_
              intro n
              have hbn : Below w.heap.size w n.w := hbW.trans (n.h.mono hbW.size)
              clear q1 q2 q3 x0 x1 x2 x3 x4 x5 y0 y3 c0
              go_wp2
              go_ret
              exact Says.no (P := RoundOk wd births ph top at_ ro qs ms) (fun h' => h (h'.sums.q x (List.mem_of_getElem? hg.out))) hbn
          · have HQA : Hid (∀ s ∈ qs, (s.size : Int) = wd) := by
              intro s hs
              obtain ⟨j, hj, rfl⟩ := List.getElem_of_mem hs
              exact hall j _ (by omega) (List.getElem?_eq_getElem hj)
            clear hall
            go_wp2
            go_loopw [6] (fun i wr => ∃ k : Nat, k ≤ ms.length ∧ i = .int .i64 k ∧ Hid (∀ j x, j < k → ms[j]? = some x → (x.size : Int) = wd ∧ x ∉ ms.take j) ∧ Hid (SBox wr w.heap.size wd now given births T P L) ∧ Hid (RBox wr (w.heap.size + 1) ph (.slice a qs.length ac) (.slice b ms.length bc) top at_ ro) ∧ Below w.heap.size w wr) (fun i _ => ms.length - (intOf i).toNat)
            case atStart => exact ⟨0, Nat.zero_le _, rfl, fun j x h => by omega, HSX, HRX, hbW⟩
            case round =>
              clear x0 x1 x2 x3 x4 x5 x6 y0 y3 y7 HSX HRX hbW
              obtain ⟨k, hk, rfl, hall, HSX, HRX, hbW⟩ := hrel
              obtain ⟨x0, x1, x2, x3, x4, x5, x6⟩ := HRX.out
              obtain ⟨y0, _, _, y3, _, _, _, y7⟩ := HSX.out
              by_cases hlt : k < ms.length
              · obtain ⟨b', off, ha, hb, hc⟩ := (SRow.below HM.out hbW).at hlt
                subst ha
                have hg : Hid (ms[k]? = some ms[k]) := List.getElem?_eq_getElem hlt
                have c0 := hc k _ hg
                have hb'' : b' < wr.heap.size := Nat.lt_of_lt_of_le hb hbW.size
                clear hc
                generalize ms[k] = x at *
                have q1 := Cls.cell x2 x6
                have q2 := Cls.cell c0 hb''
                have q3 := Cls.cell y0 y7
                have hne := Cls.ne wr
                have htl : (ms.take k).length = k := by simp; omega
                have hH : ∀ n : Cls wr, Calls Tryz.prog 88 #[.slice (some ⟨b', off, none⟩) k bc, .string x] n.w fun e w' => e = .returned (.bool ((ms.take k).any (fun y => decide (y = x)))) ∧ Below n.w.heap.size n.w w' := fun n => by
                  have := has_any (some ⟨b', off, none⟩) bc (ms.take k) x n.w w.heap.size (SRow.front (SRow.below HM.out (hbW.trans (n.h.mono hbW.size))) k) (by omega)
                  rw [htl] at this
                  exact this.mono (by rintro e w' ⟨rfl, rfl⟩; exact ⟨rfl, Below.refl _ _⟩)
                have HH : Hid _ := hH
                clear hH
                have hkc : k ≤ bc := by omega
                by_cases h : (x.size : Int) = wd
                · have hn : ((x.size : Int) != wd) = false := by simp [h]
                  cases hin : (ms.take k).any (fun y => decide (y = x)) with
                  | false =>
                    rw [hin] at HH
                    have hnot : x ∉ ms.take k := fun hx => by
                      have : (ms.take k).any (fun y => decide (y = x)) = true := List.any_eq_true.2 ⟨x, hx, by simp⟩
                      rw [hin] at this
                      cases this
                    have HA : Hid (∀ j y, j < k + 1 → ms[j]? = some y → (y.size : Int) = wd ∧ y ∉ ms.take j) := by
                      intro j y hj hy
                      rcases Nat.lt_or_ge j k with h' | h'
                      · exact hall j y h' hy
                      · obtain rfl : j = k := by omega
                        rw [hg.out] at hy
                        cases hy
                        exact ⟨h, hnot⟩
                    clear hnot hall
                    go_wp2
                    refine region_cls_lit (by kernel_rfl) (by kernel_rfl) ?_
                    repeat (go_big_quiet_step (exact Cls.calls (HH.out _)))
                    refine wpQuiet_nil ?_
                    intro n
                    have HSn : Hid _ := SBox.keep HSX.out n.h y7
                    have HRn : Hid _ := RBox.keep HRX.out n.h x6
                    have hbn : Below w.heap.size w n.w := hbW.trans (n.h.mono hbW.size)
                    clear q1 q2 q3 x0 x1 x2 x3 x4 x5 y0 y3 c0
                    go_wp2
                    exact ⟨⟨k + 1, by omega, by go_num, HA, HSn, HRn, hbn⟩, by simp [intOf]; omega⟩
                  | true =>
                    rw [hin] at HH
                    have HN : Hid (x ∈ ms.take k) := by
                      obtain ⟨y, hy, e⟩ := List.any_eq_true.1 hin
                      have : y = x := by simpa using e
                      rw [← this]
                      exact hy
                    clear hall
                    go_wp2
                    refine region_cls_lit (by kernel_rfl) (by kernel_rfl) ?_
                    repeat (go_big_quiet_step (exact Cls.calls (HH.out _)))
                    refine wpQuiet_nil ?_
                    intro n
                    have hbn : Below w.heap.size w n.w := hbW.trans (n.h.mono hbW.size)
                    clear q1 q2 q3 x0 x1 x2 x3 x4 x5 y0 y3 c0
                    go_wp2
                    go_ret
                    exact Says.no (P := RoundOk wd births ph top at_ ro qs ms) (fun h' => (nodup_takes.1 h'.sums.nd) k x hg.out HN.out) hbn
                · have hn : ((x.size : Int) != wd) = true := by simp [h]
                  go_wp2
                  refine region_cls_lit (by kernel_rfl) (by kernel_rfl) ?_
                  repeat (go_big_quiet_step (fail))
                  refine wpQuiet_nil ?_
                  intro n
                  have hbn : Below w.heap.size w n.w := hbW.trans (n.h.mono hbW.size)
                  clear q1 q2 q3 x0 x1 x2 x3 x4 x5 y0 y3 c0
                  go_wp2
                  go_ret
                  exact Says.no (P := RoundOk wd births ph top at_ ro qs ms) (fun h' => h (h'.sums.m x (List.mem_of_getElem? hg.out))) hbn
              · have HS : Hid (SumsOk wd qs ms) := by
                  refine ⟨h2, h3, HQA.out, fun s hs => ?_, nodup_takes.2 fun j x hx => (hall j x (by have := (List.getElem?_eq_some_iff.1 hx).1; omega) hx).2⟩
                  obtain ⟨j, hj, rfl⟩ := List.getElem_of_mem hs
                  exact (hall j _ (by omega) (List.getElem?_eq_getElem hj)).1
                clear hall HQA
                by_cases p0 : ph = 0
                · subst p0
                  by_cases e1 : qs.length = 0
                  · by_cases e2 : ms.length = 0
                    · by_cases e3 : top = 0
                      · by_cases e4 : at_ = 0
                        · go_wp2
                          go_ret
                          exact Says.yes (P := RoundOk wd births 0 top at_ ro qs ms) ⟨h1.1, h1.2, HS.out, .inl ⟨rfl, List.eq_nil_of_length_eq_zero e1, List.eq_nil_of_length_eq_zero e2, e3, e4⟩⟩ hbW
                        · have e4' : (at_ == 0) = false := by simpa using e4
                          go_wp2
                          go_ret
                          exact Says.no (P := RoundOk wd births 0 top at_ ro qs ms) (fun h => by have := h.ph; unfold PhOk at this; simp at this; have h9 := this.2.2.2; omega) hbW
                      · have e3' : (top == 0) = false := by simpa using e3
                        go_wp2
                        go_ret
                        exact Says.no (P := RoundOk wd births 0 top at_ ro qs ms) (fun h => by have := h.ph; unfold PhOk at this; simp at this; have h9 := this.2.2.1; omega) hbW
                    · have e2' : ((ms.length : Int) == 0) = false := beq_eq_false_iff_ne.2 (by omega)
                      go_wp2
                      go_ret
                      exact Says.no (P := RoundOk wd births 0 top at_ ro qs ms) (fun h => by have := h.ph; unfold PhOk at this; simp at this; exact e2 (by rw [this.2.1]; rfl)) hbW
                  · have e1' : ((qs.length : Int) == 0) = false := beq_eq_false_iff_ne.2 (by omega)
                    go_wp2
                    go_ret
                    exact Says.no (P := RoundOk wd births 0 top at_ ro qs ms) (fun h => by have := h.ph; unfold PhOk at this; simp at this; exact e1 (by rw [this.1]; rfl)) hbW
                · have p0' : (ph == 0) = false := by simpa using p0
                  go_wp2_with fail
                  refine (range_any top 0 births wr).mono ?_
                  rintro e w1 ⟨rfl, rfl⟩
                  by_cases e1 : 0 ≤ top ∧ top ≤ births
                  · rw [decide_eq_true e1]
                    have hwr : IntKind.i64.wrap (top + 1) = top + 1 := cnt_wrap (by omega) (by omega)
                    go_wp2_with fail
                    refine (range_any at_ 1 (top + 1) _).mono ?_
                    rintro e w1 ⟨rfl, rfl⟩
                    by_cases e2 : 1 ≤ at_ ∧ at_ ≤ top + 1
                    · rw [decide_eq_true e2]
                      by_cases p3 : ph = 2
                      · subst p3
                        go_wp2
                        go_ret
                        exact Says.yes (P := RoundOk wd births 2 top at_ ro qs ms) ⟨h1.1, h1.2, HS.out, .inr (.inr ⟨rfl, e1.1, e1.2, e2.1, e2.2⟩)⟩ hbW
                      · have p3' : (ph == 2) = false := by simpa using p3
                        obtain rfl : ph = 1 := by omega
                        by_cases e3 : at_ = top + 1
                        · have e3' : (at_ == top + 1) = true := by simpa using e3
                          go_wp2
                          go_ret
                          exact Says.yes (P := RoundOk wd births 1 top at_ ro qs ms) ⟨h1.1, h1.2, HS.out, .inr (.inl ⟨rfl, e1.1, e1.2, e3⟩)⟩ hbW
                        · have e3' : (at_ == top + 1) = false := by simpa using e3
                          go_wp2
                          go_ret
                          exact Says.no (P := RoundOk wd births 1 top at_ ro qs ms) (fun h => by have := h.ph; unfold PhOk at this; simp at this; exact e3 this.2.2) hbW
                    · rw [decide_eq_false e2]
                      go_wp2
                      go_ret
                      exact Says.no (P := RoundOk wd births ph top at_ ro qs ms) (fun h => by rcases h.ph with h | h | h; exact p0 h.1; exact e2 (by have := h.2.2.2; omega); exact e2 h.2.2.2) hbW
                  · rw [decide_eq_false e1]
                    go_wp2
                    go_ret
                    exact Says.no (P := RoundOk wd births ph top at_ ro qs ms) (fun h => by rcases h.ph with h | h | h; exact p0 h.1; exact e1 ⟨h.2.1, h.2.2.1⟩; exact e1 ⟨h.2.1, h.2.2.1⟩) hbW
      · have e3 : decide ((600 : Int) < (ms.length : Int)) = true := by simp; omega
        go_wp2
        go_ret
        exact Says.no (P := RoundOk wd births ph top at_ ro qs ms) (fun h => h3 h.sums.nm) hbW
    · have e2 : decide ((23200 : Int) < (qs.length : Int)) = true := by simp; omega
      go_wp2
      go_ret
      exact Says.no (P := RoundOk wd births ph top at_ ro qs ms) (fun h => h2 h.sums.nq) hbW
  · rw [decide_eq_false h1]
    go_wp2
    go_ret
    exact Says.no (P := RoundOk wd births ph top at_ ro qs ms) (fun h => h1 ⟨h.ro1, h.ro2⟩) hbW

end Go.Proofs.YthkmpihfhkmaoaaGreat

/-
  spec.ValidState.
-/
namespace Go.Proofs.YthkmpihfhkmaoaaGreat
open Go.ChangeShapes Go.WideShapes Go.ChangeAt Go.RowKit

theorem swidth_any (n : Int) (w : World) :
    Calls Tryz.prog 64 #[.int .i64 n] w fun e w' => e = .returned (.bool (decide (1 ≤ n ∧ n ≤ 8))) ∧ w' = w := by
  by_cases h1 : 1 ≤ n
  · by_cases h2 : n ≤ 8
    · go_enter Tryz.func64, Tryz.ntmps64
      go_wp2
      go_ret
      exact ⟨ret_b (by simp [h1, h2]), rfl⟩
    · have h2' : decide (n ≤ 8) = false := by simpa using h2
      go_enter Tryz.func64, Tryz.ntmps64
      go_wp2
      go_ret
      exact ⟨rfl, rfl⟩
  · have h1' : decide (1 ≤ n) = false := by simpa using h1
    go_enter Tryz.func64, Tryz.ntmps64
    go_wp2
    go_ret
    exact ⟨rfl, rfl⟩

set_option maxRecDepth 100000 in
set_option maxHeartbeats 16000000 in
theorem sValidState_any (wd now given births : Int) (a p l : Option Addr) (ac pc lc : Nat) (ks : List Kd) (ps : List Pd) (ls : List Ld) (w : World) (hrow : SRows w w.heap.size a p l ks ps ls) (hk : KMem ks) (hp : PMem ps) (hf : SFit ks ps ls) :
    Calls Tryz.prog 21 #[.agg #[.int .i64 wd, .int .i64 now, .int .i64 given, .int .i64 births, .slice a ks.length ac, .slice p ps.length pc, .slice l ls.length lc]] w fun e w' => Says (StateOk wd now given births ks ps ls) w w' e := by
  have hb0 : Below w.heap.size w (w.alloc (.cells #[.int .i64 wd, .int .i64 now, .int .i64 given, .int .i64 births, .slice a ks.length ac, .slice p ps.length pc, .slice l ls.length lc] 36)) := (Below.refl _ _).alloc (Nat.le_refl _) _
  have hx := SBox.new w wd now given births (.slice a ks.length ac) (.slice p ps.length pc) (.slice l ls.length lc) 36
  have hfk := hf.k
  have hfp := hf.p
  have hfl := hf.l
  have HRW : Hid _ := hrow
  have HKR : Hid _ := hrow.k
  have HPR : Hid _ := hrow.p
  have HLR : Hid _ := hrow.l
  clear hrow
  go_enter Tryz.func21, Tryz.ntmps21
  go_wp2_with fail
  refine (swidth_any wd _).mono ?_
  rintro e w1 ⟨rfl, rfl⟩
  by_cases h0 : 1 ≤ wd ∧ wd ≤ 8
  · rw [decide_eq_true h0]
    go_wp2_with fail
    refine (range_any now 0 1000000000 _).mono ?_
    rintro e w1 ⟨rfl, rfl⟩
    by_cases h1 : 0 ≤ now ∧ now ≤ 1000000000
    · rw [decide_eq_true h1]
      go_wp2_with fail
      refine (range_any given 0 1000000000 _).mono ?_
      rintro e w1 ⟨rfl, rfl⟩
      by_cases h2 : 0 ≤ given ∧ given ≤ 1000000000
      · rw [decide_eq_true h2]
        go_wp2_with fail
        refine (range_any births 0 1000000000 _).mono ?_
        rintro e w1 ⟨rfl, rfl⟩
        by_cases h3 : 0 ≤ births ∧ births ≤ 1000000000
        · rw [decide_eq_true h3]
          have hN : NumsOk wd now given births := ⟨h0.1, h0.2, h1.1, h1.2, h2.1, h2.2, h3.1, h3.2⟩
          by_cases hn1 : ks.length ≤ 600
          · have hn1' : decide ((600 : Int) < (ks.length : Int)) = false := by simp; omega
            by_cases hn2 : ps.length ≤ 100
            · have hn2' : decide ((100 : Int) < (ps.length : Int)) = false := by simp; omega
              by_cases hn3 : ls.length ≤ 200
              · have hn3' : decide ((200 : Int) < (ls.length : Int)) = false := by simp; omega
                go_wp2_with fail
                refine (sThings_any wd now given births a ac _ _ ks _ (SRows.below' HRW.out hb0).k hk hn1 hf.r hN.wd1 hN.wd2).mono ?_
                rintro e w2 ⟨b2, rfl, hb2, hw2⟩
                have hB2 := hb0.trans (hw2.mono (by simp))
                have hx2 := hx.below hw2
                have HB2 : Hid _ := hb2
                clear hw2 hb2 hb0 hx
                cases b2 with
                | false =>
                  clear hx2
                  go_wp2
                  go_ret
                  exact Says.no (fun h => by have := HB2.out.2 ⟨h.th, h.born, h.ref⟩; cases this) hB2
                | true =>
                  have HF1 : Hid _ := HB2.out.1 rfl
                  clear HB2
                  obtain ⟨x0, x1, x2, x3, x4, x5, x6, x7⟩ := hx2
                  have HX2 : Hid (SBox w2 w.heap.size wd now given births (.slice a ks.length ac) (.slice p ps.length pc) (.slice l ls.length lc)) := ⟨x0, x1, x2, x3, x4, x5, x6, x7⟩
                  go_wp2
                  go_loopw [3] (fun i wr => ∃ k : Nat, k ≤ ps.length ∧ i = .int .i64 k ∧ Below w.heap.size w wr ∧ Hid (SBox wr w.heap.size wd now given births (.slice a ks.length ac) (.slice p ps.length pc) (.slice l ls.length lc)) ∧ Hid (∀ (j : Nat) x, j < k → ps[j]? = some x → PinAt ks ps j x)) (fun i _ => ps.length - (intOf i).toNat)
                  case atStart => exact ⟨0, Nat.zero_le _, rfl, hB2, HX2, fun j x h => by omega⟩
                  case round =>
                    clear x0 x1 x2 x3 x4 x5 x6 x7 HX2 hB2
                    obtain ⟨k, hk', rfl, hbel, HX, hall⟩ := hrel
                    obtain ⟨x0, x1, x2, x3, x4, x5, x6, x7⟩ := HX.out
                    by_cases hlt : k < ps.length
                    · obtain ⟨b, off, ha, hb, hc⟩ := (PRow.below HPR.out hbel).at hlt
                      subst ha
                      have hg : ps[k]? = some ps[k] := List.getElem?_eq_getElem hlt
                      obtain ⟨c0, c1⟩ := hc k _ hg
                      have m1 := hp.name _ (List.getElem_mem hlt)
                      have hbr : b < wr.heap.size := by omega
                      match k, hk', hlt, hall, hg, c0, c1, m1 with
                      | 0, hk', hlt, hall, hg, c0, c1, m1 =>
                        have HG : Hid _ := hg
                        clear hc hg HX
                        simp only [Nat.zero_mul, Nat.add_zero] at c0 c1
                        generalize ps[0] = x at *
                        go_wp2
                        have q0 := Cls.cell x0 x7
                        have q1 := Cls.cell x1 x7
                        have q2 := Cls.cell x2 x7
                        have q3 := Cls.cell x3 x7
                        have q4 := Cls.cell x4 x7
                        have q5 := Cls.cell x5 x7
                        have q6 := Cls.cell x6 x7
                        have q7 := Cls.cell c0 hbr
                        have q8 := Cls.cell c1 hbr
                        have hne := Cls.ne wr
                        have hV : ∀ n : Cls wr, Calls Tryz.prog 67 #[.string x.name] n.w fun e w' => e = .returned (.bool (nameOk x.name)) ∧ Below n.w.heap.size n.w w' := fun n => (sName_any _ _ m1).mono (by rintro e w' ⟨rfl, rfl⟩; exact ⟨rfl, Below.refl _ _⟩)
                        have hF : ∀ n : Cls wr, Calls Tryz.prog 68 #[.agg #[.int .i64 wd, .int .i64 now, .int .i64 given, .int .i64 births, .slice a ks.length ac, .slice (some ⟨b, off, none⟩) ps.length pc, .slice l ls.length lc], .string x.sum] n.w fun e w' => e = .returned (.int .i64 (findI ks x.sum)) ∧ Below n.w.heap.size n.w w' := fun n => find_any wd now given births a ac _ _ ks x.sum n.w w.heap.size (KRow.below HKR.out (hbel.trans (n.h.mono hbel.size))) (by have := n.h.size; omega) (by omega)
                        have HV : Hid _ := hV
                        have HF : Hid _ := hF
                        have hlew : w.heap.size ≤ wr.heap.size := hbel.size
                        have HXr : Hid (SBox wr w.heap.size wd now given births (.slice a ks.length ac) (.slice (some ⟨b, off, none⟩) ps.length pc) (.slice l ls.length lc)) := ⟨x0, x1, x2, x3, x4, x5, x6, x7⟩
                        clear hV hF
                        cases hnm : nameOk x.name with
                        | false =>
                          rw [hnm] at HV
                          refine region_cls_lit (by kernel_rfl) (by kernel_rfl) ?_
                          repeat (go_big_quiet_step (first | exact Cls.calls (HV.out _) | exact Cls.calls (HF.out _)))
                          refine wpQuiet_nil ?_
                          intro n
                          have HBn : Hid _ := hbel.trans (n.h.mono hlew)
                          clear hbel
                          go_wp2
                          go_ret
                          exact Says.no (fun h => by have := (h.pin _ _ HG.out).name; rw [hnm] at this; cases this) HBn.out
                        | true =>
                          rw [hnm] at HV
                          rcases findI_cases ks x.sum with ⟨hfi, hno⟩ | ⟨i2, u, hfi, hu, hus⟩
                          · rw [hfi] at HF
                            refine region_cls_lit (by kernel_rfl) (by kernel_rfl) ?_
                            repeat (go_big_quiet_step (first | exact Cls.calls (HV.out _) | exact Cls.calls (HF.out _)))
                            refine wpQuiet_nil ?_
                            intro n
                            have HBn : Hid _ := hbel.trans (n.h.mono hlew)
                            clear hbel
                            go_wp2
                            go_ret
                            exact Says.no (fun h => hno (h.pin _ _ HG.out).sum) HBn.out
                          · rw [hfi] at HF
                            have hneg : decide ((i2 : Int) < 0) = false := by simp
                            have HA : Hid (∀ (j' : Nat) y, j' < 0 + 1 → ps[j']? = some y → PinAt ks ps j' y) := by
                              intro j' y hj hy
                              rcases Nat.lt_or_ge j' (0) with h' | h'
                              · exact hall.out j' y h' hy
                              · obtain rfl : j' = 0 := by omega
                                rw [HG.out] at hy
                                cases hy
                                exact ⟨hnm, fun j p h => by omega, ⟨u, List.mem_of_getElem? hu, hus⟩⟩
                            refine region_cls_lit (by kernel_rfl) (by kernel_rfl) ?_
                            repeat (go_big_quiet_step (first | exact Cls.calls (HV.out _) | exact Cls.calls (HF.out _)))
                            refine wpQuiet_nil ?_
                            intro n
                            have HBn : Hid _ := hbel.trans (n.h.mono hlew)
                            have HXn := SBox.keep HXr.out n.h x7
                            clear hbel
                            go_wp2
                            exact ⟨⟨0 + 1, by omega, by go_num, HBn.out, HXn, HA⟩, by simp [intOf]; omega⟩

                      | j + 1, hk', hlt, hall, hg, c0, c1, m1 =>
                        have HG : Hid _ := hg
                        have HP : Hid (ps[j]? = some ps[j]) := List.getElem?_eq_getElem (by omega)
                        obtain ⟨d0, _⟩ := hc j _ HP.out
                        clear hc hg HX
                        generalize ps[j + 1] = x at *
                        generalize ps[j] = p at *
                        have hwj : IntKind.i64.wrap (j : Int) = (j : Int) := wrap_small (by omega) (by omega)
                        have hj0 : (0 : Int) ≤ (j : Int) := by omega
                        have hj1 : (j : Int) < (ps.length : Int) := by omega
                        have hk0 : (0 : Int) ≤ (j : Int) + 1 := by omega
                        have hk1 : (j : Int) + 1 < (ps.length : Int) := by omega
                        go_wp2
                        have q0 := Cls.cell x0 x7
                        have q1 := Cls.cell x1 x7
                        have q2 := Cls.cell x2 x7
                        have q3 := Cls.cell x3 x7
                        have q4 := Cls.cell x4 x7
                        have q5 := Cls.cell x5 x7
                        have q6 := Cls.cell x6 x7
                        have q7 := Cls.cell c0 hbr
                        have q8 := Cls.cell c1 hbr
                        have q9 := Cls.cell d0 hbr
                        have hne := Cls.ne wr
                        have hV : ∀ n : Cls wr, Calls Tryz.prog 67 #[.string x.name] n.w fun e w' => e = .returned (.bool (nameOk x.name)) ∧ Below n.w.heap.size n.w w' := fun n => (sName_any _ _ m1).mono (by rintro e w' ⟨rfl, rfl⟩; exact ⟨rfl, Below.refl _ _⟩)
                        have hF : ∀ n : Cls wr, Calls Tryz.prog 68 #[.agg #[.int .i64 wd, .int .i64 now, .int .i64 given, .int .i64 births, .slice a ks.length ac, .slice (some ⟨b, off, none⟩) ps.length pc, .slice l ls.length lc], .string x.sum] n.w fun e w' => e = .returned (.int .i64 (findI ks x.sum)) ∧ Below n.w.heap.size n.w w' := fun n => find_any wd now given births a ac _ _ ks x.sum n.w w.heap.size (KRow.below HKR.out (hbel.trans (n.h.mono hbel.size))) (by have := n.h.size; omega) (by omega)
                        have HV : Hid _ := hV
                        have HF : Hid _ := hF
                        have hlew : w.heap.size ≤ wr.heap.size := hbel.size
                        have HXr : Hid (SBox wr w.heap.size wd now given births (.slice a ks.length ac) (.slice (some ⟨b, off, none⟩) ps.length pc) (.slice l ls.length lc)) := ⟨x0, x1, x2, x3, x4, x5, x6, x7⟩
                        clear hV hF
                        cases hnm : nameOk x.name with
                        | false =>
                          rw [hnm] at HV
                          refine region_cls_lit (by kernel_rfl) (by kernel_rfl) ?_
                          repeat (go_big_quiet_step (first | exact Cls.calls (HV.out _) | exact Cls.calls (HF.out _)))
                          refine wpQuiet_nil ?_
                          intro n
                          have HBn : Hid _ := hbel.trans (n.h.mono hlew)
                          clear hbel
                          go_wp2
                          go_ret
                          exact Says.no (fun h => by have := (h.pin _ _ HG.out).name; rw [hnm] at this; cases this) HBn.out
                        | true =>
                          rw [hnm] at HV
                          cases hless : Op.bytesLess p.name.toList x.name.toList with
                          | false =>
                            refine region_cls_lit (by kernel_rfl) (by kernel_rfl) ?_
                            repeat (go_big_quiet_step (first | exact Cls.calls (HV.out _) | exact Cls.calls (HF.out _)))
                            refine wpQuiet_nil ?_
                            intro n
                            have HBn : Hid _ := hbel.trans (n.h.mono hlew)
                            clear hbel
                            go_wp2
                            go_ret
                            exact Says.no (fun h => by have := (h.pin _ _ HG.out).up j p rfl HP.out; unfold less at this; rw [hless] at this; cases this) HBn.out
                          | true =>
                            rcases findI_cases ks x.sum with ⟨hfi, hno⟩ | ⟨i2, u, hfi, hu, hus⟩
                            · rw [hfi] at HF
                              refine region_cls_lit (by kernel_rfl) (by kernel_rfl) ?_
                              repeat (go_big_quiet_step (first | exact Cls.calls (HV.out _) | exact Cls.calls (HF.out _)))
                              refine wpQuiet_nil ?_
                              intro n
                              have HBn : Hid _ := hbel.trans (n.h.mono hlew)
                              clear hbel
                              go_wp2
                              go_ret
                              exact Says.no (fun h => hno (h.pin _ _ HG.out).sum) HBn.out
                            · rw [hfi] at HF
                              have hneg : decide ((i2 : Int) < 0) = false := by simp
                              have HA : Hid (∀ (j' : Nat) y, j' < (j + 1) + 1 → ps[j']? = some y → PinAt ks ps j' y) := by
                                intro j' y hj hy
                                rcases Nat.lt_or_ge j' ((j + 1)) with h' | h'
                                · exact hall.out j' y h' hy
                                · obtain rfl : j' = (j + 1) := by omega
                                  rw [HG.out] at hy
                                  cases hy
                                  exact ⟨hnm, fun j2 p2 h hp2 => by cases h; rw [HP.out] at hp2; cases hp2; exact hless, ⟨u, List.mem_of_getElem? hu, hus⟩⟩
                              refine region_cls_lit (by kernel_rfl) (by kernel_rfl) ?_
                              repeat (go_big_quiet_step (first | exact Cls.calls (HV.out _) | exact Cls.calls (HF.out _)))
                              refine wpQuiet_nil ?_
                              intro n
                              have HBn : Hid _ := hbel.trans (n.h.mono hlew)
                              have HXn := SBox.keep HXr.out n.h x7
                              clear hbel
                              go_wp2
                              exact ⟨⟨(j + 1) + 1, by omega, by go_num, HBn.out, HXn, HA⟩, by simp [intOf]; omega⟩

                    · clear x0 x1 x2 x3 x4 x5 x6 x7
                      obtain ⟨x0, x1, x2, x3, x4, x5, x6, x7⟩ := HX.out
                      have HPins : Hid (∀ (i : Nat) x, ps[i]? = some x → PinAt ks ps i x) := fun i x hx => hall.out i x (by have := (List.getElem?_eq_some_iff.1 hx).1; omega) hx
                      clear hall
                      go_wp2
                      go_loopw [4] (fun i wr => ∃ k : Nat, k ≤ ls.length ∧ i = .int .i64 k ∧ Below w.heap.size w wr ∧ Hid (SBox wr w.heap.size wd now given births (.slice a ks.length ac) (.slice p ps.length pc) (.slice l ls.length lc)) ∧ Hid (∀ (j : Nat) x, j < k → ls[j]? = some x → LeaseAt now given ks ls j x)) (fun i _ => ls.length - (intOf i).toNat)
                      case atStart => exact ⟨0, Nat.zero_le _, rfl, hbel, HX, fun j x h => by omega⟩
                      case round =>
                        obtain ⟨k, hk', rfl, hbel, HX, hall⟩ := hrel
                        obtain ⟨x0, x1, x2, x3, x4, x5, x6, x7⟩ := HX.out
                        by_cases hlt : k < ls.length
                        · obtain ⟨b, off, ha, hb, hc⟩ := (LRow.below HLR.out hbel).at hlt
                          subst ha
                          have hg : ls[k]? = some ls[k] := List.getElem?_eq_getElem hlt
                          obtain ⟨c0, c1, c2⟩ := hc k _ hg
                          have hbr : b < wr.heap.size := by omega
                          match k, hk', hlt, hall, hg, c0, c1, c2 with
                          | 0, hk', hlt, hall, hg, c0, c1, c2 =>
                            have HG : Hid _ := hg
                            clear hc hg HX
                            simp only [Nat.zero_mul, Nat.add_zero] at c0 c1 c2
                            generalize ls[0] = x at *
                            go_wp2
                            have hb1 : Below wr.heap.size wr (wr.alloc (Obj.cells #[Value.int IntKind.i64 x.num, Value.string x.sum, Value.int IntKind.i64 x.til] 107)) := (Below.refl _ _).alloc (Nat.le_refl _) _
                            have z1 : (wr.alloc (Obj.cells #[Value.int IntKind.i64 x.num, Value.string x.sum, Value.int IntKind.i64 x.til] 107)).heap.size = wr.heap.size + 1 := by simp
                            have t0 : (wr.alloc (Obj.cells #[Value.int IntKind.i64 x.num, Value.string x.sum, Value.int IntKind.i64 x.til] 107)).cell? ⟨wr.heap.size, 0, none⟩ = some (.int .i64 x.num) := by simp
                            have t1 : (wr.alloc (Obj.cells #[Value.int IntKind.i64 x.num, Value.string x.sum, Value.int IntKind.i64 x.til] 107)).cell? ⟨wr.heap.size, 1, none⟩ = some (.string x.sum) := by simp
                            have t2 : (wr.alloc (Obj.cells #[Value.int IntKind.i64 x.num, Value.string x.sum, Value.int IntKind.i64 x.til] 107)).cell? ⟨wr.heap.size, 2, none⟩ = some (.int .i64 x.til) := by simp
                            have HXr : Hid (SBox (wr.alloc (Obj.cells #[Value.int IntKind.i64 x.num, Value.string x.sum, Value.int IntKind.i64 x.til] 107)) w.heap.size wd now given births (.slice a ks.length ac) (.slice p ps.length pc) (.slice (some ⟨b, off, none⟩) ls.length lc)) := SBox.keep ⟨x0, x1, x2, x3, x4, x5, x6, x7⟩ hb1 x7
                            generalize hW1 : (wr.alloc (Obj.cells #[Value.int IntKind.i64 x.num, Value.string x.sum, Value.int IntKind.i64 x.til] 107)) = W1 at *
                            have hB1 : Below w.heap.size w W1 := hbel.trans (hb1.mono hbel.size)
                            have hlew : w.heap.size ≤ W1.heap.size := hB1.size
                            clear x0 x1 x2 x3 x4 x5 x6
                            obtain ⟨x0, x1, x2, x3, x4, x5, x6, y7⟩ := HXr.out
                            have q0 := Cls.cell x0 y7
                            have q1 := Cls.cell x1 y7
                            have q2 := Cls.cell x2 y7
                            have q3 := Cls.cell x3 y7
                            have q4 := Cls.cell x4 y7
                            have q5 := Cls.cell x5 y7
                            have q6 := Cls.cell x6 y7
                            have q7 := Cls.cell t0 (by omega)
                            have q8 := Cls.cell t1 (by omega)
                            have q9 := Cls.cell t2 (by omega)
                            have hne := Cls.ne W1
                            have hV : ∀ n : Cls W1, Calls Tryz.prog 65 #[.int .i64 x.num, .int .i64 1, .int .i64 given] n.w fun e w' => e = .returned (.bool (decide (1 ≤ x.num ∧ x.num ≤ given))) ∧ Below n.w.heap.size n.w w' := fun n => (range_any _ _ _ _).mono (by rintro e w' ⟨rfl, rfl⟩; exact ⟨rfl, Below.refl _ _⟩)
                            have hF : ∀ n : Cls W1, Calls Tryz.prog 68 #[.agg #[.int .i64 wd, .int .i64 now, .int .i64 given, .int .i64 births, .slice a ks.length ac, .slice p ps.length pc, .slice (some ⟨b, off, none⟩) ls.length lc], .string x.sum] n.w fun e w' => e = .returned (.int .i64 (findI ks x.sum)) ∧ Below n.w.heap.size n.w w' := fun n => find_any wd now given births a ac _ _ ks x.sum n.w w.heap.size (KRow.below HKR.out (hB1.trans (n.h.mono hB1.size))) (by have := n.h.size; omega) (by omega)
                            have HV : Hid _ := hV
                            have HF : Hid _ := hF
                            have hwn : IntKind.i64.wrap (now + 100000) = now + 100000 := wrap_big (by omega) (by omega)
                            clear hV hF hbel
                            have hbel := hB1
                            by_cases hrg : 1 ≤ x.num ∧ x.num ≤ given
                            · rw [decide_eq_true hrg] at HV
                              rcases findI_cases ks x.sum with ⟨hfi, hno⟩ | ⟨i2, u, hfi, hu, hus⟩
                              · rw [hfi] at HF
                                refine region_cls_lit (by kernel_rfl) (by kernel_rfl) ?_
                                repeat (go_big_quiet_step (first | exact Cls.calls (HV.out _) | exact Cls.calls (HF.out _)))
                                refine wpQuiet_nil ?_
                                intro n
                                have HBn : Hid _ := hbel.trans (n.h.mono hlew)
                                clear hbel
                                go_wp2
                                go_ret
                                exact Says.no (fun h => hno (h.lease _ _ HG.out).sum) HBn.out
                              · rw [hfi] at HF
                                have hneg : decide ((i2 : Int) < 0) = false := by simp
                                by_cases ht1 : now < x.til
                                · have ht1' : decide (x.til ≤ now) = false := by simp; omega
                                  by_cases ht2 : x.til ≤ now + 100000
                                  · have ht2' : decide (now + 100000 < x.til) = false := by simp; omega
                                    have HA : Hid (∀ (j' : Nat) y, j' < 0 + 1 → ls[j']? = some y → LeaseAt now given ks ls j' y) := by
                                      intro j' y hj hy
                                      rcases Nat.lt_or_ge j' (0) with h' | h'
                                      · exact hall.out j' y h' hy
                                      · obtain rfl : j' = 0 := by omega
                                        rw [HG.out] at hy
                                        cases hy
                                        exact ⟨hrg.1, hrg.2, fun j p h => by omega, ⟨u, List.mem_of_getElem? hu, hus⟩, ht1, ht2⟩
                                    refine region_cls_lit (by kernel_rfl) (by kernel_rfl) ?_
                                    repeat (go_big_quiet_step (first | exact Cls.calls (HV.out _) | exact Cls.calls (HF.out _)))
                                    refine wpQuiet_nil ?_
                                    intro n
                                    have HBn : Hid _ := hbel.trans (n.h.mono hlew)
                                    have HXn := SBox.keep HXr.out n.h y7
                                    clear hbel hB1
                                    go_wp2
                                    exact ⟨⟨0 + 1, by omega, by go_num, HBn.out, HXn, HA⟩, by simp [intOf]; omega⟩
                                  · have ht2' : decide (now + 100000 < x.til) = true := by simp; omega
                                    refine region_cls_lit (by kernel_rfl) (by kernel_rfl) ?_
                                    repeat (go_big_quiet_step (first | exact Cls.calls (HV.out _) | exact Cls.calls (HF.out _)))
                                    refine wpQuiet_nil ?_
                                    intro n
                                    have HBn : Hid _ := hbel.trans (n.h.mono hlew)
                                    clear hbel
                                    go_wp2
                                    go_ret
                                    exact Says.no (fun h => by have := (h.lease _ _ HG.out).til2; omega) HBn.out
                                · have ht1' : decide (x.til ≤ now) = true := by simp; omega
                                  refine region_cls_lit (by kernel_rfl) (by kernel_rfl) ?_
                                  repeat (go_big_quiet_step (first | exact Cls.calls (HV.out _) | exact Cls.calls (HF.out _)))
                                  refine wpQuiet_nil ?_
                                  intro n
                                  have HBn : Hid _ := hbel.trans (n.h.mono hlew)
                                  clear hbel
                                  go_wp2
                                  go_ret
                                  exact Says.no (fun h => by have := (h.lease _ _ HG.out).til1; omega) HBn.out
                            · rw [decide_eq_false hrg] at HV
                              refine region_cls_lit (by kernel_rfl) (by kernel_rfl) ?_
                              repeat (go_big_quiet_step (first | exact Cls.calls (HV.out _) | exact Cls.calls (HF.out _)))
                              refine wpQuiet_nil ?_
                              intro n
                              have HBn : Hid _ := hbel.trans (n.h.mono hlew)
                              clear hbel
                              go_wp2
                              go_ret
                              exact Says.no (fun h => hrg ⟨(h.lease _ _ HG.out).lo, (h.lease _ _ HG.out).hi⟩) HBn.out

                          | j + 1, hk', hlt, hall, hg, c0, c1, c2 =>
                            have HG : Hid _ := hg
                            have HP : Hid (ls[j]? = some ls[j]) := List.getElem?_eq_getElem (by omega)
                            obtain ⟨d0, _, _⟩ := hc j _ HP.out
                            clear hc hg HX
                            generalize ls[j + 1] = x at *
                            generalize ls[j] = p' at *
                            have hwj : IntKind.i64.wrap (j : Int) = (j : Int) := wrap_small (by omega) (by omega)
                            have hj0 : (0 : Int) ≤ (j : Int) := by omega
                            have hj1 : (j : Int) < (ls.length : Int) := by omega
                            go_wp2
                            have hb1 : Below wr.heap.size wr (wr.alloc (Obj.cells #[Value.int IntKind.i64 x.num, Value.string x.sum, Value.int IntKind.i64 x.til] 107)) := (Below.refl _ _).alloc (Nat.le_refl _) _
                            have z1 : (wr.alloc (Obj.cells #[Value.int IntKind.i64 x.num, Value.string x.sum, Value.int IntKind.i64 x.til] 107)).heap.size = wr.heap.size + 1 := by simp
                            have t0 : (wr.alloc (Obj.cells #[Value.int IntKind.i64 x.num, Value.string x.sum, Value.int IntKind.i64 x.til] 107)).cell? ⟨wr.heap.size, 0, none⟩ = some (.int .i64 x.num) := by simp
                            have t1 : (wr.alloc (Obj.cells #[Value.int IntKind.i64 x.num, Value.string x.sum, Value.int IntKind.i64 x.til] 107)).cell? ⟨wr.heap.size, 1, none⟩ = some (.string x.sum) := by simp
                            have t2 : (wr.alloc (Obj.cells #[Value.int IntKind.i64 x.num, Value.string x.sum, Value.int IntKind.i64 x.til] 107)).cell? ⟨wr.heap.size, 2, none⟩ = some (.int .i64 x.til) := by simp
                            have HXr : Hid (SBox (wr.alloc (Obj.cells #[Value.int IntKind.i64 x.num, Value.string x.sum, Value.int IntKind.i64 x.til] 107)) w.heap.size wd now given births (.slice a ks.length ac) (.slice p ps.length pc) (.slice (some ⟨b, off, none⟩) ls.length lc)) := SBox.keep ⟨x0, x1, x2, x3, x4, x5, x6, x7⟩ hb1 x7
                            have d1 := (hb1.cell (p := ⟨b, off + j * 3, none⟩) hbr).trans d0
                            generalize hW1 : (wr.alloc (Obj.cells #[Value.int IntKind.i64 x.num, Value.string x.sum, Value.int IntKind.i64 x.til] 107)) = W1 at *
                            have hB1 : Below w.heap.size w W1 := hbel.trans (hb1.mono hbel.size)
                            have hlew : w.heap.size ≤ W1.heap.size := hB1.size
                            clear x0 x1 x2 x3 x4 x5 x6
                            obtain ⟨x0, x1, x2, x3, x4, x5, x6, y7⟩ := HXr.out
                            have q0 := Cls.cell x0 y7
                            have q1 := Cls.cell x1 y7
                            have q2 := Cls.cell x2 y7
                            have q3 := Cls.cell x3 y7
                            have q4 := Cls.cell x4 y7
                            have q5 := Cls.cell x5 y7
                            have q6 := Cls.cell x6 y7
                            have q7 := Cls.cell t0 (by omega)
                            have q8 := Cls.cell t1 (by omega)
                            have q9 := Cls.cell t2 (by omega)
                            have q10 := Cls.cell d1 (by omega)
                            have hne := Cls.ne W1
                            have hV : ∀ n : Cls W1, Calls Tryz.prog 65 #[.int .i64 x.num, .int .i64 1, .int .i64 given] n.w fun e w' => e = .returned (.bool (decide (1 ≤ x.num ∧ x.num ≤ given))) ∧ Below n.w.heap.size n.w w' := fun n => (range_any _ _ _ _).mono (by rintro e w' ⟨rfl, rfl⟩; exact ⟨rfl, Below.refl _ _⟩)
                            have hF : ∀ n : Cls W1, Calls Tryz.prog 68 #[.agg #[.int .i64 wd, .int .i64 now, .int .i64 given, .int .i64 births, .slice a ks.length ac, .slice p ps.length pc, .slice (some ⟨b, off, none⟩) ls.length lc], .string x.sum] n.w fun e w' => e = .returned (.int .i64 (findI ks x.sum)) ∧ Below n.w.heap.size n.w w' := fun n => find_any wd now given births a ac _ _ ks x.sum n.w w.heap.size (KRow.below HKR.out (hB1.trans (n.h.mono hB1.size))) (by have := n.h.size; omega) (by omega)
                            have HV : Hid _ := hV
                            have HF : Hid _ := hF
                            have hwn : IntKind.i64.wrap (now + 100000) = now + 100000 := wrap_big (by omega) (by omega)
                            clear hV hF hbel
                            have hbel := hB1
                            by_cases hrg : 1 ≤ x.num ∧ x.num ≤ given
                            · rw [decide_eq_true hrg] at HV
                              by_cases hless : p'.num < x.num
                              · have hless' : decide (x.num ≤ p'.num) = false := by simp; omega
                                rcases findI_cases ks x.sum with ⟨hfi, hno⟩ | ⟨i2, u, hfi, hu, hus⟩
                                · rw [hfi] at HF
                                  refine region_cls_lit (by kernel_rfl) (by kernel_rfl) ?_
                                  repeat (go_big_quiet_step (first | exact Cls.calls (HV.out _) | exact Cls.calls (HF.out _)))
                                  refine wpQuiet_nil ?_
                                  intro n
                                  have HBn : Hid _ := hbel.trans (n.h.mono hlew)
                                  clear hbel
                                  go_wp2
                                  go_ret
                                  exact Says.no (fun h => hno (h.lease _ _ HG.out).sum) HBn.out
                                · rw [hfi] at HF
                                  have hneg : decide ((i2 : Int) < 0) = false := by simp
                                  by_cases ht1 : now < x.til
                                  · have ht1' : decide (x.til ≤ now) = false := by simp; omega
                                    by_cases ht2 : x.til ≤ now + 100000
                                    · have ht2' : decide (now + 100000 < x.til) = false := by simp; omega
                                      have HA : Hid (∀ (j' : Nat) y, j' < (j + 1) + 1 → ls[j']? = some y → LeaseAt now given ks ls j' y) := by
                                        intro j' y hj hy
                                        rcases Nat.lt_or_ge j' ((j + 1)) with h' | h'
                                        · exact hall.out j' y h' hy
                                        · obtain rfl : j' = (j + 1) := by omega
                                          rw [HG.out] at hy
                                          cases hy
                                          exact ⟨hrg.1, hrg.2, fun j2 p2 h hp2 => by cases h; rw [HP.out] at hp2; cases hp2; exact hless, ⟨u, List.mem_of_getElem? hu, hus⟩, ht1, ht2⟩
                                      refine region_cls_lit (by kernel_rfl) (by kernel_rfl) ?_
                                      repeat (go_big_quiet_step (first | exact Cls.calls (HV.out _) | exact Cls.calls (HF.out _)))
                                      refine wpQuiet_nil ?_
                                      intro n
                                      have HBn : Hid _ := hbel.trans (n.h.mono hlew)
                                      have HXn := SBox.keep HXr.out n.h y7
                                      clear hbel hB1
                                      go_wp2
                                      exact ⟨⟨(j + 1) + 1, by omega, by go_num, HBn.out, HXn, HA⟩, by simp [intOf]; omega⟩
                                    · have ht2' : decide (now + 100000 < x.til) = true := by simp; omega
                                      refine region_cls_lit (by kernel_rfl) (by kernel_rfl) ?_
                                      repeat (go_big_quiet_step (first | exact Cls.calls (HV.out _) | exact Cls.calls (HF.out _)))
                                      refine wpQuiet_nil ?_
                                      intro n
                                      have HBn : Hid _ := hbel.trans (n.h.mono hlew)
                                      clear hbel
                                      go_wp2
                                      go_ret
                                      exact Says.no (fun h => by have := (h.lease _ _ HG.out).til2; omega) HBn.out
                                  · have ht1' : decide (x.til ≤ now) = true := by simp; omega
                                    refine region_cls_lit (by kernel_rfl) (by kernel_rfl) ?_
                                    repeat (go_big_quiet_step (first | exact Cls.calls (HV.out _) | exact Cls.calls (HF.out _)))
                                    refine wpQuiet_nil ?_
                                    intro n
                                    have HBn : Hid _ := hbel.trans (n.h.mono hlew)
                                    clear hbel
                                    go_wp2
                                    go_ret
                                    exact Says.no (fun h => by have := (h.lease _ _ HG.out).til1; omega) HBn.out
                              · have hless' : decide (x.num ≤ p'.num) = true := by simp; omega
                                refine region_cls_lit (by kernel_rfl) (by kernel_rfl) ?_
                                repeat (go_big_quiet_step (first | exact Cls.calls (HV.out _) | exact Cls.calls (HF.out _)))
                                refine wpQuiet_nil ?_
                                intro n
                                have HBn : Hid _ := hbel.trans (n.h.mono hlew)
                                clear hbel
                                go_wp2
                                go_ret
                                exact Says.no (fun h => by have := (h.lease _ _ HG.out).up j p' rfl HP.out; omega) HBn.out
                            · rw [decide_eq_false hrg] at HV
                              refine region_cls_lit (by kernel_rfl) (by kernel_rfl) ?_
                              repeat (go_big_quiet_step (first | exact Cls.calls (HV.out _) | exact Cls.calls (HF.out _)))
                              refine wpQuiet_nil ?_
                              intro n
                              have HBn : Hid _ := hbel.trans (n.h.mono hlew)
                              clear hbel
                              go_wp2
                              go_ret
                              exact Says.no (fun h => hrg ⟨(h.lease _ _ HG.out).lo, (h.lease _ _ HG.out).hi⟩) HBn.out

                        · go_wp2
                          go_ret
                          exact Says.yes ⟨hN, hn1, hn2, hn3, HF1.out.1, HF1.out.2.1, HF1.out.2.2, HPins.out, fun i x hx => hall.out i x (by have := (List.getElem?_eq_some_iff.1 hx).1; omega) hx⟩ hbel

              · have hn3' : decide ((200 : Int) < (ls.length : Int)) = true := by simp; omega
                clear hx
                go_wp2
                go_ret
                exact Says.no (fun h => hn3 h.nl) hb0
            · have hn2' : decide ((100 : Int) < (ps.length : Int)) = true := by simp; omega
              clear hx
              go_wp2
              go_ret
              exact Says.no (fun h => hn2 h.np) hb0
          · have hn1' : decide ((600 : Int) < (ks.length : Int)) = true := by simp; omega
            clear hx
            go_wp2
            go_ret
            exact Says.no (fun h => hn1 h.nth) hb0
        · rw [decide_eq_false h3]
          go_wp2
          go_ret
          exact Says.no (fun h => h3 ⟨h.nums.births1, h.nums.births2⟩) hb0

      · rw [decide_eq_false h2]
        go_wp2
        go_ret
        exact Says.no (fun h => h2 ⟨h.nums.given1, h.nums.given2⟩) hb0

    · rw [decide_eq_false h1]
      go_wp2
      go_ret
      exact Says.no (fun h => h1 ⟨h.nums.now1, h.nums.now2⟩) hb0

  · rw [decide_eq_false h0]
    go_wp2
    go_ret
    exact Says.no (fun h => h0 ⟨h.nums.wd1, h.nums.wd2⟩) hb0

end Go.Proofs.YthkmpihfhkmaoaaGreat
