/-
  impl.validSums, impl.validRound.
-/
import Derived.Test.YtbelneejghdmoaaRd
import Derived.Test.YtbelneejghdmoaaStCnt
import Derived.Test.YtbelneejghdmoaaStIP
namespace Go.Proofs.Ytbelneejghdmoaa
open Go.ChangeShapes Go.WideShapes Go.ChangeAt Go.RowKit
attribute [local go_sem ↓] Go.wp_at_zero Go.wp_at_succ

set_option maxHeartbeats 400000 in
theorem wrong_any (s : ByteArray) (wd : Int) (b : Nat) (w : World) (hc : w.cell? ⟨b, 0, none⟩ = some (.int .i64 wd)) :
    Calls Try.prog 115 #[.string s, .pointer (some ⟨b, 0, none⟩)] w fun e w' => e = .returned (.bool (!decide ((s.size : Int) = wd))) ∧ w' = w := by
  go_enter Try.func115, Try.ntmps115
  by_cases h : (s.size : Int) = wd
  · have h' : ((s.size : Int) != wd) = false := by simp [h]
    go_wp2
    go_ret
    exact ⟨by simp [h], rfl⟩
  · have h' : ((s.size : Int) != wd) = true := by simp [h]
    go_wp2
    go_ret
    exact ⟨by simp [h], rfl⟩

set_option maxHeartbeats 1000000 in
theorem indexFunc_any (a : Option Addr) (cap b : Nat) (ss : List ByteArray) (wd : Int) (w : World) (B : Nat) (hrow : SRow w B a ss) (hl : ss.length ≤ 1048576) (hc : w.cell? ⟨b, 0, none⟩ = some (.int .i64 wd)) :
    Calls Try.prog 121 #[.slice a ss.length cap, .func (.func 115) #[] #[.pointer (some ⟨b, 0, none⟩)]] w fun e w' => ∃ r : Int, e = .returned (.int .i64 r) ∧ (0 ≤ r ↔ ∃ s ∈ ss, ¬ (s.size : Int) = wd) ∧ w' = w := by
  go_enter Try.func121, Try.ntmps121
  go_wp2
  go_loop [8] (fun i => ∃ k : Nat, k ≤ ss.length ∧ i = .int .i64 k ∧ Hid (∀ j x, j < k → ss[j]? = some x → (x.size : Int) = wd)) (fun i => ss.length - (intOf i).toNat)
  case atStart => exact ⟨0, Nat.zero_le _, rfl, fun j x h => by omega⟩
  case round =>
    obtain ⟨k, hk, rfl, hall⟩ := hrel
    by_cases hlt : k < ss.length
    · obtain ⟨b', off, ha, hb, hc'⟩ := hrow.at hlt
      subst ha
      have hg : Hid (ss[k]? = some ss[k]) := List.getElem?_eq_getElem hlt
      have c0 := hc' k _ hg
      clear hc' hrow
      generalize ss[k] = x at *
      go_wp2_with fail
      refine (wrong_any x wd b w hc).mono ?_
      rintro e w1 ⟨rfl, rfl⟩
      by_cases h : (x.size : Int) = wd
      · have HA : Hid (∀ j y, j < k + 1 → ss[j]? = some y → (y.size : Int) = wd) := by
          intro j y hj hy
          rcases Nat.lt_or_ge j k with h' | h'
          · exact hall j y h' hy
          · obtain rfl : j = k := by omega
            rw [hg.out] at hy
            cases hy
            exact h
        have hd : decide ((x.size : Int) = wd) = true := by simp [h]
        rw [hd]
        go_wp2
        exact ⟨⟨k + 1, by omega, by go_num, HA⟩, by simp [intOf]; omega⟩
      · have hd : decide ((x.size : Int) = wd) = false := by simp [h]
        rw [hd]
        go_wp2
        go_ret
        exact ⟨_, rfl, ⟨fun _ => ⟨x, List.mem_of_getElem? hg.out, h⟩, fun _ => by omega⟩, rfl⟩
    · go_wp2
      go_ret
      refine ⟨_, rfl, ⟨fun h => by omega, fun ⟨s, hs, h⟩ => ?_⟩, rfl⟩
      obtain ⟨j, hj, rfl⟩ := List.getElem_of_mem hs
      exact absurd (hall j _ (by omega) (List.getElem?_eq_getElem hj)) h

open Classical in
set_option maxHeartbeats 400000 in
theorem containsFunc_any (a : Option Addr) (cap b : Nat) (ss : List ByteArray) (wd : Int) (w : World) (B : Nat) (hrow : SRow w B a ss) (hl : ss.length ≤ 1048576) (hc : w.cell? ⟨b, 0, none⟩ = some (.int .i64 wd)) :
    Calls Try.prog 116 #[.slice a ss.length cap, .func (.func 115) #[] #[.pointer (some ⟨b, 0, none⟩)]] w fun e w' => e = .returned (.bool (decide (∃ s ∈ ss, ¬ (s.size : Int) = wd))) ∧ w' = w := by
  go_enter Try.func116, Try.ntmps116
  go_wp2_with fail
  refine (indexFunc_any a cap b ss wd w B hrow hl hc).mono ?_
  rintro e w1 ⟨r, rfl, hr, rfl⟩
  by_cases h : 0 ≤ r
  · have hd : decide ((0 : Int) ≤ r) = true := by simpa using h
    go_wp2
    go_ret
    exact ⟨by simp [hr.1 h], rfl⟩
  · have hd : decide ((0 : Int) ≤ r) = false := by simpa using h
    have hd' : ¬ ∃ s ∈ ss, ¬ (s.size : Int) = wd := fun e => h (hr.2 e)
    go_wp2
    go_ret
    exact ⟨by rw [decide_eq_false hd']; rfl, rfl⟩

/-- The sums of a round are right. -/
structure SumsOk (wd : Int) (qs ms : List ByteArray) : Prop where
  nq : qs.length ≤ 23200
  nm : ms.length ≤ 600
  q : ∀ s ∈ qs, (s.size : Int) = wd
  m : ∀ s ∈ ms, (s.size : Int) = wd
  nd : ms.Nodup

theorem keys_nodup {wd : Int} {ms : List ByteArray} (h8 : wd ≤ 8) (hm : ∀ s ∈ ms, (s.size : Int) = wd) : (ms.map keyL).Nodup ↔ ms.Nodup := by
  induction ms with
  | nil => simp
  | cons x r ih =>
    have ih := ih (fun s hs => hm s (by simp [hs]))
    simp only [List.map_cons, List.nodup_cons, ih]
    have hx := hm x (by simp)
    constructor
    · rintro ⟨h1, h2⟩
      exact ⟨fun h => h1 (List.mem_map.2 ⟨x, h, rfl⟩), h2⟩
    · rintro ⟨h1, h2⟩
      refine ⟨fun h => ?_, h2⟩
      obtain ⟨y, hy, e⟩ := List.mem_map.1 h
      have hys := hm y (by simp [hy])
      have : y = x := key_inj e (by omega) (by omega)
      subst this
      exact h1 hy

set_option maxRecDepth 20000 in
set_option maxHeartbeats 2000000 in
theorem validSums_any (ph top at_ ro wd : Int) (a b : Option Addr) (ac bc : Nat) (qs ms : List ByteArray) (w : World) (hq : SRow w w.heap.size a qs) (hm : SRow w w.heap.size b ms) (hf : RFit qs ms) (h8 : wd ≤ 8) :
    Calls Try.prog 97 #[.agg #[.int .i64 ph, .slice a qs.length ac, .slice b ms.length bc, .int .i64 top, .int .i64 at_, .int .i64 ro], .int .i64 wd] w fun e w' => Says (SumsOk wd qs ms) w w' e := by
  have hfq := hf.q
  have hfm := hf.m
  have hb : Below w.heap.size w ((w.alloc (.cells #[.int .i64 ph, .slice a qs.length ac, .slice b ms.length bc, .int .i64 top, .int .i64 at_, .int .i64 ro] 43)).alloc (.cells #[.int .i64 wd] 3)) := ((Below.refl _ _).alloc (Nat.le_refl _) _).alloc (by simp) _
  go_enter Try.func97, Try.ntmps97
  by_cases h1 : qs.length ≤ 23200
  · have d1 : decide ((23200 : Int) < (qs.length : Int)) = false := by simp; omega
    by_cases h2 : ms.length ≤ 600
    · have d2 : decide ((600 : Int) < (ms.length : Int)) = false := by simp; omega
      go_wp2_with fail
      refine (containsFunc_any a ac _ qs wd _ w.heap.size (hq.below hb) hf.q (by simp [go_sem])).mono ?_
      rintro e w1 ⟨rfl, rfl⟩
      by_cases h3 : ∃ s ∈ qs, ¬ (s.size : Int) = wd
      · rw [decide_eq_true h3]
        go_wp2
        go_ret
        exact Says.no (fun h => by obtain ⟨s, hs, h'⟩ := h3; exact h' (h.q s hs)) hb
      · rw [decide_eq_false h3]
        go_wp2_with fail
        refine (containsFunc_any b bc _ ms wd _ w.heap.size (hm.below hb) hf.m (by simp [go_sem])).mono ?_
        rintro e w2 ⟨rfl, rfl⟩
        by_cases h4 : ∃ s ∈ ms, ¬ (s.size : Int) = wd
        · rw [decide_eq_true h4]
          go_wp2
          go_ret
          exact Says.no (fun h => by obtain ⟨s, hs, h'⟩ := h4; exact h' (h.m s hs)) hb
        · rw [decide_eq_false h4]
          have hqa : ∀ s ∈ qs, (s.size : Int) = wd := fun s hs => Classical.byContradiction fun h => h3 ⟨s, hs, h⟩
          have hma : ∀ s ∈ ms, (s.size : Int) = wd := fun s hs => Classical.byContradiction fun h => h4 ⟨s, hs, h⟩
          have HA : Hid _ := And.intro hqa hma
          clear hqa hma h3 h4
          go_wp2_with fail
          obtain ⟨W, hW⟩ : ∃ W, W = ((w.alloc (.cells #[.int .i64 ph, .slice a qs.length ac, .slice b ms.length bc, .int .i64 top, .int .i64 at_, .int .i64 ro] 43)).alloc (.cells #[.int .i64 wd] 3)) := ⟨_, rfl⟩
          have hbx : RBox W w.heap.size ph (.slice a qs.length ac) (.slice b ms.length bc) top at_ ro := by
            rw [hW]
            exact (RBox.new w ph top at_ ro _ _ 43).below ((Below.refl _ _).alloc (Nat.le_refl _) _)
          rw [← hW] at hb ⊢
          have HX : Hid _ := hbx
          have HMR : Hid _ := hm.below' hb
          obtain ⟨x0, x1, x2, x3, x4, x5, x6⟩ := hbx
          clear hW
          go_region_with (first
            | (go_at_call 117; refine (marksOf_any ph top at_ ro a b qs.length ac bc ms W.drew HMR.out (by omega)).mono ?_; rintro e w2 ⟨mb, cc, f, rfl, hmb, hkc, hmk, hb2⟩; have hlen := fun ty => hkc.len Try.underlying93 ty; have y2 := (hb2.cell (p := ⟨w.heap.size, 2, none⟩) x6).trans x2))
          all_goals
            have HB : Hid (Below w.heap.size w w2) := (hb.drew.trans (hb2.mono hb.size))
            have HK : Hid _ := hmk
            clear hlen hkc hmk hb2
            go_wp2
            go_ret
            refine ⟨_, rfl, ?_, HB.out⟩
            have h6 := HK.out.all
            rw [keys_nodup h8 HA.out.2] at h6
            have h7 : (cc : Int) = ms.length ↔ ms.Nodup := by rw [← h6]; omega
            simp only [beq_iff_eq, h7]
            exact ⟨fun h => ⟨h1, h2, HA.out.1, HA.out.2, h⟩, fun h => h.nd⟩
    · have d2 : decide ((600 : Int) < (ms.length : Int)) = true := by simp; omega
      go_wp2
      go_ret
      exact Says.no (fun h => h2 h.nm) hb
  · have d1 : decide ((23200 : Int) < (qs.length : Int)) = true := by simp; omega
    go_wp2
    go_ret
    exact Says.no (fun h => h1 h.nq) hb

end Go.Proofs.Ytbelneejghdmoaa
