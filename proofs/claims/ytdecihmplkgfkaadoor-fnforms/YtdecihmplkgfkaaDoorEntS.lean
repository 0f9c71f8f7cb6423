/-
  spec.l3Ok.
-/
import Derived.Test.YtdecihmplkgfkaaDoorEntI
namespace Go.Proofs.YtdecihmplkgfkaaDoor
open Go.ChangeShapes Go.WideShapes Go.ChangeAt Go.RowKit

/-- spec.l3Uses' third answer. -/
def kNum (k : Nat) : Int := if k = 1 ∨ k = 4 ∨ k = 6 then 1 else if k = 5 then 2 else 0

set_option maxHeartbeats 1000000 in
theorem uses_any (k : Nat) (w : World) (h1 : 1 ≤ k) (h7 : k ≤ 7) :
    Calls Tryd.prog 50 #[.int .i64 k] w fun e w' => e = .returned (.tuple #[.bool (kSum k), .bool (kName k), .int .i64 (kNum k), .bool (kThing k)]) ∧ w' = w := by
  match k, h1, h7 with
  | 1, _, _ | 2, _, _ | 3, _, _ | 4, _, _ | 5, _, _ | 6, _, _ | 7, _, _ =>
    go_enter Tryd.func50, Tryd.ntmps50
    go_wp2
    refine bodyPost_ret ?_ rfl ⟨rfl, rfl⟩
    simp [results, Tryd.results50, go_sem, kSum, kName, kNum, kThing]

theorem sNum_any (k : Nat) (n : Int) (w : World) :
    Calls Tryd.prog 51 #[.int .i64 n, .int .i64 (kNum k)] w fun e w' => e = .returned (.bool (numOk (kMost k) n)) ∧ w' = w := by
  have hm : (kNum k = 1 ∧ kMost k = 100000) ∨ (kNum k = 2 ∧ kMost k = 1000000000) ∨ (kNum k = 0 ∧ kMost k = 0) := by
    unfold kNum kMost
    split
    · exact .inl ⟨rfl, rfl⟩
    · split
      · exact .inr (.inl ⟨rfl, rfl⟩)
      · exact .inr (.inr ⟨rfl, rfl⟩)
  rcases hm with ⟨h1, h2⟩ | ⟨h1, h2⟩ | ⟨h1, h2⟩ <;> rw [h1, h2]
  · by_cases hn : 1 ≤ n
    · go_enter Tryd.func51, Tryd.ntmps51
      go_wp2
      go_ret
      exact ⟨ret_b (by unfold numOk; rw [if_neg (by decide)]; simp [hn]), rfl⟩
    · have hn' : decide (1 ≤ n) = false := by simpa using hn
      go_enter Tryd.func51, Tryd.ntmps51
      go_wp2
      go_ret
      exact ⟨ret_b (by unfold numOk; rw [if_neg (by decide), decide_eq_false (by omega)]), rfl⟩
  · by_cases hn : 1 ≤ n
    · go_enter Tryd.func51, Tryd.ntmps51
      go_wp2
      go_ret
      exact ⟨ret_b (by unfold numOk; rw [if_neg (by decide)]; simp [hn]), rfl⟩
    · have hn' : decide (1 ≤ n) = false := by simpa using hn
      go_enter Tryd.func51, Tryd.ntmps51
      go_wp2
      go_ret
      exact ⟨ret_b (by unfold numOk; rw [if_neg (by decide), decide_eq_false (by omega)]), rfl⟩
  · go_enter Tryd.func51, Tryd.ntmps51
    go_wp2
    go_ret
    exact ⟨ret_b (by unfold numOk; rw [if_pos rfl]; rfl), rfl⟩

theorem sOk_kind (k : Int) (sum name : ByteArray) (n : Int) (t : ByteArray) (ad : Option Addr) (cap : Nat) (ss : List ByteArray) (wd : Int) (w : World) (hk : ¬ (1 ≤ k ∧ k ≤ 7)) :
    Calls Tryd.prog 24 #[.agg (entV k sum name n t ad ss.length cap), .int .i64 wd] w fun e w' => e = .returned (.bool false) ∧ Below w.heap.size w w' := by
  by_cases hw : 1 ≤ wd ∧ wd ≤ 8
  · obtain ⟨hw1, hw2⟩ := hw
    by_cases h1 : k < 1
    · have e1 : decide (k < 1) = true := by simpa using h1
      go_enter Tryd.func24, Tryd.ntmps24
      go_wp2
      go_ret
      exact ⟨rfl, (Below.refl _ _).alloc (Nat.le_refl _) _⟩
    · have e1 : decide (k < 1) = false := by simpa using h1
      have e2 : decide (7 < k) = true := by simp; omega
      go_enter Tryd.func24, Tryd.ntmps24
      go_wp2
      go_ret
      exact ⟨rfl, (Below.refl _ _).alloc (Nat.le_refl _) _⟩
  · by_cases hw1 : 1 ≤ wd
    · have hw2 : decide (wd ≤ 8) = false := by simp; omega
      go_enter Tryd.func24, Tryd.ntmps24
      go_wp2
      go_ret
      exact ⟨rfl, (Below.refl _ _).alloc (Nat.le_refl _) _⟩
    · go_enter Tryd.func24, Tryd.ntmps24
      go_wp2
      go_ret
      exact ⟨rfl, (Below.refl _ _).alloc (Nat.le_refl _) _⟩

theorem sOk_width (k : Nat) (sum name : ByteArray) (n : Int) (t : ByteArray) (ad : Option Addr) (cap : Nat) (ss : List ByteArray) (wd : Int) (w : World) (hw : ¬ (1 ≤ wd ∧ wd ≤ 8)) :
    Calls Tryd.prog 24 #[.agg (entV k sum name n t ad ss.length cap), .int .i64 wd] w fun e w' => e = .returned (.bool (entOk k sum name n t ss wd)) ∧ Below w.heap.size w w' := by
  have HWD : Hid (decide (1 ≤ wd ∧ wd ≤ 8) = false) := by show _ = _; simpa using hw
  by_cases hw1 : 1 ≤ wd
  · have hw2 : decide (wd ≤ 8) = false := by simp; omega
    go_enter Tryd.func24, Tryd.ntmps24
    go_wp2
    go_ret
    exact ⟨ret_b (by unfold entOk; rw [HWD.out]; rfl), (Below.refl _ _).alloc (Nat.le_refl _) _⟩
  · go_enter Tryd.func24, Tryd.ntmps24
    go_wp2
    go_ret
    exact ⟨ret_b (by unfold entOk; rw [HWD.out]; rfl), (Below.refl _ _).alloc (Nat.le_refl _) _⟩

theorem thOk_len {t : ByteArray} {ss : List ByteArray} {wd : Int} (h0 : t.size = 0) : ((ss.length : Int) == 0) = (true && (true && (true && thOk false t ss wd))) := by
  unfold thOk
  rw [if_neg (by decide)]
  by_cases hs0 : ss.length = 0
  · rw [decide_eq_true ⟨h0, hs0⟩]
    simp [hs0]
  · rw [decide_eq_false (fun h => hs0 h.2)]
    simp
    intro h
    exact hs0 (by rw [h]; rfl)

theorem thOk_txt {t : ByteArray} {ss : List ByteArray} {wd : Int} (h0 : ¬ t.size = 0) : false = (true && (true && (true && thOk false t ss wd))) := by
  unfold thOk
  rw [if_neg (by decide), decide_eq_false (fun h => h0 h.1)]
  rfl

set_option maxHeartbeats 4000000 in
theorem sOk_any (k : Nat) (sum name : ByteArray) (n : Int) (t : ByteArray) (ad : Option Addr) (cap : Nat) (ss : List ByteArray) (wd : Int) (w : World) (h1 : 1 ≤ k) (h7 : k ≤ 7) (hw1 : 1 ≤ wd) (hw2 : wd ≤ 8)
    (hrow : SRow w w.heap.size ad ss) (hl : ss.length ≤ 1048576) (ht : t.size ≤ maxLen) (hn : name.size ≤ maxLen) :
    Calls Tryd.prog 24 #[.agg (entV k sum name n t ad ss.length cap), .int .i64 wd] w fun e w' => e = .returned (.bool (entOk k sum name n t ss wd)) ∧ Below w.heap.size w w' := by
  have hb0 : Below w.heap.size w (w.alloc (.cells (entV k sum name n t ad ss.length cap) 31)) := (Below.refl _ _).alloc (Nat.le_refl _) _
  have HWD : Hid (decide (1 ≤ wd ∧ wd ≤ 8) = true) := by show _ = _; simp [hw1, hw2]
  have e1 : decide ((k : Int) < 1) = false := by simp; omega
  have e2 : decide ((7 : Int) < k) = false := by simp; omega
  have HU := uses_any k
  have HNu := sNum_any k n
  unfold entOk
  rw [HWD.out, Bool.true_and]
  generalize kNum k = kn at *
  generalize numOk (kMost k) n = nu at *
  generalize hks : kSum k = us at *
  generalize hkn : kName k = un at *
  generalize hkt : kThing k = ut at *
  have HUs : Hid _ := HU
  have HNs : Hid _ := HNu
  clear HU HNu hks hkn hkt
  go_enter Tryd.func24, Tryd.ntmps24
  go_wp2_with (go_at_call 31; go_in)
  refine (HUs.out _ h1 h7).mono ?_
  rintro e w1 ⟨rfl, rfl⟩
  cases us with
  | true =>
    by_cases hs : (sum.size : Int) = wd
    · have hs' : ((sum.size : Int) != wd) = false := by simpa using hs
      have HS : Hid (sumOk true sum wd = true) := by show _ = _; simpa [sumOk] using hs
      clear hs
      go_wp2_with fail
      refine (HNs.out _).mono ?_
      rintro e w2 ⟨rfl, rfl⟩
      cases nu with
      | false =>
        go_wp2
        go_ret
        exact ⟨ret_b (by simp), hb0⟩
      | true =>
        cases un with
        | true =>
          go_wp2_with fail
          refine (sName_any name _ hn).mono ?_
          rintro e w3 ⟨rfl, rfl⟩
          cases hno : nameOk name with
          | false =>
            go_wp2
            go_ret
            exact ⟨ret_b (by simp [nmOk, hno]), hb0⟩
          | true =>
            have HM : Hid (nmOk true name = true) := hno
            clear hno
            cases ut with
            | true =>
              go_wp2_with fail
              refine (sThingOk_any t ad cap ss wd _ (hrow.below' hb0) hl ht).mono ?_
              rintro e w4 ⟨rfl, hb4⟩
              go_wp2
              go_ret
              exact ⟨ret_b (by rw [HS.out, HM.out]; rfl), hb0.trans (hb4.mono (by simp))⟩
            | false =>
              by_cases h0 : t.size = 0
              · have he : t.toList.isEmpty = true := by rw [isE]; simpa using h0
                have H0 : Hid _ := h0
                clear h0
                go_wp2
                go_ret
                exact ⟨ret_b (by rw [HS.out, HM.out]; exact thOk_len H0.out), hb0⟩
              · have he : t.toList.isEmpty = false := by rw [isE]; simpa using h0
                have H0 : Hid _ := h0
                clear h0
                go_wp2
                go_ret
                exact ⟨ret_b (by rw [HS.out, HM.out]; exact thOk_txt H0.out), hb0⟩
        | false =>
          by_cases hno : name.size = 0
          · have hno' : name.toList.isEmpty = true := by rw [isE]; simpa using hno
            have HM : Hid (nmOk false name = true) := by show _ = _; simpa [nmOk] using hno
            clear hno
            cases ut with
            | true =>
              go_wp2_with fail
              refine (sThingOk_any t ad cap ss wd _ (hrow.below' hb0) hl ht).mono ?_
              rintro e w4 ⟨rfl, hb4⟩
              go_wp2
              go_ret
              exact ⟨ret_b (by rw [HS.out, HM.out]; rfl), hb0.trans (hb4.mono (by simp))⟩
            | false =>
              by_cases h0 : t.size = 0
              · have he : t.toList.isEmpty = true := by rw [isE]; simpa using h0
                have H0 : Hid _ := h0
                clear h0
                go_wp2
                go_ret
                exact ⟨ret_b (by rw [HS.out, HM.out]; exact thOk_len H0.out), hb0⟩
              · have he : t.toList.isEmpty = false := by rw [isE]; simpa using h0
                have H0 : Hid _ := h0
                clear h0
                go_wp2
                go_ret
                exact ⟨ret_b (by rw [HS.out, HM.out]; exact thOk_txt H0.out), hb0⟩
          · have hno' : name.toList.isEmpty = false := by rw [isE]; simpa using hno
            have HM : Hid (nmOk false name = false) := by show _ = _; simpa [nmOk] using hno
            clear hno
            go_wp2
            go_ret
            exact ⟨ret_b (by rw [HM.out]; simp), hb0⟩
    · have hs' : ((sum.size : Int) != wd) = true := by simpa using hs
      have HS : Hid (sumOk true sum wd = false) := by show _ = _; simpa [sumOk] using hs
      clear hs
      go_wp2
      go_ret
      exact ⟨ret_b (by rw [HS.out]; rfl), hb0⟩
  | false =>
    by_cases hs : sum.size = 0
    · have hs' : sum.toList.isEmpty = true := by rw [isE]; simpa using hs
      have HS : Hid (sumOk false sum wd = true) := by show _ = _; simpa [sumOk] using hs
      clear hs
      go_wp2_with fail
      refine (HNs.out _).mono ?_
      rintro e w2 ⟨rfl, rfl⟩
      cases nu with
      | false =>
        go_wp2
        go_ret
        exact ⟨ret_b (by simp), hb0⟩
      | true =>
        cases un with
        | true =>
          go_wp2_with fail
          refine (sName_any name _ hn).mono ?_
          rintro e w3 ⟨rfl, rfl⟩
          cases hno : nameOk name with
          | false =>
            go_wp2
            go_ret
            exact ⟨ret_b (by simp [nmOk, hno]), hb0⟩
          | true =>
            have HM : Hid (nmOk true name = true) := hno
            clear hno
            cases ut with
            | true =>
              go_wp2_with fail
              refine (sThingOk_any t ad cap ss wd _ (hrow.below' hb0) hl ht).mono ?_
              rintro e w4 ⟨rfl, hb4⟩
              go_wp2
              go_ret
              exact ⟨ret_b (by rw [HS.out, HM.out]; rfl), hb0.trans (hb4.mono (by simp))⟩
            | false =>
              by_cases h0 : t.size = 0
              · have he : t.toList.isEmpty = true := by rw [isE]; simpa using h0
                have H0 : Hid _ := h0
                clear h0
                go_wp2
                go_ret
                exact ⟨ret_b (by rw [HS.out, HM.out]; exact thOk_len H0.out), hb0⟩
              · have he : t.toList.isEmpty = false := by rw [isE]; simpa using h0
                have H0 : Hid _ := h0
                clear h0
                go_wp2
                go_ret
                exact ⟨ret_b (by rw [HS.out, HM.out]; exact thOk_txt H0.out), hb0⟩
        | false =>
          by_cases hno : name.size = 0
          · have hno' : name.toList.isEmpty = true := by rw [isE]; simpa using hno
            have HM : Hid (nmOk false name = true) := by show _ = _; simpa [nmOk] using hno
            clear hno
            cases ut with
            | true =>
              go_wp2_with fail
              refine (sThingOk_any t ad cap ss wd _ (hrow.below' hb0) hl ht).mono ?_
              rintro e w4 ⟨rfl, hb4⟩
              go_wp2
              go_ret
              exact ⟨ret_b (by rw [HS.out, HM.out]; rfl), hb0.trans (hb4.mono (by simp))⟩
            | false =>
              by_cases h0 : t.size = 0
              · have he : t.toList.isEmpty = true := by rw [isE]; simpa using h0
                have H0 : Hid _ := h0
                clear h0
                go_wp2
                go_ret
                exact ⟨ret_b (by rw [HS.out, HM.out]; exact thOk_len H0.out), hb0⟩
              · have he : t.toList.isEmpty = false := by rw [isE]; simpa using h0
                have H0 : Hid _ := h0
                clear h0
                go_wp2
                go_ret
                exact ⟨ret_b (by rw [HS.out, HM.out]; exact thOk_txt H0.out), hb0⟩
          · have hno' : name.toList.isEmpty = false := by rw [isE]; simpa using hno
            have HM : Hid (nmOk false name = false) := by show _ = _; simpa [nmOk] using hno
            clear hno
            go_wp2
            go_ret
            exact ⟨ret_b (by rw [HM.out]; simp), hb0⟩
    · have hs' : sum.toList.isEmpty = false := by rw [isE]; simpa using hs
      have HS : Hid (sumOk false sum wd = false) := by show _ = _; simpa [sumOk] using hs
      clear hs
      go_wp2
      go_ret
      exact ⟨ret_b (by rw [HS.out]; rfl), hb0⟩

end Go.Proofs.YtdecihmplkgfkaaDoor
