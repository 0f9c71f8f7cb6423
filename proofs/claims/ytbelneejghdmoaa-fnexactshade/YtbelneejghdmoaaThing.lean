/-
  Things: laws.szThing, toThing, eqThing; spec.l1ThingOk; impl.validRefs, validThing.
-/
import Derived.Test.YtbelneejghdmoaaThingH
namespace Go.Proofs.Ytbelneejghdmoaa
open Go.ChangeShapes Go.WideShapes Go.ChangeAt Go.RowKit

set_option maxHeartbeats 400000 in
theorem szThing_yes (t : ByteArray) (a : Option Addr) (cap : Nat) (ss : List ByteArray) (left : Int) (w : World) (hrow : SRow w w.heap.size a ss)
    (h2 : left ≤ 1048576) (hfit : (t.size : Int) + ss.length + bulk ss ≤ left) :
    Calls Try.prog 106 #[.agg #[.string t, .slice a ss.length cap], .int .i64 left] w fun e w' => e = .returned (.int .i64 (left - t.size - ss.length - bulk ss)) ∧ Below w.heap.size w w' := by
  have hb : Below w.heap.size w (w.alloc (.cells #[.string t, .slice a ss.length cap] 107)) := (Below.refl _ _).alloc (Nat.le_refl _) _
  go_enter Try.func106, Try.ntmps106
  go_wp2_with (go_at_call 58; refine (szS_yes a cap ss _ _ w.heap.size (hrow.below hb) (by omega) (by omega)).mono ?_; rintro e w' ⟨rfl, rfl⟩)
  go_ret
  exact ⟨rfl, hb⟩

set_option maxHeartbeats 400000 in
theorem szThing_no (t : ByteArray) (a : Option Addr) (cap : Nat) (ss : List ByteArray) (left : Int) (w : World) (hrow : SRow w w.heap.size a ss)
    (ht : t.size ≤ maxLen) (hl : ss.length ≤ maxLen) (hs : ∀ s ∈ ss, s.size ≤ maxLen)
    (h1 : 0 ≤ left) (h2 : left ≤ 1048576) (hfit : left < (t.size : Int) + ss.length + bulk ss) :
    Calls Try.prog 106 #[.agg #[.string t, .slice a ss.length cap], .int .i64 left] w fun e w' => e = .returned (.int .i64 (-1)) ∧ Below w.heap.size w w' := by
  have hb : Below w.heap.size w (w.alloc (.cells #[.string t, .slice a ss.length cap] 107)) := (Below.refl _ _).alloc (Nat.le_refl _) _
  have ht' := ht
  unfold maxLen at ht'
  by_cases hn : left < t.size
  · go_enter Try.func106, Try.ntmps106
    go_wp2
    go_ret
    exact ⟨rfl, hb⟩
  · go_enter Try.func106, Try.ntmps106
    go_wp2_with (go_at_call 58; refine (szS_no a cap ss _ _ w.heap.size (hrow.below hb) hl hs (by omega) (by omega) (by omega)).mono ?_; rintro e w' ⟨rfl, rfl⟩)
    go_ret
    exact ⟨rfl, hb⟩

set_option maxHeartbeats 400000 in
theorem toThing_any (t : ByteArray) (a : Option Addr) (cap : Nat) (ss : List ByteArray) (w : World) (hrow : SRow w w.heap.size a ss) (hl : ss.length ≤ 1048576) :
    Calls Try.prog 107 #[.agg #[.string t, .slice a ss.length cap]] w fun e w' => ∃ g, e = .returned (.agg #[.string t, .slice (some ⟨g, 0, none⟩) ss.length ss.length]) ∧ w.heap.size ≤ g ∧
      w'.ownsRow w.heap.size 9 1 (.slice (some ⟨g, 0, none⟩) ss.length ss.length) ss.length (ss.map Value.string) ∧ Below w.heap.size w w' := by
  go_enter Try.func107, Try.ntmps107
  go_wp2_with fail
  refine (toS_any a cap ss _ (hrow.below' ((((Below.refl _ _).alloc (Nat.le_refl _) _).alloc (by simp) _).alloc (by simp; omega) _)) hl).mono ?_
  rintro e w1 ⟨g, rfl, hg, hown, hb⟩
  obtain ⟨hc, hf⟩ := bcell hb
  have hz := hb.size
  simp at hz hg
  go_wp2
  refine bodyPost_ret (v := .agg #[.string t, .slice (some ⟨g, 0, none⟩) ss.length ss.length]) (by simp [results, Try.results107, go_sem, hc]) rfl ⟨g, rfl, by omega, ?_, ?_⟩
  · exact (ownsRow_setCell_below (ownsRow_setCell_below (ownsRow_setCell_below hown (by simp) _) (by simp) _) (by simp) _).mono (by simp; omega)
  · exact ((((((Below.refl _ _).alloc (Nat.le_refl _) _).alloc (by simp) _).alloc (by simp; omega) _).trans (hb.mono (by simp; omega))).setCell (by simp; omega) _ |>.setCell (by simp) _ |>.setCell (by simp) _)

set_option maxHeartbeats 400000 in
theorem eqThing_yes (t : ByteArray) (a a' : Option Addr) (cap cap' : Nat) (ss : List ByteArray) (w : World) (hrow : SRow w w.heap.size a ss) (hrow' : SRow w w.heap.size a' ss) (hl : ss.length ≤ 1048576) :
    Calls Try.prog 114 #[.agg #[.string t, .slice a ss.length cap], .agg #[.string t, .slice a' ss.length cap']] w fun e w' => e = .returned (.bool true) ∧ Below w.heap.size w w' := by
  have hb : Below w.heap.size w ((w.alloc (.cells #[.string t, .slice a ss.length cap] 90)).alloc (.cells #[.string t, .slice a' ss.length cap'] 90)) := ((Below.refl _ _).alloc (Nat.le_refl _) _).alloc (by simp) _
  go_enter Try.func114, Try.ntmps114
  go_wp2_with (go_at_call 28; refine (eqS_yes a a' cap cap' ss _ _ _ (hrow.below hb) (hrow'.below hb) hl).mono ?_; rintro e w' ⟨rfl, n, rfl⟩)
  go_ret
  exact ⟨rfl, belowN hb n⟩

/-- The i-th Ref is as it should be: its size, and that it comes behind the one ahead of it. -/
def refAt (wd : Int) (ss : List ByteArray) (i : Nat) : Bool :=
  match ss[i]? with
  | none => true
  | some s => decide ((s.size : Int) = wd) && (match i with
    | 0 => true
    | j + 1 => match ss[j]? with
      | none => true
      | some r => Op.bytesLess r.toList s.toList)

def refsOk (wd : Int) (ss : List ByteArray) : Bool := (List.range ss.length).all (refAt wd ss)

theorem refAt_zero {wd : Int} {ss : List ByteArray} {s : ByteArray} (h : ss[0]? = some s) : refAt wd ss 0 = decide ((s.size : Int) = wd) := by simp [refAt, h]

theorem refAt_succ {wd : Int} {ss : List ByteArray} {j : Nat} {s r : ByteArray} (h : ss[j + 1]? = some s) (h' : ss[j]? = some r) : refAt wd ss (j + 1) = (decide ((s.size : Int) = wd) && Op.bytesLess r.toList s.toList) := by simp [refAt, h, h']

theorem refsOk_no {wd : Int} {ss : List ByteArray} {k : Nat} (hk : k < ss.length) (h : refAt wd ss k = false) : refsOk wd ss = false := by
  unfold refsOk
  rw [List.all_eq_false]
  exact ⟨k, by simpa using hk, by simp [h]⟩

theorem refsOk_yes {wd : Int} {ss : List ByteArray} (h : ∀ i, i < ss.length → refAt wd ss i = true) : refsOk wd ss = true := by
  unfold refsOk
  rw [List.all_eq_true]
  intro i hi
  exact h i (by simpa using hi)

theorem upto_succ {p : Nat → Prop} {k : Nat} (h : ∀ i, i < k → p i) (hk : p k) : ∀ i, i < k + 1 → p i := by
  intro i hi
  rcases Nat.lt_or_ge i k with h' | h'
  · exact h i h'
  · obtain rfl : i = k := by omega
    exact hk

theorem ret_b {a b : Bool} (h : a = b) : Ending.returned (.bool a) = .returned (.bool b) := by rw [h]

set_option maxHeartbeats 400000 in
theorem ivalidRefs_any (a : Option Addr) (cap : Nat) (ss : List ByteArray) (wd : Int) (w : World) (B : Nat) (hrow : SRow w B a ss) (hl : ss.length ≤ 1048576) :
    Calls Try.prog 108 #[.slice a ss.length cap, .int .i64 wd] w fun e w' => e = .returned (.bool (decide (ss.length ≤ 30) && refsOk wd ss)) ∧ w' = w := by
  by_cases hn : 30 < ss.length
  · go_enter Try.func108, Try.ntmps108
    go_wp2
    go_ret
    exact ⟨ret_b (by simp; omega), rfl⟩
  · have hn' : Hid (decide (ss.length ≤ 30) = true) := by show _ = _; simp; omega
    go_enter Try.func108, Try.ntmps108
    go_wp2
    go_loop [12] (fun i => ∃ k : Nat, k ≤ ss.length ∧ i = .int .i64 k ∧ Hid (∀ i, i < k → refAt wd ss i = true)) (fun i => ss.length - (intOf i).toNat)
    case atStart => exact ⟨0, Nat.zero_le _, rfl, fun i h => by omega⟩
    case round =>
      obtain ⟨k, hk, rfl, hall⟩ := hrel
      by_cases hlt : k < ss.length
      · obtain ⟨b, off, ha, hb, hc⟩ := hrow.at hlt
        subst ha
        have hgk : Hid (ss[k]? = some ss[k]) := List.getElem?_eq_getElem hlt
        have hck := hc k ss[k] hgk
        match k, hk, hlt, hall, hgk, hck with
        | 0, hk, hlt, hall, hgk, hck =>
          rw [Nat.add_zero] at hck
          clear hc hrow
          generalize ss[0] = s at *
          by_cases hsz : (s.size : Int) = wd
          · have hz : ((s.size : Int) == wd) = true := by simpa using hsz
            have HZ : Hid _ := hsz
            clear hsz
            go_wp2
            exact ⟨⟨1, by omega, rfl, upto_succ hall (by rw [refAt_zero hgk]; simpa using HZ.out)⟩, by simp [intOf]; omega⟩
          · have hz : ((s.size : Int) == wd) = false := by simpa using hsz
            have HZ : Hid _ := hsz
            clear hsz
            go_wp2
            go_ret
            exact ⟨ret_b (by rw [refsOk_no hlt (by rw [refAt_zero hgk, decide_eq_false HZ.out])]; simp), rfl⟩
        | j + 1, hk, hlt, hall, hgk, hck =>
          have hgj : Hid (ss[j]? = some ss[j]) := List.getElem?_eq_getElem (by omega)
          have hck1 := hc j ss[j] hgj
          clear hc hrow
          generalize ss[j + 1] = s at *
          generalize ss[j] = r at *
          by_cases hsz : (s.size : Int) = wd
          · have hz : ((s.size : Int) == wd) = true := by simpa using hsz
            have HZ : Hid _ := hsz
            clear hsz
            by_cases hless : Op.bytesLess r.toList s.toList = true
            · go_wp2
              exact ⟨⟨j + 1 + 1, by omega, by go_num, upto_succ hall (by rw [refAt_succ hgk hgj]; simp [HZ.out, hless])⟩, by simp [intOf]; omega⟩
            · have hless : Op.bytesLess r.toList s.toList = false := by simpa using hless
              go_wp2
              go_ret
              exact ⟨ret_b (by rw [refsOk_no hlt (by rw [refAt_succ hgk hgj]; simp [hless])]; simp), rfl⟩
          · have hz : ((s.size : Int) == wd) = false := by simpa using hsz
            have HZ : Hid _ := hsz
            clear hsz
            go_wp2
            go_ret
            exact ⟨ret_b (by rw [refsOk_no hlt (by rw [refAt_succ hgk hgj, decide_eq_false HZ.out]; rfl)]; simp), rfl⟩
      · go_wp2
        go_ret
        exact ⟨ret_b (by rw [refsOk_yes (fun i hi => hall i (by omega)), hn'.out]; rfl), rfl⟩

/-- A thing is valid for a width. -/
def okThing (t : ByteArray) (ss : List ByteArray) (wd : Int) : Bool := decide (1 ≤ wd ∧ wd ≤ 8) && (decide (t.size ≤ 2000) && (decide (ss.length ≤ 30) && refsOk wd ss))

theorem okThing_no1 {t : ByteArray} {ss : List ByteArray} {wd : Int} (h : ¬ (1 ≤ wd ∧ wd ≤ 8)) : okThing t ss wd = false := by
  unfold okThing; rw [decide_eq_false h]; rfl

theorem okThing_no2 {t : ByteArray} {ss : List ByteArray} {wd : Int} (h : ¬ t.size ≤ 2000) : okThing t ss wd = false := by
  unfold okThing; rw [decide_eq_false h]; simp

theorem okThing_no3 {t : ByteArray} {ss : List ByteArray} {wd : Int} (h : ¬ ss.length ≤ 30) : okThing t ss wd = false := by
  unfold okThing; rw [decide_eq_false h]; simp

theorem okThing_no4 {t : ByteArray} {ss : List ByteArray} {wd : Int} (h : refsOk wd ss = false) : okThing t ss wd = false := by
  unfold okThing; rw [h]; simp

theorem okThing_yes {t : ByteArray} {ss : List ByteArray} {wd : Int} (h1 : 1 ≤ wd) (h2 : wd ≤ 8) (h3 : t.size ≤ 2000) (h4 : ss.length ≤ 30) (h5 : refsOk wd ss = true) : okThing t ss wd = true := by
  unfold okThing; rw [h5]; simp [h1, h2, h3, h4]

set_option maxHeartbeats 400000 in
theorem ivalidThing_any (t : ByteArray) (a : Option Addr) (cap : Nat) (ss : List ByteArray) (wd : Int) (w : World) (hrow : SRow w w.heap.size a ss) (hl : ss.length ≤ 1048576) (ht : t.size ≤ maxLen) :
    Calls Try.prog 89 #[.agg #[.string t, .slice a ss.length cap], .int .i64 wd] w fun e w' => e = .returned (.bool (okThing t ss wd)) ∧ w' = w.alloc (.cells #[.string t, .slice a ss.length cap] 90) := by
  have hb : Below w.heap.size w (w.alloc (.cells #[.string t, .slice a ss.length cap] 90)) := (Below.refl _ _).alloc (Nat.le_refl _) _
  unfold maxLen at ht
  by_cases h1 : 1 ≤ wd
  · by_cases h2 : wd ≤ 8
    · by_cases h3 : t.size ≤ 2000
      · go_enter Try.func89, Try.ntmps89
        go_wp2_with (first
          | (go_at_call 108; refine (ivalidRefs_any a cap ss wd _ w.heap.size (hrow.below hb) hl).mono ?_; rintro e w' ⟨rfl, rfl⟩)
          | go_in)
        go_ret
        exact ⟨ret_b (by simp [okThing, h1, h2, h3]), rfl⟩
      · have h3' : decide ((t.size : Int) ≤ 2000) = false := by simp; omega
        go_enter Try.func89, Try.ntmps89
        go_wp2
        go_ret
        exact ⟨ret_b (okThing_no2 (by omega)).symm, rfl⟩
    · have h2' : decide (wd ≤ 8) = false := by simp; omega
      go_enter Try.func89, Try.ntmps89
      go_wp2
      go_ret
      exact ⟨ret_b (okThing_no1 (by omega)).symm, rfl⟩
  · go_enter Try.func89, Try.ntmps89
    go_wp2
    go_ret
    exact ⟨ret_b (okThing_no1 (by omega)).symm, rfl⟩

set_option maxHeartbeats 1000000 in
theorem sThingOk_any (t : ByteArray) (a : Option Addr) (cap : Nat) (ss : List ByteArray) (wd : Int) (w : World) (hrow : SRow w w.heap.size a ss) (hl : ss.length ≤ 1048576) (ht : t.size ≤ maxLen) :
    Calls Try.prog 81 #[.agg #[.string t, .slice a ss.length cap], .int .i64 wd] w fun e w' => e = .returned (.bool (okThing t ss wd)) ∧ Below w.heap.size w w' := by
  have hb : Below w.heap.size w (w.alloc (.cells #[.string t, .slice a ss.length cap] 90)) := (Below.refl _ _).alloc (Nat.le_refl _) _
  unfold maxLen at ht
  by_cases h1 : 1 ≤ wd
  · by_cases h2 : wd ≤ 8
    · by_cases h3 : t.size ≤ 2000
      · have h3' : decide (2000 < (t.size : Int)) = false := by simp; omega
        by_cases h4 : ss.length ≤ 30
        · have h4' : decide (30 < (ss.length : Int)) = false := by simp; omega
          go_enter Try.func81, Try.ntmps81
          go_wp2
          go_loopw [5] (fun i wr => ∃ k n : Nat, k ≤ ss.length ∧ i = .int .i64 k ∧ Hid (∀ i, i < k → refAt wd ss i = true) ∧ wr = (w.alloc (.cells #[.string t, .slice a ss.length cap] 90)).drewN n) (fun i _ => ss.length - (intOf i).toNat)
          case atStart => exact ⟨0, 0, Nat.zero_le _, rfl, fun i h => by omega, rfl⟩
          case round =>
            obtain ⟨k, n, hk, rfl, hall, rfl⟩ := hrel
            by_cases hlt : k < ss.length
            · obtain ⟨b, off, ha, hbw, hc⟩ := hrow.at hlt
              subst ha
              have hgk : Hid (ss[k]? = some ss[k]) := List.getElem?_eq_getElem hlt
              have hck := hc k ss[k] hgk
              match k, hk, hlt, hall, hgk, hck with
              | 0, hk, hlt, hall, hgk, hck =>
                rw [Nat.add_zero] at hck
                clear hc hrow
                generalize ss[0] = s at *
                by_cases hsz : (s.size : Int) = wd
                · have hz : ((s.size : Int) != wd) = false := by simpa using hsz
                  have HZ : Hid _ := hsz
                  clear hsz
                  go_wp2
                  go_quiet (fail)
                  go_wp2
                  exact ⟨⟨1, _, by omega, rfl, upto_succ hall (by rw [refAt_zero hgk]; simpa using HZ.out), rfl⟩, by simp [intOf]; omega⟩
                · have hz : ((s.size : Int) != wd) = true := by simpa using hsz
                  have HZ : Hid _ := hsz
                  clear hsz
                  go_wp2
                  go_quiet (fail)
                  go_wp2
                  go_ret
                  exact ⟨ret_b (okThing_no4 (refsOk_no hlt (by rw [refAt_zero hgk, decide_eq_false HZ.out]))).symm, belowN (belowN hb _) _⟩
              | j + 1, hk, hlt, hall, hgk, hck =>
                have hgj : Hid (ss[j]? = some ss[j]) := List.getElem?_eq_getElem (by omega)
                have hck1 := hc j ss[j] hgj
                clear hc hrow
                generalize ss[j + 1] = s at *
                generalize ss[j] = r at *
                by_cases hsz : (s.size : Int) = wd
                · have hz : ((s.size : Int) != wd) = false := by simpa using hsz
                  have HZ : Hid _ := hsz
                  clear hsz
                  by_cases hless : Op.bytesLess r.toList s.toList = true
                  · go_wp2
                    go_quiet (fail)
                    go_wp2
                    exact ⟨⟨j + 1 + 1, _, by omega, by go_num, upto_succ hall (by rw [refAt_succ hgk hgj]; simp [HZ.out, hless]), rfl⟩, by simp [intOf]; omega⟩
                  · have hless : Op.bytesLess r.toList s.toList = false := by simpa using hless
                    go_wp2
                    go_quiet (fail)
                    go_wp2
                    go_ret
                    exact ⟨ret_b (okThing_no4 (refsOk_no hlt (by rw [refAt_succ hgk hgj]; simp [hless]))).symm, belowN (belowN hb _) _⟩
                · have hz : ((s.size : Int) != wd) = true := by simpa using hsz
                  have HZ : Hid _ := hsz
                  clear hsz
                  go_wp2
                  go_quiet (fail)
                  go_wp2
                  go_ret
                  exact ⟨ret_b (okThing_no4 (refsOk_no hlt (by rw [refAt_succ hgk hgj, decide_eq_false HZ.out]; rfl))).symm, belowN (belowN hb _) _⟩
            · go_wp2
              go_ret
              exact ⟨ret_b (okThing_yes h1 h2 h3 h4 (refsOk_yes (fun i hi => hall i (by omega)))).symm, belowN hb _⟩
        · have h4' : decide (30 < (ss.length : Int)) = true := by simp; omega
          go_enter Try.func81, Try.ntmps81
          go_wp2
          go_ret
          exact ⟨ret_b (okThing_no3 (by omega)).symm, hb⟩
      · have h3' : decide (2000 < (t.size : Int)) = true := by simp; omega
        go_enter Try.func81, Try.ntmps81
        go_wp2
        go_ret
        exact ⟨ret_b (okThing_no2 (by omega)).symm, hb⟩
    · have h2' : decide (wd ≤ 8) = false := by simp; omega
      go_enter Try.func81, Try.ntmps81
      go_wp2
      go_ret
      exact ⟨ret_b (okThing_no1 (by omega)).symm, hb⟩
  · go_enter Try.func81, Try.ntmps81
    go_wp2
    go_ret
    exact ⟨ret_b (okThing_no1 (by omega)).symm, hb⟩

end Go.Proofs.Ytbelneejghdmoaa
