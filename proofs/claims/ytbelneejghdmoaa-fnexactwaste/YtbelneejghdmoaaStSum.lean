/-
  laws.szState, with a bound on all Refs together.
-/
import Derived.Test.YtbelneejghdmoaaStSz
namespace Go.Proofs.Ytbelneejghdmoaa
open Go.ChangeShapes Go.WideShapes Go.ChangeAt Go.RowKit

/-- All Refs together. -/
def refsN (ks : List Kd) : Nat := (ks.map (fun k => k.refs.length)).sum

theorem refsN_snoc {ks : List Kd} {k : Nat} {x : Kd} (h : ks[k]? = some x) : refsN (ks.take (k + 1)) = refsN (ks.take k) + x.refs.length := by
  unfold refsN
  rw [List.take_add_one, h]
  simp

theorem refsN_take (ks : List Kd) (k : Nat) : refsN (ks.take k) ≤ refsN ks := by
  have h : refsN ks = refsN (ks.take k) + refsN (ks.drop k) := by
    unfold refsN
    rw [← List.sum_append, ← List.map_append, List.take_append_drop]
  omega

theorem szThing_t (t : ByteArray) (a : Option Addr) (cap : Nat) (ss : List ByteArray) (left : Int) (w : World) (hrow : SRow w w.heap.size a ss)
    (ht : t.size ≤ maxLen) (hl : ss.length ≤ maxLen) (hs : ∀ s ∈ ss, s.size ≤ maxLen) (h1 : 0 ≤ left) (h2 : left ≤ 1048576) :
    Calls Try.prog 106 #[.agg #[.string t, .slice a ss.length cap], .int .i64 left] w fun e w' => ∃ r : Int, e = .returned (.int .i64 r) ∧ Below w.heap.size w w' ∧ r ≤ left ∧ (0 ≤ r → ss.length ≤ 1048576 ∧ r ≤ left - ss.length) := by
  by_cases hfit : (t.size : Int) + ss.length + bulk ss ≤ left
  · refine (szThing_yes t a cap ss left w hrow h2 hfit).mono ?_
    rintro e w' ⟨rfl, hb⟩
    exact ⟨_, rfl, hb, by omega, fun _ => ⟨by omega, by omega⟩⟩
  · refine (szThing_no t a cap ss left w hrow ht hl hs h1 h2 (by omega)).mono ?_
    rintro e w' ⟨rfl, hb⟩
    exact ⟨_, rfl, hb, by omega, fun h => by omega⟩

set_option maxHeartbeats 400000 in
theorem szKept_t (k : Kd) (a : Option Addr) (cap : Nat) (left : Int) (w : World) (hrow : SRow w w.heap.size a k.refs)
    (h0 : k.sum.size ≤ maxLen) (ht : k.text.size ≤ maxLen) (hl : k.refs.length ≤ maxLen) (hs : ∀ s ∈ k.refs, s.size ≤ maxLen) (h1 : 0 ≤ left) (h2 : left ≤ 1048576) :
    Calls Try.prog 78 #[.agg #[.string k.sum, .int .i64 k.born, .string k.text, .slice a k.refs.length cap], .int .i64 left] w fun e w' => ∃ r : Int, e = .returned (.int .i64 r) ∧ Below w.heap.size w w' ∧ r ≤ left ∧ (0 ≤ r → k.refs.length ≤ 1048576 ∧ r ≤ left - k.refs.length) := by
  have hb : Below w.heap.size w (w.alloc (.cells #[.string k.sum, .int .i64 k.born, .string k.text, .slice a k.refs.length cap] 109)) := (Below.refl _ _).alloc (Nat.le_refl _) _
  have h0' := h0
  unfold maxLen at h0'
  by_cases hn : left < k.sum.size
  · go_enter Try.func78, Try.ntmps78
    go_wp2
    go_ret
    exact ⟨_, rfl, hb, by omega, fun h => by omega⟩
  · go_enter Try.func78, Try.ntmps78
    go_wp2_with fail
    refine (szThing_t k.text a cap k.refs _ _ (hrow.below' hb) ht hl hs (by omega) (by omega)).mono ?_
    rintro e w1 ⟨r, rfl, hb1, hr, hf⟩
    have hB := hb.trans (hb1.mono (by simp))
    by_cases h3 : r < 0
    · go_wp2
      go_ret
      exact ⟨_, rfl, hB, by omega, fun h => by omega⟩
    · go_wp2
      go_ret
      exact ⟨_, rfl, hB, by omega, fun h => ⟨(hf (by omega)).1, by have := (hf (by omega)).2; omega⟩⟩

set_option maxHeartbeats 400000 in
theorem szKeptS_t (a : Option Addr) (cap : Nat) (ks : List Kd) (left : Int) (w : World) (hrow : KRow w w.heap.size a ks) (hm : KMem ks) (h1 : 0 ≤ left) (h2 : left ≤ 1048576) :
    Calls Try.prog 36 #[.slice a ks.length cap, .int .i64 left] w fun e w' => ∃ r : Int, e = .returned (.int .i64 r) ∧ Below w.heap.size w w' ∧ r ≤ left ∧ (0 ≤ r → ks.length ≤ 1048576 ∧ (∀ k ∈ ks, k.refs.length ≤ 1048576) ∧ (refsN ks : Int) ≤ 1048576) := by
  have hml := hm.len
  unfold maxLen at hml
  by_cases hn : left < ks.length
  · go_enter Try.func36, Try.ntmps36
    go_wp2
    go_ret
    exact ⟨_, rfl, Below.refl _ _, by omega, fun h => by omega⟩
  · go_enter Try.func36, Try.ntmps36
    go_wp2
    go_loopw [1, 5] (fun l i wr => ∃ (k : Nat) (L : Int), k ≤ ks.length ∧ i = .int .i64 k ∧ l = .int .i64 L ∧ 0 ≤ L ∧ L ≤ left - refsN (ks.take k) ∧ Below w.heap.size w wr ∧ Hid (∀ j, j < k → ∀ x, ks[j]? = some x → x.refs.length ≤ 1048576)) (fun _ i _ => ks.length - (intOf i).toNat)
    case atStart => exact ⟨0, _, Nat.zero_le _, rfl, rfl, by omega, by simp [refsN]; omega, Below.refl _ _, fun j h => by omega⟩
    case round =>
      obtain ⟨k, L, hk, rfl, rfl, hL0, hL, hbel, hall⟩ := hrel
      by_cases hlt : k < ks.length
      · obtain ⟨b, off, ha, hb, hc⟩ := hrow.at hlt
        subst ha
        have hg : ks[k]? = some ks[k] := List.getElem?_eq_getElem hlt
        have hmem := List.getElem_mem hlt
        obtain ⟨c0, c1, c2, ra, rc, c3, hrr⟩ := (hc k _ hg).below hbel hb
        have m0 := hm.sum _ hmem
        have m1 := hm.text _ hmem
        have m2 := hm.refs _ hmem
        have m3 := hm.ref _ hmem
        have HG : Hid _ := hg
        have hrn : refsN (ks.take (k + 1)) = refsN (ks.take k) + ks[k].refs.length := refsN_snoc hg
        clear hc hrow hm hmem hg
        generalize ks[k] = x at *
        have hcon := szKept_t x ra rc L wr (hrr.mono hbel.size) m0 m1 m2 m3 hL0 (by omega)
        have HC : Hid _ := hcon
        clear hcon m3 hrr
        go_wp2_with fail
        refine Calls.mono HC.out ?_
        rintro e w1 ⟨r, rfl, hb1, hr, hf⟩
        have hB := hbel.trans (hb1.mono hbel.size)
        by_cases h3 : r < 0
        · go_wp2
          go_ret
          exact ⟨_, rfl, hB, by omega, fun h => by omega⟩
        · have HA : Hid (∀ j, j < k + 1 → ∀ x, ks[j]? = some x → x.refs.length ≤ 1048576) := by
            intro j hj y hy
            rcases Nat.lt_or_ge j k with h' | h'
            · exact hall j h' y hy
            · obtain rfl : j = k := by omega
              rw [HG.out] at hy
              cases hy
              exact (hf (by omega)).1
          have hr2 := (hf (by omega)).2
          clear hf hall
          go_wp2
          exact ⟨⟨k + 1, _, by omega, by go_num, rfl, by omega, by omega, hB, HA⟩, by simp [intOf]; omega⟩
      · go_wp2
        go_ret
        refine ⟨_, rfl, hbel, by omega, fun _ => ⟨by omega, fun x hx => ?_, by rw [List.take_of_length_le (by omega)] at hL; omega⟩⟩
        obtain ⟨j, hj, rfl⟩ := List.getElem_of_mem hx
        exact hall j (by omega) _ (List.getElem?_eq_getElem hj)

set_option maxHeartbeats 400000 in
theorem szState_t (wd now given births : Int) (a p l : Option Addr) (ac pc lc : Nat) (ks : List Kd) (ps : List Pd) (ls : List Ld) (left : Int) (w : World) (hrow : SRows w w.heap.size a p l ks ps ls)
    (hk : KMem ks) (hp : PMem ps) (hl : LMem ls) (h1 : 0 ≤ left) (h2 : left ≤ 1048576) :
    Calls Try.prog 9 #[.agg #[.int .i64 wd, .int .i64 now, .int .i64 given, .int .i64 births, .slice a ks.length ac, .slice p ps.length pc, .slice l ls.length lc], .int .i64 left] w fun e w' => ∃ r : Int, e = .returned (.int .i64 r) ∧ Below w.heap.size w w' ∧ r ≤ left ∧ (0 ≤ r → SFit ks ps ls ∧ refsN ks ≤ 1048576) := by
  have hb : Below w.heap.size w (w.alloc (.cells #[.int .i64 wd, .int .i64 now, .int .i64 given, .int .i64 births, .slice a ks.length ac, .slice p ps.length pc, .slice l ls.length lc] 26)) := (Below.refl _ _).alloc (Nat.le_refl _) _
  have hx := SBox.new w wd now given births (.slice a ks.length ac) (.slice p ps.length pc) (.slice l ls.length lc) 26
  go_enter Try.func9, Try.ntmps9
  go_wp2_with fail
  refine (szKeptS_t a ac ks _ _ (hrow.below' hb).k hk (by omega) (by omega)).mono ?_
  rintro e w1 ⟨r, rfl, hb1, hr, hf1⟩
  have hB := hb.trans (hb1.mono (by simp))
  obtain ⟨_, _, _, _, _, x5, x6, x7⟩ := hx.below hb1
  have hz := hb1.size
  clear hb1
  by_cases h3 : r < 0
  · go_wp2
    go_ret
    exact ⟨_, rfl, hB, by omega, fun h => by omega⟩
  · go_wp2_with fail
    refine (szPinS_any p pc ps _ _ (hrow.below' hB).p hp (by omega) (by omega)).mono ?_
    rintro e w2 ⟨r2, rfl, hb2, hr2, hf2⟩
    have hB2 := hB.trans (hb2.mono hB.size)
    replace x6 := (hb2.cell (p := ⟨w.heap.size, 6, none⟩) x7).trans x6
    have hz2 := hb2.size
    clear hb2 x5
    by_cases h4 : r2 < 0
    · go_wp2
      go_ret
      exact ⟨_, rfl, hB2, by omega, fun h => by omega⟩
    · go_wp2_with fail
      refine (szLeaseS_any l lc ls _ _ (hrow.below' hB2).l hl (by omega) (by omega)).mono ?_
      rintro e w3 ⟨r3, rfl, hb3, hr3, hf3⟩
      have hB3 := hB2.trans (hb3.mono hB2.size)
      by_cases h5 : r3 < 0
      · go_wp2
        go_ret
        exact ⟨_, rfl, hB3, by omega, fun h => by omega⟩
      · go_wp2
        go_ret
        exact ⟨_, rfl, hB3, by omega, fun _ => ⟨⟨(hf1 (by omega)).1, (hf1 (by omega)).2.1, hf2 (by omega), hf3 (by omega)⟩, by have := (hf1 (by omega)).2.2; omega⟩⟩

end Go.Proofs.Ytbelneejghdmoaa
