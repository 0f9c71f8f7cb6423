/-
  laws.szState and what it calls.
-/
import Derived.Test.YtbelneejghdmoaaSt
namespace Go.Proofs.Ytbelneejghdmoaa
open Go.ChangeShapes Go.WideShapes Go.ChangeAt Go.RowKit

theorem szThing_any (t : ByteArray) (a : Option Addr) (cap : Nat) (ss : List ByteArray) (left : Int) (w : World) (hrow : SRow w w.heap.size a ss)
    (ht : t.size ≤ maxLen) (hl : ss.length ≤ maxLen) (hs : ∀ s ∈ ss, s.size ≤ maxLen) (h1 : 0 ≤ left) (h2 : left ≤ 1048576) :
    Calls Try.prog 106 #[.agg #[.string t, .slice a ss.length cap], .int .i64 left] w fun e w' => ∃ r : Int, e = .returned (.int .i64 r) ∧ Below w.heap.size w w' ∧ r ≤ left ∧ (0 ≤ r → ss.length ≤ 1048576) := by
  by_cases hfit : (t.size : Int) + ss.length + bulk ss ≤ left
  · refine (szThing_yes t a cap ss left w hrow h2 hfit).mono ?_
    rintro e w' ⟨rfl, hb⟩
    exact ⟨_, rfl, hb, by omega, fun _ => by omega⟩
  · refine (szThing_no t a cap ss left w hrow ht hl hs h1 h2 (by omega)).mono ?_
    rintro e w' ⟨rfl, hb⟩
    exact ⟨_, rfl, hb, by omega, fun h => by omega⟩

set_option maxHeartbeats 400000 in
theorem szKept_any (k : Kd) (a : Option Addr) (cap : Nat) (left : Int) (w : World) (hrow : SRow w w.heap.size a k.refs)
    (h0 : k.sum.size ≤ maxLen) (ht : k.text.size ≤ maxLen) (hl : k.refs.length ≤ maxLen) (hs : ∀ s ∈ k.refs, s.size ≤ maxLen) (h1 : 0 ≤ left) (h2 : left ≤ 1048576) :
    Calls Try.prog 78 #[.agg #[.string k.sum, .int .i64 k.born, .string k.text, .slice a k.refs.length cap], .int .i64 left] w fun e w' => ∃ r : Int, e = .returned (.int .i64 r) ∧ Below w.heap.size w w' ∧ r ≤ left ∧ (0 ≤ r → k.refs.length ≤ 1048576) := by
  have hb : Below w.heap.size w (w.alloc (.cells #[.string k.sum, .int .i64 k.born, .string k.text, .slice a k.refs.length cap] 109)) := (Below.refl _ _).alloc (Nat.le_refl _) _
  have h0' := h0
  unfold maxLen at h0'
  by_cases hn : left < k.sum.size
  · go_enter Try.func78, Try.ntmps78
    go_wp2
    go_ret
    exact ⟨_, rfl, hb, by omega, fun h => by omega⟩
  · go_enter Try.func78, Try.ntmps78
    go_wp2_with fail
    refine (szThing_any k.text a cap k.refs _ _ (hrow.below' hb) ht hl hs (by omega) (by omega)).mono ?_
    rintro e w1 ⟨r, rfl, hb1, hr, hf⟩
    have hB := hb.trans (hb1.mono (by simp))
    by_cases h3 : r < 0
    · go_wp2
      go_ret
      exact ⟨_, rfl, hB, by omega, fun h => by omega⟩
    · go_wp2
      go_ret
      exact ⟨_, rfl, hB, by omega, fun h => hf (by omega)⟩

/-- What a machine can hold. -/
structure KMem (ks : List Kd) : Prop where
  len : ks.length ≤ maxLen
  sum : ∀ k ∈ ks, k.sum.size ≤ maxLen
  text : ∀ k ∈ ks, k.text.size ≤ maxLen
  refs : ∀ k ∈ ks, k.refs.length ≤ maxLen
  ref : ∀ k ∈ ks, ∀ s ∈ k.refs, s.size ≤ maxLen

set_option maxHeartbeats 400000 in
theorem szKeptS_any (a : Option Addr) (cap : Nat) (ks : List Kd) (left : Int) (w : World) (hrow : KRow w w.heap.size a ks) (hm : KMem ks) (h1 : 0 ≤ left) (h2 : left ≤ 1048576) :
    Calls Try.prog 36 #[.slice a ks.length cap, .int .i64 left] w fun e w' => ∃ r : Int, e = .returned (.int .i64 r) ∧ Below w.heap.size w w' ∧ r ≤ left ∧ (0 ≤ r → ks.length ≤ 1048576 ∧ ∀ k ∈ ks, k.refs.length ≤ 1048576) := by
  have hml := hm.len
  unfold maxLen at hml
  by_cases hn : left < ks.length
  · go_enter Try.func36, Try.ntmps36
    go_wp2
    go_ret
    exact ⟨_, rfl, Below.refl _ _, by omega, fun h => by omega⟩
  · go_enter Try.func36, Try.ntmps36
    go_wp2
    go_loopw [1, 5] (fun l i wr => ∃ (k : Nat) (L : Int), k ≤ ks.length ∧ i = .int .i64 k ∧ l = .int .i64 L ∧ 0 ≤ L ∧ L ≤ left ∧ Below w.heap.size w wr ∧ Hid (∀ j, j < k → ∀ x, ks[j]? = some x → x.refs.length ≤ 1048576)) (fun _ i _ => ks.length - (intOf i).toNat)
    case atStart => exact ⟨0, _, Nat.zero_le _, rfl, rfl, by omega, by omega, Below.refl _ _, fun j h => by omega⟩
    case round =>
      obtain ⟨k, L, hk, rfl, rfl, hL0, hL, hbel, hall⟩ := hrel
      by_cases hlt : k < ks.length
      · obtain ⟨b, off, ha, hb, hc⟩ := hrow.at hlt
        subst ha
        have hg : ks[k]? = some ks[k] := List.getElem?_eq_getElem hlt
        have hmem := List.getElem_mem hlt
        obtain ⟨c0, c1, c2, ra, rc, c3, hrr⟩ := (hc k _ hg).below hbel hb
        have m0 := hm.sum _ hmem
        have m1 := hm.text _ hmem
        have m2 := hm.refs _ hmem
        have m3 := hm.ref _ hmem
        have HG : Hid _ := hg
        clear hc hrow hm hmem hg
        generalize ks[k] = x at *
        have hcon := szKept_any x ra rc L wr (hrr.mono hbel.size) m0 m1 m2 m3 hL0 (by omega)
        have HC : Hid _ := hcon
        clear hcon m3 hrr
        go_wp2_with fail
        refine Calls.mono HC.out ?_
        rintro e w1 ⟨r, rfl, hb1, hr, hf⟩
        have hB := hbel.trans (hb1.mono hbel.size)
        by_cases h3 : r < 0
        · go_wp2
          go_ret
          exact ⟨_, rfl, hB, by omega, fun h => by omega⟩
        · have HA : Hid (∀ j, j < k + 1 → ∀ x, ks[j]? = some x → x.refs.length ≤ 1048576) := by
            intro j hj y hy
            rcases Nat.lt_or_ge j k with h' | h'
            · exact hall j h' y hy
            · obtain rfl : j = k := by omega
              rw [HG.out] at hy
              cases hy
              exact hf (by omega)
          go_wp2
          exact ⟨⟨k + 1, _, by omega, by go_num, rfl, by omega, by omega, hB, HA⟩, by simp [intOf]; omega⟩
      · go_wp2
        go_ret
        refine ⟨_, rfl, hbel, by omega, fun _ => ⟨by omega, fun x hx => ?_⟩⟩
        obtain ⟨j, hj, rfl⟩ := List.getElem_of_mem hx
        exact hall j (by omega) _ (List.getElem?_eq_getElem hj)

structure PMem (ps : List Pd) : Prop where
  len : ps.length ≤ maxLen
  name : ∀ p ∈ ps, p.name.size ≤ maxLen
  sum : ∀ p ∈ ps, p.sum.size ≤ maxLen

structure LMem (ls : List Ld) : Prop where
  len : ls.length ≤ maxLen
  sum : ∀ l ∈ ls, l.sum.size ≤ maxLen

set_option maxHeartbeats 400000 in
theorem szPin_any (p : Pd) (left : Int) (w : World) (h0 : p.name.size ≤ maxLen) (ht : p.sum.size ≤ maxLen) (h1 : 0 ≤ left) (h2 : left ≤ 1048576) :
    Calls Try.prog 79 #[.agg #[.string p.name, .string p.sum], .int .i64 left] w fun e w' => ∃ r : Int, e = .returned (.int .i64 r) ∧ Below w.heap.size w w' ∧ r ≤ left := by
  have hb : Below w.heap.size w (w.alloc (.cells #[.string p.name, .string p.sum] 111)) := (Below.refl _ _).alloc (Nat.le_refl _) _
  unfold maxLen at h0 ht
  by_cases hn : left < p.name.size
  · go_enter Try.func79, Try.ntmps79
    go_wp2
    go_ret
    exact ⟨_, rfl, hb, by omega⟩
  · by_cases hm : left - p.name.size < p.sum.size
    · go_enter Try.func79, Try.ntmps79
      go_wp2
      go_ret
      exact ⟨_, rfl, hb, by omega⟩
    · go_enter Try.func79, Try.ntmps79
      go_wp2
      go_ret
      exact ⟨_, rfl, hb, by omega⟩

set_option maxHeartbeats 400000 in
theorem szLease_any (l : Ld) (left : Int) (w : World) (h0 : l.sum.size ≤ maxLen) (h1 : 0 ≤ left) (h2 : left ≤ 1048576) :
    Calls Try.prog 80 #[.agg #[.int .i64 l.num, .string l.sum, .int .i64 l.til], .int .i64 left] w fun e w' => ∃ r : Int, e = .returned (.int .i64 r) ∧ Below w.heap.size w w' ∧ r ≤ left := by
  have hb : Below w.heap.size w (w.alloc (.cells #[.int .i64 l.num, .string l.sum, .int .i64 l.til] 113)) := (Below.refl _ _).alloc (Nat.le_refl _) _
  unfold maxLen at h0
  by_cases hn : left < l.sum.size
  · go_enter Try.func80, Try.ntmps80
    go_wp2
    go_ret
    exact ⟨_, rfl, hb, by omega⟩
  · go_enter Try.func80, Try.ntmps80
    go_wp2
    go_ret
    exact ⟨_, rfl, hb, by omega⟩

set_option maxHeartbeats 400000 in
theorem szPinS_any (a : Option Addr) (cap : Nat) (ps : List Pd) (left : Int) (w : World) (hrow : PRow w w.heap.size a ps) (hm : PMem ps) (h1 : 0 ≤ left) (h2 : left ≤ 1048576) :
    Calls Try.prog 37 #[.slice a ps.length cap, .int .i64 left] w fun e w' => ∃ r : Int, e = .returned (.int .i64 r) ∧ Below w.heap.size w w' ∧ r ≤ left ∧ (0 ≤ r → ps.length ≤ 1048576) := by
  have hml := hm.len
  unfold maxLen at hml
  by_cases hn : left < ps.length
  · go_enter Try.func37, Try.ntmps37
    go_wp2
    go_ret
    exact ⟨_, rfl, Below.refl _ _, by omega, fun h => by omega⟩
  · go_enter Try.func37, Try.ntmps37
    go_wp2
    go_loopw [1, 5] (fun l i wr => ∃ (k : Nat) (L : Int), k ≤ ps.length ∧ i = .int .i64 k ∧ l = .int .i64 L ∧ 0 ≤ L ∧ L ≤ left ∧ Below w.heap.size w wr) (fun _ i _ => ps.length - (intOf i).toNat)
    case atStart => exact ⟨0, _, Nat.zero_le _, rfl, rfl, by omega, by omega, Below.refl _ _⟩
    case round =>
      obtain ⟨k, L, hk, rfl, rfl, hL0, hL, hbel⟩ := hrel
      by_cases hlt : k < ps.length
      · obtain ⟨b, off, ha, hb, hc⟩ := (hrow.below hbel).at hlt
        subst ha
        have hg : ps[k]? = some ps[k] := List.getElem?_eq_getElem hlt
        have hmem := List.getElem_mem hlt
        obtain ⟨c0, c1⟩ := hc k _ hg
        have m0 := hm.name _ hmem
        have m1 := hm.sum _ hmem
        clear hc hrow hm hmem hg
        generalize ps[k] = x at *
        go_wp2_with fail
        refine (szPin_any x L wr m0 m1 (by omega) (by omega)).mono ?_
        rintro e w1 ⟨r, rfl, hb1, hr⟩
        have hB := hbel.trans (hb1.mono hbel.size)
        by_cases h3 : r < 0
        · go_wp2
          go_ret
          exact ⟨_, rfl, hB, by omega, fun h => by omega⟩
        · go_wp2
          exact ⟨⟨k + 1, _, by omega, by go_num, rfl, by omega, by omega, hB⟩, by simp [intOf]; omega⟩
      · go_wp2
        go_ret
        exact ⟨_, rfl, hbel, by omega, fun _ => by omega⟩

set_option maxHeartbeats 400000 in
theorem szLeaseS_any (a : Option Addr) (cap : Nat) (ls : List Ld) (left : Int) (w : World) (hrow : LRow w w.heap.size a ls) (hm : LMem ls) (h1 : 0 ≤ left) (h2 : left ≤ 1048576) :
    Calls Try.prog 38 #[.slice a ls.length cap, .int .i64 left] w fun e w' => ∃ r : Int, e = .returned (.int .i64 r) ∧ Below w.heap.size w w' ∧ r ≤ left ∧ (0 ≤ r → ls.length ≤ 1048576) := by
  have hml := hm.len
  unfold maxLen at hml
  by_cases hn : left < ls.length
  · go_enter Try.func38, Try.ntmps38
    go_wp2
    go_ret
    exact ⟨_, rfl, Below.refl _ _, by omega, fun h => by omega⟩
  · go_enter Try.func38, Try.ntmps38
    go_wp2
    go_loopw [1, 5] (fun l i wr => ∃ (k : Nat) (L : Int), k ≤ ls.length ∧ i = .int .i64 k ∧ l = .int .i64 L ∧ 0 ≤ L ∧ L ≤ left ∧ Below w.heap.size w wr) (fun _ i _ => ls.length - (intOf i).toNat)
    case atStart => exact ⟨0, _, Nat.zero_le _, rfl, rfl, by omega, by omega, Below.refl _ _⟩
    case round =>
      obtain ⟨k, L, hk, rfl, rfl, hL0, hL, hbel⟩ := hrel
      by_cases hlt : k < ls.length
      · obtain ⟨b, off, ha, hb, hc⟩ := (hrow.below hbel).at hlt
        subst ha
        have hg : ls[k]? = some ls[k] := List.getElem?_eq_getElem hlt
        have hmem := List.getElem_mem hlt
        obtain ⟨c0, c1, c2⟩ := hc k _ hg
        have m0 := hm.sum _ hmem
        clear hc hrow hm hmem hg
        generalize ls[k] = x at *
        go_wp2_with fail
        refine (szLease_any x L wr m0 (by omega) (by omega)).mono ?_
        rintro e w1 ⟨r, rfl, hb1, hr⟩
        have hB := hbel.trans (hb1.mono hbel.size)
        by_cases h3 : r < 0
        · go_wp2
          go_ret
          exact ⟨_, rfl, hB, by omega, fun h => by omega⟩
        · go_wp2
          exact ⟨⟨k + 1, _, by omega, by go_num, rfl, by omega, by omega, hB⟩, by simp [intOf]; omega⟩
      · go_wp2
        go_ret
        exact ⟨_, rfl, hbel, by omega, fun _ => by omega⟩

/-- A state's box. -/
def SBox (w : World) (b : Nat) (wd now given births : Int) (T P L : Value) : Prop :=
  w.cell? ⟨b, 0, none⟩ = some (.int .i64 wd) ∧ w.cell? ⟨b, 1, none⟩ = some (.int .i64 now) ∧ w.cell? ⟨b, 2, none⟩ = some (.int .i64 given) ∧ w.cell? ⟨b, 3, none⟩ = some (.int .i64 births) ∧
    w.cell? ⟨b, 4, none⟩ = some T ∧ w.cell? ⟨b, 5, none⟩ = some P ∧ w.cell? ⟨b, 6, none⟩ = some L ∧ b < w.heap.size

theorem SBox.new (w : World) (wd now given births : Int) (T P L : Value) (t : TypeId) : SBox (w.alloc (.cells #[.int .i64 wd, .int .i64 now, .int .i64 given, .int .i64 births, T, P, L] t)) w.heap.size wd now given births T P L :=
  ⟨by simp, by simp, by simp, by simp, by simp, by simp, by simp, by simp⟩

theorem SBox.keep {w w' : World} {b B : Nat} {wd now given births : Int} {T P L : Value} (h : SBox w b wd now given births T P L) (hb : Below B w w') (hB : b < B) : SBox w' b wd now given births T P L := by
  obtain ⟨h0, h1, h2, h3, h4, h5, h6, h7⟩ := h
  exact ⟨(hb.cell (p := ⟨b, 0, none⟩) hB).trans h0, (hb.cell (p := ⟨b, 1, none⟩) hB).trans h1, (hb.cell (p := ⟨b, 2, none⟩) hB).trans h2, (hb.cell (p := ⟨b, 3, none⟩) hB).trans h3,
    (hb.cell (p := ⟨b, 4, none⟩) hB).trans h4, (hb.cell (p := ⟨b, 5, none⟩) hB).trans h5, (hb.cell (p := ⟨b, 6, none⟩) hB).trans h6, Nat.lt_of_lt_of_le h7 hb.size⟩

theorem SBox.below {w w' : World} {b : Nat} {wd now given births : Int} {T P L : Value} (h : SBox w b wd now given births T P L) (hb : Below w.heap.size w w') : SBox w' b wd now given births T P L := h.keep hb h.2.2.2.2.2.2.2

/-- The three rows of a state. -/
structure SRows (w : World) (B : Nat) (a p l : Option Addr) (ks : List Kd) (ps : List Pd) (ls : List Ld) : Prop where
  k : KRow w B a ks
  p : PRow w B p ps
  l : LRow w B l ls

theorem SRows.below' {w w' : World} {a p l : Option Addr} {ks : List Kd} {ps : List Pd} {ls : List Ld} (h : SRows w w.heap.size a p l ks ps ls) (hb : Below w.heap.size w w') : SRows w' w'.heap.size a p l ks ps ls :=
  ⟨(h.k.below hb).mono hb.size, (h.p.below hb).mono hb.size, (h.l.below hb).mono hb.size⟩

theorem SRows.keep {w w' : World} {B : Nat} {a p l : Option Addr} {ks : List Kd} {ps : List Pd} {ls : List Ld} (h : SRows w B a p l ks ps ls) (hb : Below B w w') : SRows w' B a p l ks ps ls :=
  ⟨h.k.below hb, h.p.below hb, h.l.below hb⟩

theorem SRows.mono {w : World} {B B' : Nat} {a p l : Option Addr} {ks : List Kd} {ps : List Pd} {ls : List Ld} (h : SRows w B a p l ks ps ls) (hb : B ≤ B') : SRows w B' a p l ks ps ls :=
  ⟨h.k.mono hb, h.p.mono hb, h.l.mono hb⟩

/-- What the law lets through. -/
structure SFit (ks : List Kd) (ps : List Pd) (ls : List Ld) : Prop where
  k : ks.length ≤ 1048576
  r : ∀ k ∈ ks, k.refs.length ≤ 1048576
  p : ps.length ≤ 1048576
  l : ls.length ≤ 1048576

set_option maxHeartbeats 400000 in
theorem szState_any (wd now given births : Int) (a p l : Option Addr) (ac pc lc : Nat) (ks : List Kd) (ps : List Pd) (ls : List Ld) (left : Int) (w : World) (hrow : SRows w w.heap.size a p l ks ps ls)
    (hk : KMem ks) (hp : PMem ps) (hl : LMem ls) (h1 : 0 ≤ left) (h2 : left ≤ 1048576) :
    Calls Try.prog 9 #[.agg #[.int .i64 wd, .int .i64 now, .int .i64 given, .int .i64 births, .slice a ks.length ac, .slice p ps.length pc, .slice l ls.length lc], .int .i64 left] w fun e w' => ∃ r : Int, e = .returned (.int .i64 r) ∧ Below w.heap.size w w' ∧ (0 ≤ r → SFit ks ps ls) := by
  have hb : Below w.heap.size w (w.alloc (.cells #[.int .i64 wd, .int .i64 now, .int .i64 given, .int .i64 births, .slice a ks.length ac, .slice p ps.length pc, .slice l ls.length lc] 26)) := (Below.refl _ _).alloc (Nat.le_refl _) _
  have hx := SBox.new w wd now given births (.slice a ks.length ac) (.slice p ps.length pc) (.slice l ls.length lc) 26
  go_enter Try.func9, Try.ntmps9
  go_wp2_with fail
  refine (szKeptS_any a ac ks _ _ (hrow.below' hb).k hk (by omega) (by omega)).mono ?_
  rintro e w1 ⟨r, rfl, hb1, hr, hf1⟩
  have hB := hb.trans (hb1.mono (by simp))
  obtain ⟨_, _, _, _, _, x5, x6, x7⟩ := hx.below hb1
  have hz := hb1.size
  clear hb1
  by_cases h3 : r < 0
  · go_wp2
    go_ret
    exact ⟨_, rfl, hB, fun h => by omega⟩
  · go_wp2_with fail
    refine (szPinS_any p pc ps _ _ (hrow.below' hB).p hp (by omega) (by omega)).mono ?_
    rintro e w2 ⟨r2, rfl, hb2, hr2, hf2⟩
    have hB2 := hB.trans (hb2.mono hB.size)
    replace x6 := (hb2.cell (p := ⟨w.heap.size, 6, none⟩) x7).trans x6
    have hz2 := hb2.size
    clear hb2 x5
    by_cases h4 : r2 < 0
    · go_wp2
      go_ret
      exact ⟨_, rfl, hB2, fun h => by omega⟩
    · go_wp2_with fail
      refine (szLeaseS_any l lc ls _ _ (hrow.below' hB2).l hl (by omega) (by omega)).mono ?_
      rintro e w3 ⟨r3, rfl, hb3, hr3, hf3⟩
      have hB3 := hB2.trans (hb3.mono hB2.size)
      by_cases h5 : r3 < 0
      · go_wp2
        go_ret
        exact ⟨_, rfl, hB3, fun h => by omega⟩
      · go_wp2
        go_ret
        exact ⟨_, rfl, hB3, fun _ => ⟨(hf1 (by omega)).1, (hf1 (by omega)).2, hf2 (by omega), hf3 (by omega)⟩⟩

end Go.Proofs.Ytbelneejghdmoaa
