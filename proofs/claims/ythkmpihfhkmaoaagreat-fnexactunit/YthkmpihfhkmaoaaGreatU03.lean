import Derived.Test.YthkmpihfhkmaoaaGreatU02
import Derived.Test.YthkmpihfhkmaoaaGreatU01
import Derived.Lib.SmallJoins
import Derived.OneCell
import Derived.Deep.RegionWith
import Derived.Deep.DeepCutAuto
/-
  laws.szState and what it calls.
-/
namespace Go.Proofs.YthkmpihfhkmaoaaGreat
open Go.ChangeShapes Go.WideShapes Go.ChangeAt Go.RowKit

theorem szThing_any (t : ByteArray) (a : Option Addr) (cap : Nat) (ss : List ByteArray) (left : Int) (w : World) (hrow : SRow w w.heap.size a ss)
    (ht : t.size ≤ maxLen) (hl : ss.length ≤ maxLen) (hs : ∀ s ∈ ss, s.size ≤ maxLen) (h1 : 0 ≤ left) (h2 : left ≤ 1048576) :
    Calls Tryz.prog 129 #[.agg #[.string t, .slice a ss.length cap], .int .i64 left] w fun e w' => ∃ r : Int, e = .returned (.int .i64 r) ∧ Below w.heap.size w w' ∧ r ≤ left ∧ (0 ≤ r → ss.length ≤ 1048576) := by
  by_cases hfit : (t.size : Int) + ss.length + bulk ss ≤ left
  · refine (szThing_yes t a cap ss left w hrow h2 hfit).mono ?_
    rintro e w' ⟨rfl, hb⟩
    exact ⟨_, rfl, hb, by omega, fun _ => by omega⟩
  · refine (szThing_no t a cap ss left w hrow ht hl hs h1 h2 (by omega)).mono ?_
    rintro e w' ⟨rfl, hb⟩
    exact ⟨_, rfl, hb, by omega, fun h => by omega⟩

set_option maxHeartbeats 400000 in
theorem szKept_any (k : Kd) (a : Option Addr) (cap : Nat) (left : Int) (w : World) (hrow : SRow w w.heap.size a k.refs)
    (h0 : k.sum.size ≤ maxLen) (ht : k.text.size ≤ maxLen) (hl : k.refs.length ≤ maxLen) (hs : ∀ s ∈ k.refs, s.size ≤ maxLen) (h1 : 0 ≤ left) (h2 : left ≤ 1048576) :
    Calls Tryz.prog 84 #[.agg #[.string k.sum, .int .i64 k.born, .string k.text, .slice a k.refs.length cap], .int .i64 left] w fun e w' => ∃ r : Int, e = .returned (.int .i64 r) ∧ Below w.heap.size w w' ∧ r ≤ left ∧ (0 ≤ r → k.refs.length ≤ 1048576) := by
  have hb : Below w.heap.size w (w.alloc (.cells #[.string k.sum, .int .i64 k.born, .string k.text, .slice a k.refs.length cap] 123)) := (Below.refl _ _).alloc (Nat.le_refl _) _
  have h0' := h0
  unfold maxLen at h0'
  by_cases hn : left < k.sum.size
  · go_enter Tryz.func84, Tryz.ntmps84
    go_wp2
    go_ret
    exact ⟨_, rfl, hb, by omega, fun h => by omega⟩
  · go_enter Tryz.func84, Tryz.ntmps84
    go_wp2_with fail
    refine (szThing_any k.text a cap k.refs _ _ (hrow.below' hb) ht hl hs (by omega) (by omega)).mono ?_
    rintro e w1 ⟨r, rfl, hb1, hr, hf⟩
    have hB := hb.trans (hb1.mono (by simp))
    by_cases h3 : r < 0
    · go_wp2
      go_ret
      exact ⟨_, rfl, hB, by omega, fun h => by omega⟩
    · go_wp2
      go_ret
      exact ⟨_, rfl, hB, by omega, fun h => hf (by omega)⟩

/-- What a machine can hold. -/
structure KMem (ks : List Kd) : Prop where
  len : ks.length ≤ maxLen
  sum : ∀ k ∈ ks, k.sum.size ≤ maxLen
  text : ∀ k ∈ ks, k.text.size ≤ maxLen
  refs : ∀ k ∈ ks, k.refs.length ≤ maxLen
  ref : ∀ k ∈ ks, ∀ s ∈ k.refs, s.size ≤ maxLen

set_option maxHeartbeats 400000 in
theorem szKeptS_any (a : Option Addr) (cap : Nat) (ks : List Kd) (left : Int) (w : World) (hrow : KRow w w.heap.size a ks) (hm : KMem ks) (h1 : 0 ≤ left) (h2 : left ≤ 1048576) :
    Calls Tryz.prog 29 #[.slice a ks.length cap, .int .i64 left] w fun e w' => ∃ r : Int, e = .returned (.int .i64 r) ∧ Below w.heap.size w w' ∧ r ≤ left ∧ (0 ≤ r → ks.length ≤ 1048576 ∧ ∀ k ∈ ks, k.refs.length ≤ 1048576) := by
  have hml := hm.len
  unfold maxLen at hml
  by_cases hn : left < ks.length
  · go_enter Tryz.func29, Tryz.ntmps29
    go_wp2
    go_ret
    exact ⟨_, rfl, Below.refl _ _, by omega, fun h => by omega⟩
  · go_enter Tryz.func29, Tryz.ntmps29
    go_wp2
    go_loopw [1, 5] (fun l i wr => ∃ (k : Nat) (L : Int), k ≤ ks.length ∧ i = .int .i64 k ∧ l = .int .i64 L ∧ 0 ≤ L ∧ L ≤ left ∧ Below w.heap.size w wr ∧ Hid (∀ j, j < k → ∀ x, ks[j]? = some x → x.refs.length ≤ 1048576)) (fun _ i _ => ks.length - (intOf i).toNat)
    case atStart => exact ⟨0, _, Nat.zero_le _, rfl, rfl, by omega, by omega, Below.refl _ _, fun j h => by omega⟩
    case round =>
      obtain ⟨k, L, hk, rfl, rfl, hL0, hL, hbel, hall⟩ := hrel
      by_cases hlt : k < ks.length
      · obtain ⟨b, off, ha, hb, hc⟩ := hrow.at hlt
        subst ha
        have hg : ks[k]? = some ks[k] := List.getElem?_eq_getElem hlt
        have hmem := List.getElem_mem hlt
        obtain ⟨c0, c1, c2, ra, rc, c3, hrr⟩ := (hc k _ hg).below hbel hb
        have m0 := hm.sum _ hmem
        have m1 := hm.text _ hmem
        have m2 := hm.refs _ hmem
        have m3 := hm.ref _ hmem
        have HG : Hid _ := hg
        clear hc hrow hm hmem hg
        generalize ks[k] = x at *
        have hcon := szKept_any x ra rc L wr (hrr.mono hbel.size) m0 m1 m2 m3 hL0 (by omega)
        have HC : Hid _ := hcon
        clear hcon m3 hrr
        go_wp2_with fail
        refine Calls.mono HC.out ?_
        rintro e w1 ⟨r, rfl, hb1, hr, hf⟩
        have hB := hbel.trans (hb1.mono hbel.size)
        by_cases h3 : r < 0
        · go_wp2
          go_ret
          exact ⟨_, rfl, hB, by omega, fun h => by omega⟩
        · have HA : Hid (∀ j, j < k + 1 → ∀ x, ks[j]? = some x → x.refs.length ≤ 1048576) := by
            intro j hj y hy
            rcases Nat.lt_or_ge j k with h' | h'
            · exact hall j h' y hy
            · obtain rfl : j = k := by omega
              rw [HG.out] at hy
              cases hy
              exact hf (by omega)
          go_wp2
          exact ⟨⟨k + 1, _, by omega, by go_num, rfl, by omega, by omega, hB, HA⟩, by simp [intOf]; omega⟩
      · go_wp2
        go_ret
        refine ⟨_, rfl, hbel, by omega, fun _ => ⟨by omega, fun x hx => ?_⟩⟩
        obtain ⟨j, hj, rfl⟩ := List.getElem_of_mem hx
        exact hall j (by omega) _ (List.getElem?_eq_getElem hj)

structure PMem (ps : List Pd) : Prop where
  len : ps.length ≤ maxLen
  name : ∀ p ∈ ps, p.name.size ≤ maxLen
  sum : ∀ p ∈ ps, p.sum.size ≤ maxLen

structure LMem (ls : List Ld) : Prop where
  len : ls.length ≤ maxLen
  sum : ∀ l ∈ ls, l.sum.size ≤ maxLen

set_option maxHeartbeats 400000 in
theorem szPin_any (p : Pd) (left : Int) (w : World) (h0 : p.name.size ≤ maxLen) (ht : p.sum.size ≤ maxLen) (h1 : 0 ≤ left) (h2 : left ≤ 1048576) :
    Calls Tryz.prog 85 #[.agg #[.string p.name, .string p.sum], .int .i64 left] w fun e w' => ∃ r : Int, e = .returned (.int .i64 r) ∧ Below w.heap.size w w' ∧ r ≤ left := by
  have hb : Below w.heap.size w (w.alloc (.cells #[.string p.name, .string p.sum] 125)) := (Below.refl _ _).alloc (Nat.le_refl _) _
  unfold maxLen at h0 ht
  by_cases hn : left < p.name.size
  · go_enter Tryz.func85, Tryz.ntmps85
    go_wp2
    go_ret
    exact ⟨_, rfl, hb, by omega⟩
  · by_cases hm : left - p.name.size < p.sum.size
    · go_enter Tryz.func85, Tryz.ntmps85
      go_wp2
      go_ret
      exact ⟨_, rfl, hb, by omega⟩
    · go_enter Tryz.func85, Tryz.ntmps85
      go_wp2
      go_ret
      exact ⟨_, rfl, hb, by omega⟩

set_option maxHeartbeats 400000 in
theorem szLease_any (l : Ld) (left : Int) (w : World) (h0 : l.sum.size ≤ maxLen) (h1 : 0 ≤ left) (h2 : left ≤ 1048576) :
    Calls Tryz.prog 86 #[.agg #[.int .i64 l.num, .string l.sum, .int .i64 l.til], .int .i64 left] w fun e w' => ∃ r : Int, e = .returned (.int .i64 r) ∧ Below w.heap.size w w' ∧ r ≤ left := by
  have hb : Below w.heap.size w (w.alloc (.cells #[.int .i64 l.num, .string l.sum, .int .i64 l.til] 127)) := (Below.refl _ _).alloc (Nat.le_refl _) _
  unfold maxLen at h0
  by_cases hn : left < l.sum.size
  · go_enter Tryz.func86, Tryz.ntmps86
    go_wp2
    go_ret
    exact ⟨_, rfl, hb, by omega⟩
  · go_enter Tryz.func86, Tryz.ntmps86
    go_wp2
    go_ret
    exact ⟨_, rfl, hb, by omega⟩

set_option maxHeartbeats 400000 in
theorem szPinS_any (a : Option Addr) (cap : Nat) (ps : List Pd) (left : Int) (w : World) (hrow : PRow w w.heap.size a ps) (hm : PMem ps) (h1 : 0 ≤ left) (h2 : left ≤ 1048576) :
    Calls Tryz.prog 30 #[.slice a ps.length cap, .int .i64 left] w fun e w' => ∃ r : Int, e = .returned (.int .i64 r) ∧ Below w.heap.size w w' ∧ r ≤ left ∧ (0 ≤ r → ps.length ≤ 1048576) := by
  have hml := hm.len
  unfold maxLen at hml
  by_cases hn : left < ps.length
  · go_enter Tryz.func30, Tryz.ntmps30
    go_wp2
    go_ret
    exact ⟨_, rfl, Below.refl _ _, by omega, fun h => by omega⟩
  · go_enter Tryz.func30, Tryz.ntmps30
    go_wp2
    go_loopw [1, 5] (fun l i wr => ∃ (k : Nat) (L : Int), k ≤ ps.length ∧ i = .int .i64 k ∧ l = .int .i64 L ∧ 0 ≤ L ∧ L ≤ left ∧ Below w.heap.size w wr) (fun _ i _ => ps.length - (intOf i).toNat)
    case atStart => exact ⟨0, _, Nat.zero_le _, rfl, rfl, by omega, by omega, Below.refl _ _⟩
    case round =>
      obtain ⟨k, L, hk, rfl, rfl, hL0, hL, hbel⟩ := hrel
      by_cases hlt : k < ps.length
      · obtain ⟨b, off, ha, hb, hc⟩ := (hrow.below hbel).at hlt
        subst ha
        have hg : ps[k]? = some ps[k] := List.getElem?_eq_getElem hlt
        have hmem := List.getElem_mem hlt
        obtain ⟨c0, c1⟩ := hc k _ hg
        have m0 := hm.name _ hmem
        have m1 := hm.sum _ hmem
        clear hc hrow hm hmem hg
        generalize ps[k] = x at *
        go_wp2_with fail
        refine (szPin_any x L wr m0 m1 (by omega) (by omega)).mono ?_
        rintro e w1 ⟨r, rfl, hb1, hr⟩
        have hB := hbel.trans (hb1.mono hbel.size)
        by_cases h3 : r < 0
        · go_wp2
          go_ret
          exact ⟨_, rfl, hB, by omega, fun h => by omega⟩
        · go_wp2
          exact ⟨⟨k + 1, _, by omega, by go_num, rfl, by omega, by omega, hB⟩, by simp [intOf]; omega⟩
      · go_wp2
        go_ret
        exact ⟨_, rfl, hbel, by omega, fun _ => by omega⟩

set_option maxHeartbeats 400000 in
theorem szLeaseS_any (a : Option Addr) (cap : Nat) (ls : List Ld) (left : Int) (w : World) (hrow : LRow w w.heap.size a ls) (hm : LMem ls) (h1 : 0 ≤ left) (h2 : left ≤ 1048576) :
    Calls Tryz.prog 31 #[.slice a ls.length cap, .int .i64 left] w fun e w' => ∃ r : Int, e = .returned (.int .i64 r) ∧ Below w.heap.size w w' ∧ r ≤ left ∧ (0 ≤ r → ls.length ≤ 1048576) := by
  have hml := hm.len
  unfold maxLen at hml
  by_cases hn : left < ls.length
  · go_enter Tryz.func31, Tryz.ntmps31
    go_wp2
    go_ret
    exact ⟨_, rfl, Below.refl _ _, by omega, fun h => by omega⟩
  · go_enter Tryz.func31, Tryz.ntmps31
    go_wp2
    go_loopw [1, 5] (fun l i wr => ∃ (k : Nat) (L : Int), k ≤ ls.length ∧ i = .int .i64 k ∧ l = .int .i64 L ∧ 0 ≤ L ∧ L ≤ left ∧ Below w.heap.size w wr) (fun _ i _ => ls.length - (intOf i).toNat)
    case atStart => exact ⟨0, _, Nat.zero_le _, rfl, rfl, by omega, by omega, Below.refl _ _⟩
    case round =>
      obtain ⟨k, L, hk, rfl, rfl, hL0, hL, hbel⟩ := hrel
      by_cases hlt : k < ls.length
      · obtain ⟨b, off, ha, hb, hc⟩ := (hrow.below hbel).at hlt
        subst ha
        have hg : ls[k]? = some ls[k] := List.getElem?_eq_getElem hlt
        have hmem := List.getElem_mem hlt
        obtain ⟨c0, c1, c2⟩ := hc k _ hg
        have m0 := hm.sum _ hmem
        clear hc hrow hm hmem hg
        generalize ls[k] = x at *
        go_wp2_with fail
        refine (szLease_any x L wr m0 (by omega) (by omega)).mono ?_
        rintro e w1 ⟨r, rfl, hb1, hr⟩
        have hB := hbel.trans (hb1.mono hbel.size)
        by_cases h3 : r < 0
        · go_wp2
          go_ret
          exact ⟨_, rfl, hB, by omega, fun h => by omega⟩
        · go_wp2
          exact ⟨⟨k + 1, _, by omega, by go_num, rfl, by omega, by omega, hB⟩, by simp [intOf]; omega⟩
      · go_wp2
        go_ret
        exact ⟨_, rfl, hbel, by omega, fun _ => by omega⟩

/-- A state's box. -/
def SBox (w : World) (b : Nat) (wd now given births : Int) (T P L : Value) : Prop :=
  w.cell? ⟨b, 0, none⟩ = some (.int .i64 wd) ∧ w.cell? ⟨b, 1, none⟩ = some (.int .i64 now) ∧ w.cell? ⟨b, 2, none⟩ = some (.int .i64 given) ∧ w.cell? ⟨b, 3, none⟩ = some (.int .i64 births) ∧
    w.cell? ⟨b, 4, none⟩ = some T ∧ w.cell? ⟨b, 5, none⟩ = some P ∧ w.cell? ⟨b, 6, none⟩ = some L ∧ b < w.heap.size

theorem SBox.new (w : World) (wd now given births : Int) (T P L : Value) (t : TypeId) : SBox (w.alloc (.cells #[.int .i64 wd, .int .i64 now, .int .i64 given, .int .i64 births, T, P, L] t)) w.heap.size wd now given births T P L :=
  ⟨by simp, by simp, by simp, by simp, by simp, by simp, by simp, by simp⟩

theorem SBox.keep {w w' : World} {b B : Nat} {wd now given births : Int} {T P L : Value} (h : SBox w b wd now given births T P L) (hb : Below B w w') (hB : b < B) : SBox w' b wd now given births T P L := by
  obtain ⟨h0, h1, h2, h3, h4, h5, h6, h7⟩ := h
  exact ⟨(hb.cell (p := ⟨b, 0, none⟩) hB).trans h0, (hb.cell (p := ⟨b, 1, none⟩) hB).trans h1, (hb.cell (p := ⟨b, 2, none⟩) hB).trans h2, (hb.cell (p := ⟨b, 3, none⟩) hB).trans h3,
    (hb.cell (p := ⟨b, 4, none⟩) hB).trans h4, (hb.cell (p := ⟨b, 5, none⟩) hB).trans h5, (hb.cell (p := ⟨b, 6, none⟩) hB).trans h6, Nat.lt_of_lt_of_le h7 hb.size⟩

theorem SBox.below {w w' : World} {b : Nat} {wd now given births : Int} {T P L : Value} (h : SBox w b wd now given births T P L) (hb : Below w.heap.size w w') : SBox w' b wd now given births T P L := h.keep hb h.2.2.2.2.2.2.2

/-- The three rows of a state. -/
structure SRows (w : World) (B : Nat) (a p l : Option Addr) (ks : List Kd) (ps : List Pd) (ls : List Ld) : Prop where
  k : KRow w B a ks
  p : PRow w B p ps
  l : LRow w B l ls

theorem SRows.below' {w w' : World} {a p l : Option Addr} {ks : List Kd} {ps : List Pd} {ls : List Ld} (h : SRows w w.heap.size a p l ks ps ls) (hb : Below w.heap.size w w') : SRows w' w'.heap.size a p l ks ps ls :=
  ⟨(h.k.below hb).mono hb.size, (h.p.below hb).mono hb.size, (h.l.below hb).mono hb.size⟩

theorem SRows.keep {w w' : World} {B : Nat} {a p l : Option Addr} {ks : List Kd} {ps : List Pd} {ls : List Ld} (h : SRows w B a p l ks ps ls) (hb : Below B w w') : SRows w' B a p l ks ps ls :=
  ⟨h.k.below hb, h.p.below hb, h.l.below hb⟩

theorem SRows.mono {w : World} {B B' : Nat} {a p l : Option Addr} {ks : List Kd} {ps : List Pd} {ls : List Ld} (h : SRows w B a p l ks ps ls) (hb : B ≤ B') : SRows w B' a p l ks ps ls :=
  ⟨h.k.mono hb, h.p.mono hb, h.l.mono hb⟩

/-- What the law lets through. -/
structure SFit (ks : List Kd) (ps : List Pd) (ls : List Ld) : Prop where
  k : ks.length ≤ 1048576
  r : ∀ k ∈ ks, k.refs.length ≤ 1048576
  p : ps.length ≤ 1048576
  l : ls.length ≤ 1048576

set_option maxHeartbeats 400000 in
theorem szState_any (wd now given births : Int) (a p l : Option Addr) (ac pc lc : Nat) (ks : List Kd) (ps : List Pd) (ls : List Ld) (left : Int) (w : World) (hrow : SRows w w.heap.size a p l ks ps ls)
    (hk : KMem ks) (hp : PMem ps) (hl : LMem ls) (h1 : 0 ≤ left) (h2 : left ≤ 1048576) :
    Calls Tryz.prog 5 #[.agg #[.int .i64 wd, .int .i64 now, .int .i64 given, .int .i64 births, .slice a ks.length ac, .slice p ps.length pc, .slice l ls.length lc], .int .i64 left] w fun e w' => ∃ r : Int, e = .returned (.int .i64 r) ∧ Below w.heap.size w w' ∧ (0 ≤ r → SFit ks ps ls) := by
  have hb : Below w.heap.size w (w.alloc (.cells #[.int .i64 wd, .int .i64 now, .int .i64 given, .int .i64 births, .slice a ks.length ac, .slice p ps.length pc, .slice l ls.length lc] 26)) := (Below.refl _ _).alloc (Nat.le_refl _) _
  have hx := SBox.new w wd now given births (.slice a ks.length ac) (.slice p ps.length pc) (.slice l ls.length lc) 26
  go_enter Tryz.func5, Tryz.ntmps5
  go_wp2_with fail
  refine (szKeptS_any a ac ks _ _ (hrow.below' hb).k hk (by omega) (by omega)).mono ?_
  rintro e w1 ⟨r, rfl, hb1, hr, hf1⟩
  have hB := hb.trans (hb1.mono (by simp))
  obtain ⟨_, _, _, _, _, x5, x6, x7⟩ := hx.below hb1
  have hz := hb1.size
  clear hb1
  by_cases h3 : r < 0
  · go_wp2
    go_ret
    exact ⟨_, rfl, hB, fun h => by omega⟩
  · go_wp2_with fail
    refine (szPinS_any p pc ps _ _ (hrow.below' hB).p hp (by omega) (by omega)).mono ?_
    rintro e w2 ⟨r2, rfl, hb2, hr2, hf2⟩
    have hB2 := hB.trans (hb2.mono hB.size)
    replace x6 := (hb2.cell (p := ⟨w.heap.size, 6, none⟩) x7).trans x6
    have hz2 := hb2.size
    clear hb2 x5
    by_cases h4 : r2 < 0
    · go_wp2
      go_ret
      exact ⟨_, rfl, hB2, fun h => by omega⟩
    · go_wp2_with fail
      refine (szLeaseS_any l lc ls _ _ (hrow.below' hB2).l hl (by omega) (by omega)).mono ?_
      rintro e w3 ⟨r3, rfl, hb3, hr3, hf3⟩
      have hB3 := hB2.trans (hb3.mono hB2.size)
      by_cases h5 : r3 < 0
      · go_wp2
        go_ret
        exact ⟨_, rfl, hB3, fun h => by omega⟩
      · go_wp2
        go_ret
        exact ⟨_, rfl, hB3, fun _ => ⟨(hf1 (by omega)).1, (hf1 (by omega)).2, hf2 (by omega), hf3 (by omega)⟩⟩

end Go.Proofs.YthkmpihfhkmaoaaGreat

/-
  Rounds: laws.szRound, toRound, eqRound (and szState, with what it leaves).
-/
namespace Go.Proofs.YthkmpihfhkmaoaaGreat
open Go.ChangeShapes Go.WideShapes Go.ChangeAt Go.RowKit

set_option maxHeartbeats 400000 in
theorem szState_le (wd now given births : Int) (a p l : Option Addr) (ac pc lc : Nat) (ks : List Kd) (ps : List Pd) (ls : List Ld) (left : Int) (w : World) (hrow : SRows w w.heap.size a p l ks ps ls)
    (hk : KMem ks) (hp : PMem ps) (hl : LMem ls) (h1 : 0 ≤ left) (h2 : left ≤ 1048576) :
    Calls Tryz.prog 5 #[.agg #[.int .i64 wd, .int .i64 now, .int .i64 given, .int .i64 births, .slice a ks.length ac, .slice p ps.length pc, .slice l ls.length lc], .int .i64 left] w fun e w' => ∃ r : Int, e = .returned (.int .i64 r) ∧ Below w.heap.size w w' ∧ r ≤ left ∧ (0 ≤ r → SFit ks ps ls) := by
  have hb : Below w.heap.size w (w.alloc (.cells #[.int .i64 wd, .int .i64 now, .int .i64 given, .int .i64 births, .slice a ks.length ac, .slice p ps.length pc, .slice l ls.length lc] 26)) := (Below.refl _ _).alloc (Nat.le_refl _) _
  have hx := SBox.new w wd now given births (.slice a ks.length ac) (.slice p ps.length pc) (.slice l ls.length lc) 26
  go_enter Tryz.func5, Tryz.ntmps5
  go_wp2_with fail
  refine (szKeptS_any a ac ks _ _ (hrow.below' hb).k hk (by omega) (by omega)).mono ?_
  rintro e w1 ⟨r, rfl, hb1, hr, hf1⟩
  have hB := hb.trans (hb1.mono (by simp))
  obtain ⟨_, _, _, _, _, x5, x6, x7⟩ := hx.below hb1
  have hz := hb1.size
  clear hb1
  by_cases h3 : r < 0
  · go_wp2
    go_ret
    exact ⟨_, rfl, hB, by omega, fun h => by omega⟩
  · go_wp2_with fail
    refine (szPinS_any p pc ps _ _ (hrow.below' hB).p hp (by omega) (by omega)).mono ?_
    rintro e w2 ⟨r2, rfl, hb2, hr2, hf2⟩
    have hB2 := hB.trans (hb2.mono hB.size)
    replace x6 := (hb2.cell (p := ⟨w.heap.size, 6, none⟩) x7).trans x6
    have hz2 := hb2.size
    clear hb2 x5
    by_cases h4 : r2 < 0
    · go_wp2
      go_ret
      exact ⟨_, rfl, hB2, by omega, fun h => by omega⟩
    · go_wp2_with fail
      refine (szLeaseS_any l lc ls _ _ (hrow.below' hB2).l hl (by omega) (by omega)).mono ?_
      rintro e w3 ⟨r3, rfl, hb3, hr3, hf3⟩
      have hB3 := hB2.trans (hb3.mono hB2.size)
      by_cases h5 : r3 < 0
      · go_wp2
        go_ret
        exact ⟨_, rfl, hB3, by omega, fun h => by omega⟩
      · go_wp2
        go_ret
        exact ⟨_, rfl, hB3, by omega, fun _ => ⟨(hf1 (by omega)).1, (hf1 (by omega)).2, hf2 (by omega), hf3 (by omega)⟩⟩

/-- A round's box. -/
def RBox (w : World) (b : Nat) (ph : Int) (Q M : Value) (top at_ ro : Int) : Prop :=
  w.cell? ⟨b, 0, none⟩ = some (.int .i64 ph) ∧ w.cell? ⟨b, 1, none⟩ = some Q ∧ w.cell? ⟨b, 2, none⟩ = some M ∧ w.cell? ⟨b, 3, none⟩ = some (.int .i64 top) ∧
    w.cell? ⟨b, 4, none⟩ = some (.int .i64 at_) ∧ w.cell? ⟨b, 5, none⟩ = some (.int .i64 ro) ∧ b < w.heap.size

theorem RBox.new (w : World) (ph top at_ ro : Int) (Q M : Value) (t : TypeId) : RBox (w.alloc (.cells #[.int .i64 ph, Q, M, .int .i64 top, .int .i64 at_, .int .i64 ro] t)) w.heap.size ph Q M top at_ ro :=
  ⟨by simp, by simp, by simp, by simp, by simp, by simp, by simp⟩

theorem RBox.keep {w w' : World} {b B : Nat} {ph top at_ ro : Int} {Q M : Value} (h : RBox w b ph Q M top at_ ro) (hb : Below B w w') (hB : b < B) : RBox w' b ph Q M top at_ ro := by
  obtain ⟨h0, h1, h2, h3, h4, h5, h7⟩ := h
  exact ⟨(hb.cell (p := ⟨b, 0, none⟩) hB).trans h0, (hb.cell (p := ⟨b, 1, none⟩) hB).trans h1, (hb.cell (p := ⟨b, 2, none⟩) hB).trans h2, (hb.cell (p := ⟨b, 3, none⟩) hB).trans h3,
    (hb.cell (p := ⟨b, 4, none⟩) hB).trans h4, (hb.cell (p := ⟨b, 5, none⟩) hB).trans h5, Nat.lt_of_lt_of_le h7 hb.size⟩

theorem RBox.below {w w' : World} {b : Nat} {ph top at_ ro : Int} {Q M : Value} (h : RBox w b ph Q M top at_ ro) (hb : Below w.heap.size w w') : RBox w' b ph Q M top at_ ro := h.keep hb h.2.2.2.2.2.2

set_option maxHeartbeats 400000 in
theorem szS_any (a : Option Addr) (cap : Nat) (ss : List ByteArray) (left : Int) (w : World) (B : Nat) (hrow : SRow w B a ss) (hl : ss.length ≤ maxLen) (hs : ∀ s ∈ ss, s.size ≤ maxLen) (h1 : 0 ≤ left) (h2 : left ≤ 1048576) :
    Calls Tryz.prog 32 #[.slice a ss.length cap, .int .i64 left] w fun e w' => ∃ r : Int, e = .returned (.int .i64 r) ∧ w' = w ∧ r ≤ left ∧ (0 ≤ r → ss.length ≤ 1048576) := by
  by_cases hfit : (ss.length : Int) + bulk ss ≤ left
  · refine (szS_yes a cap ss left w B hrow h2 hfit).mono ?_
    rintro e w' ⟨rfl, rfl⟩
    exact ⟨_, rfl, rfl, by omega, fun _ => by omega⟩
  · refine (szS_no a cap ss left w B hrow hl hs h1 h2 (by omega)).mono ?_
    rintro e w' ⟨rfl, rfl⟩
    exact ⟨_, rfl, rfl, by omega, fun h => by omega⟩

/-- What the law lets through. -/
structure RFit (qs ms : List ByteArray) : Prop where
  q : qs.length ≤ 1048576
  m : ms.length ≤ 1048576

set_option maxHeartbeats 400000 in
theorem szRound_any (ph top at_ ro : Int) (a b : Option Addr) (ac bc : Nat) (qs ms : List ByteArray) (left : Int) (w : World) (hq : SRow w w.heap.size a qs) (hm : SRow w w.heap.size b ms)
    (hl : qs.length ≤ maxLen) (hs : ∀ s ∈ qs, s.size ≤ maxLen) (hl' : ms.length ≤ maxLen) (hs' : ∀ s ∈ ms, s.size ≤ maxLen) (h1 : 0 ≤ left) (h2 : left ≤ 1048576) :
    Calls Tryz.prog 6 #[.agg #[.int .i64 ph, .slice a qs.length ac, .slice b ms.length bc, .int .i64 top, .int .i64 at_, .int .i64 ro], .int .i64 left] w fun e w' => ∃ r : Int, e = .returned (.int .i64 r) ∧ Below w.heap.size w w' ∧ (0 ≤ r → RFit qs ms) := by
  have hb : Below w.heap.size w (w.alloc (.cells #[.int .i64 ph, .slice a qs.length ac, .slice b ms.length bc, .int .i64 top, .int .i64 at_, .int .i64 ro] 29)) := (Below.refl _ _).alloc (Nat.le_refl _) _
  go_enter Tryz.func6, Tryz.ntmps6
  go_wp2_with fail
  refine (szS_any a ac qs _ _ w.heap.size (hq.below hb) hl hs (by omega) (by omega)).mono ?_
  rintro e w1 ⟨r, rfl, rfl, hr, hf1⟩
  by_cases h3 : r < 0
  · go_wp2
    go_ret
    exact ⟨_, rfl, hb, fun h => by omega⟩
  · go_wp2_with fail
    refine (szS_any b bc ms _ _ w.heap.size (hm.below hb) hl' hs' (by omega) (by omega)).mono ?_
    rintro e w2 ⟨r2, rfl, rfl, hr2, hf2⟩
    by_cases h4 : r2 < 0
    · go_wp2
      go_ret
      exact ⟨_, rfl, hb, fun h => by omega⟩
    · go_wp2
      go_ret
      exact ⟨_, rfl, hb, fun _ => ⟨hf1 (by omega), hf2 (by omega)⟩⟩

set_option maxHeartbeats 400000 in
theorem eqRound_yes (ph top at_ ro : Int) (a b a' b' : Option Addr) (ac bc ac' bc' : Nat) (qs ms : List ByteArray) (w : World) (hq : SRow w w.heap.size a qs) (hm : SRow w w.heap.size b ms) (hq' : SRow w w.heap.size a' qs) (hm' : SRow w w.heap.size b' ms) (hf : RFit qs ms) :
    Calls Tryz.prog 13 #[.agg #[.int .i64 ph, .slice a qs.length ac, .slice b ms.length bc, .int .i64 top, .int .i64 at_, .int .i64 ro], .agg #[.int .i64 ph, .slice a' qs.length ac', .slice b' ms.length bc', .int .i64 top, .int .i64 at_, .int .i64 ro]] w fun e w' => e = .returned (.bool true) ∧ Below w.heap.size w w' := by
  have hb : Below w.heap.size w ((w.alloc (.cells #[.int .i64 ph, .slice a qs.length ac, .slice b ms.length bc, .int .i64 top, .int .i64 at_, .int .i64 ro] 37)).alloc (.cells #[.int .i64 ph, .slice a' qs.length ac', .slice b' ms.length bc', .int .i64 top, .int .i64 at_, .int .i64 ro] 37)) := ((Below.refl _ _).alloc (Nat.le_refl _) _).alloc (by simp) _
  go_enter Tryz.func13, Tryz.ntmps13
  go_wp2_with fail
  refine (eqS_yes a a' ac ac' qs _ _ _ (hq.below hb) (hq'.below hb) hf.q).mono ?_
  rintro e w' ⟨rfl, n, rfl⟩
  have hbn := belowN hb n
  go_wp2_with fail
  refine (eqS_yes b b' bc bc' ms _ _ _ (hm.below hbn) (hm'.below hbn) hf.m).mono ?_
  rintro e w' ⟨rfl, m, rfl⟩
  go_wp2
  go_ret
  exact ⟨rfl, belowN hb (n + m)⟩

set_option maxHeartbeats 2000000 in
theorem toRound_any (ph top at_ ro : Int) (a b : Option Addr) (ac bc : Nat) (qs ms : List ByteArray) (w : World) (hq : SRow w w.heap.size a qs) (hm : SRow w w.heap.size b ms) (hf : RFit qs ms) :
    Calls Tryz.prog 9 #[.agg #[.int .i64 ph, .slice a qs.length ac, .slice b ms.length bc, .int .i64 top, .int .i64 at_, .int .i64 ro]] w fun e w' => ∃ g k, e = .returned (.agg #[.int .i64 ph, .slice (some ⟨g, 0, none⟩) qs.length qs.length, .slice (some ⟨k, 0, none⟩) ms.length ms.length, .int .i64 top, .int .i64 at_, .int .i64 ro]) ∧ w.heap.size ≤ g ∧ g < k ∧
      w'.ownsRow w.heap.size 9 1 (.slice (some ⟨g, 0, none⟩) qs.length qs.length) qs.length (qs.map Value.string) ∧
      w'.ownsRow w.heap.size 9 1 (.slice (some ⟨k, 0, none⟩) ms.length ms.length) ms.length (ms.map Value.string) ∧ Below w.heap.size w w' := by
  have hbA : Below w.heap.size w (((w.alloc (.cells #[.int .i64 ph, .slice a qs.length ac, .slice b ms.length bc, .int .i64 top, .int .i64 at_, .int .i64 ro] 29)).alloc (.cells #[.int .i64 0, .slice none 0 0, .slice none 0 0, .int .i64 0, .int .i64 0, .int .i64 0] 37)).alloc (.cells #[.int .i64 ph, .slice none 0 0, .slice none 0 0, .int .i64 0, .int .i64 0, .int .i64 0] 37)) := (((Below.refl _ _).alloc (Nat.le_refl _) _).alloc (by simp) _).alloc (by simp; omega) _
  go_enter Tryz.func9, Tryz.ntmps9
  go_wp2_with fail
  refine (toS_any a ac qs _ (hq.below' hbA) hf.q).mono ?_
  rintro e w1 ⟨g, rfl, hg, hown, hb⟩
  have hB1 := hbA.trans (hb.mono (by simp; omega))
  obtain ⟨hc, hfz⟩ := bcell hb
  have hz := hb.size
  simp at hz hg
  go_wp2_with fail
  obtain ⟨W2, hW2⟩ : ∃ W2, W2 = w1.setCell ⟨w.heap.size + 1 + 1, 1, none⟩ (.slice (some ⟨g, 0, none⟩) qs.length qs.length) := ⟨_, rfl⟩
  have hB2 : Below w.heap.size w W2 := by rw [hW2]; exact hB1.setCell (by simp; omega) _
  have hzW : W2.heap.size = w1.heap.size := by rw [hW2]; simp
  have hO2 : W2.ownsRow (w.heap.size + 3) 9 1 (.slice (some ⟨g, 0, none⟩) qs.length qs.length) qs.length (qs.map Value.string) := by
    rw [hW2]; exact (ownsRow_setCell_below hown (by simp) _).mono (by simp)
  have hbx : RBox W2 (w.heap.size + 1 + 1) ph (.slice (some ⟨g, 0, none⟩) qs.length qs.length) (.slice none 0 0) 0 0 0 := by
    rw [hW2]
    exact ⟨by simp [go_sem, hc], by simp [go_sem, hc], by simp [go_sem, hc], by simp [go_sem, hc], by simp [go_sem, hc], by simp [go_sem, hc], by simp; omega⟩
  have hby : RBox W2 (w.heap.size + 1) 0 (.slice none 0 0) (.slice none 0 0) 0 0 0 := by
    rw [hW2]
    exact ⟨by simp [go_sem, hc], by simp [go_sem, hc], by simp [go_sem, hc], by simp [go_sem, hc], by simp [go_sem, hc], by simp [go_sem, hc], by simp; omega⟩
  have hbz : RBox W2 w.heap.size ph (.slice a qs.length ac) (.slice b ms.length bc) top at_ ro := by
    rw [hW2]
    exact ⟨by simp [go_sem, hc], by simp [go_sem, hc], by simp [go_sem, hc], by simp [go_sem, hc], by simp [go_sem, hc], by simp [go_sem, hc], by simp; omega⟩
  have f2 : ∀ o, W2.frozen? ⟨w.heap.size + 1 + 1, o, none⟩ = false := fun o => by rw [hW2]; simp [go_sem, hfz]
  have f1 : ∀ o, W2.frozen? ⟨w.heap.size + 1, o, none⟩ = false := fun o => by rw [hW2]; simp [go_sem, hfz]
  rw [← hW2]
  clear hW2 hown hb hc hfz
  refine (toS_any b bc ms _ (hm.below' hB2) hf.m).mono ?_
  rintro e w3 ⟨k, rfl, hk, hown3, hb3⟩
  have hz3 := hb3.size
  obtain ⟨x0, x1, x2, x3, x4, x5, x6⟩ := hbx.below hb3
  obtain ⟨y0, y1, y2, y3, y4, y5, y6⟩ := hby.below hb3
  obtain ⟨v0, v1, v2, v3, v4, v5, v6⟩ := hbz.below hb3
  replace f2 : ∀ o, w3.frozen? ⟨w.heap.size + 1 + 1, o, none⟩ = false := fun o => (hb3.frozen (p := ⟨w.heap.size + 1 + 1, o, none⟩) (by simp; omega)).trans (f2 o)
  replace f1 : ∀ o, w3.frozen? ⟨w.heap.size + 1, o, none⟩ = false := fun o => (hb3.frozen (p := ⟨w.heap.size + 1, o, none⟩) (by simp; omega)).trans (f1 o)
  have hlt := (hO2.lt g rfl).2
  have hO3 : w3.ownsRow (w.heap.size + 3) 9 1 (.slice (some ⟨g, 0, none⟩) qs.length qs.length) qs.length (qs.map Value.string) := hO2.kept (row := none) ⟨hb3.os, hb3.tape, hb3.output, hb3.size, fun i hi _ => hb3.block i hi⟩ (.inr (by simp [Value.ownBlock]))
  have hO4 := hown3.mono (show w.heap.size + 3 ≤ W2.heap.size by omega)
  have hB3 := hB2.trans (hb3.mono (by omega))
  have HO : Hid _ := And.intro hO3 (And.intro hO4 hB3)
  clear hO3 hO4 hB3 hown3 hO2 hbx hby hbz hb3 hB1 hB2 hbA
  go_wp2
  refine bodyPost_ret (v := .agg #[.int .i64 ph, .slice (some ⟨g, 0, none⟩) qs.length qs.length, .slice (some ⟨k, 0, none⟩) ms.length ms.length, .int .i64 top, .int .i64 at_, .int .i64 ro]) (by simp [results, Tryz.results9, go_sem, y0, y1, y2, y3, y4, y5]) rfl ⟨g, k, rfl, by omega, by omega, ?_, ?_, ?_⟩
  · refine World.ownsRow.mono ?_ (show w.heap.size ≤ w.heap.size + 3 by omega)
    iterate 10 (refine ownsRow_setCell_below ?_ (by simp) _)
    exact HO.out.1
  · refine World.ownsRow.mono ?_ (show w.heap.size ≤ w.heap.size + 3 by omega)
    iterate 10 (refine ownsRow_setCell_below ?_ (by simp) _)
    exact HO.out.2.1
  · iterate 10 (refine Below.setCell ?_ (by simp <;> omega) _)
    exact HO.out.2.2

end Go.Proofs.YthkmpihfhkmaoaaGreat

/-
  laws.markRound, heldRound.
-/
namespace Go.Proofs.YthkmpihfhkmaoaaGreat
open Go.ChangeShapes Go.WideShapes Go.ChangeAt Go.RowKit

set_option maxHeartbeats 400000 in
theorem markRound_any (ph top at_ ro : Int) (a b : Option Addr) (n m c d k base base' : Nat) (xs ys : List Value) (w : World) (h1 : w.ownsRow base 9 1 (.slice a n c) n xs) (h2 : w.ownsRow base' 9 1 (.slice b m d) m ys)
    (hne : (Value.slice b m d).ownBlock = none ∨ (Value.slice b m d).ownBlock ≠ (Value.slice a n c).ownBlock) (hk : 1 ≤ k) (hkn : k + n + m ≤ 100000000) :
    Calls Tryz.prog 15 #[.agg #[.int .i64 ph, .slice a n c, .slice b m d, .int .i64 top, .int .i64 at_, .int .i64 ro], .int .i64 k] w fun e w' => e = .returned (.int .i64 (k + n + m)) ∧ w'.ownsRow base 9 1 (.slice a n c) n ((marks k n).map Value.string) ∧
      w'.ownsRow base' 9 1 (.slice b m d) m ((marks (k + n) m).map Value.string) ∧ Twice w w' (Value.slice a n c).ownBlock (Value.slice b m d).ownBlock := by
  have hb : Below w.heap.size w (w.alloc (.cells #[.int .i64 ph, .slice a n c, .slice b m d, .int .i64 top, .int .i64 at_, .int .i64 ro] 37)) := (Below.refl _ _).alloc (Nat.le_refl _) _
  go_enter Tryz.func15, Tryz.ntmps15
  go_wp2_with fail
  refine (markS_any a n c k base xs _ (h1.alloc _) hk (by omega)).mono ?_
  rintro e w1 ⟨rfl, ho1, hg1⟩
  have hlt : ∀ g, (Value.slice a n c).ownBlock = some g → g < w.heap.size := fun g hg => (h1.lt g hg).2
  have hbox0 : w1.cell? ⟨w.heap.size, 2, none⟩ = some (.slice b m d) := hg1.cell (a := ⟨w.heap.size, 2, none⟩) (by simp) (fun e => by have := hlt _ e.symm; simp at this)
  have ho2 : w1.ownsRow base' 9 1 (.slice b m d) m ys := (h2.alloc _).kept hg1 hne
  have hcall := markS_any b m d (k + n) base' ys w1 ho2 (by omega) (by omega)
  rw [show ((k + n : Nat) : Int) = (k : Int) + n from by omega] at hcall
  go_wp2_with fail
  refine hcall.mono ?_
  rintro e w2 ⟨rfl, ho3, hg2⟩
  go_wp2
  go_ret
  refine ⟨rfl, ?_, ho3, ?_⟩
  · refine ho1.kept hg2 ?_
    rcases hne with h | h
    · cases hv : (Value.slice a n c).ownBlock with
      | none => exact .inl rfl
      | some g => exact .inr (by rw [h]; simp)
    · exact .inr (fun e => h e.symm)
  · exact ⟨hg2.os.trans hg1.os, hg2.tape.trans hg1.tape, hg2.output.trans hg1.output, by have := hg1.size; have := hg2.size; simp at *; omega, fun i hi e1 e2 =>
      (hg2.block i (by have := hg1.size; simp at this; omega) e2).trans ((hg1.block i (by simp; omega) e1).trans (hb.block i hi))⟩

set_option maxHeartbeats 400000 in
theorem heldRound_any (ph top at_ ro : Int) (a b : Option Addr) (n m c d k : Nat) (w : World) (h1 : SRow w w.heap.size a (marks k n)) (h2 : SRow w w.heap.size b (marks (k + n) m)) (hk : 1 ≤ k) (hkn : k + n + m ≤ 100000000) :
    Calls Tryz.prog 55 #[.agg #[.int .i64 ph, .slice a n c, .slice b m d, .int .i64 top, .int .i64 at_, .int .i64 ro], .int .i64 k] w fun e w' => e = .returned (.int .i64 (k + n + m)) ∧ Below w.heap.size w w' := by
  have hb : Below w.heap.size w (w.alloc (.cells #[.int .i64 ph, .slice a n c, .slice b m d, .int .i64 top, .int .i64 at_, .int .i64 ro] 37)) := (Below.refl _ _).alloc (Nat.le_refl _) _
  have hnn : ¬ ((k : Int) + n < 0) := by omega
  have hnn2 : ¬ ((k : Int) + n + m < 0) := by omega
  go_enter Tryz.func55, Tryz.ntmps55
  go_wp2_with fail
  refine (heldS_any a n c k w.heap.size _ (h1.below hb) (by simp) hk (by omega)).mono ?_
  rintro e w1 ⟨rfl, hb1⟩
  have hB1 := hb.trans (hb1.mono (by simp))
  have hbox0 : w1.cell? ⟨w.heap.size, 2, none⟩ = some (.slice b m d) := by rw [hb1.cell (p := ⟨w.heap.size, 2, none⟩) (by simp)]; simp
  have hcall := heldS_any b m d (k + n) w.heap.size w1 (h2.below hB1) hB1.size (by omega) (by omega)
  rw [show ((k + n : Nat) : Int) = (k : Int) + n from by omega] at hcall
  go_wp2_with fail
  refine hcall.mono ?_
  rintro e w2 ⟨rfl, hb2⟩
  go_wp2
  go_ret
  exact ⟨rfl, hB1.trans (hb2.mono hB1.size)⟩

theorem RBox.twice {w w' : World} {b : Nat} {ph top at_ ro : Int} {Q M : Value} {p q : Option Nat} (h : RBox w b ph Q M top at_ ro) (hb : Twice w w' p q) (h1 : some b ≠ p) (h2 : some b ≠ q) : RBox w' b ph Q M top at_ ro := by
  have e := hb.block b h.2.2.2.2.2.2 h1 h2
  obtain ⟨x0, x1, x2, x3, x4, x5, x6⟩ := h
  exact ⟨(World.cell?_of_block (a := ⟨b, 0, none⟩) e).trans x0, (World.cell?_of_block (a := ⟨b, 1, none⟩) e).trans x1, (World.cell?_of_block (a := ⟨b, 2, none⟩) e).trans x2, (World.cell?_of_block (a := ⟨b, 3, none⟩) e).trans x3, (World.cell?_of_block (a := ⟨b, 4, none⟩) e).trans x4, (World.cell?_of_block (a := ⟨b, 5, none⟩) e).trans x5, Nat.lt_of_lt_of_le x6 hb.size⟩

end Go.Proofs.YthkmpihfhkmaoaaGreat

/-
  spec.l6Round.
-/
namespace Go.Proofs.YthkmpihfhkmaoaaGreat
open Go.ChangeShapes Go.WideShapes Go.ChangeAt Go.RowKit

/-- A row that is not nil. -/
theorem own_some {w : World} {base : Nat} {v : Value} {n : Nat} {xs : List Value} (h : w.ownsRow base 9 1 v n xs) (hn : v ≠ .slice none 0 0) : ∃ g cap, v = .slice (some ⟨g, 0, none⟩) n cap := by
  rcases Joins.ownsRow_forms h with ⟨e, _⟩ | hf
  · exact absurd e hn
  · exact hf

theorem SRow.cellsV {w : World} {B g : Nat} {ss : List ByteArray} (h : SRow w B (some ⟨g, 0, none⟩) ss) : ∀ j u, (ss.map Value.string)[j]? = some u → w.cell? ((⟨g, 0, none⟩ : Addr).add j) = some u := by
  intro j u hu
  rw [List.getElem?_map] at hu
  cases hs : ss[j]? with
  | none => rw [hs] at hu; cases hu
  | some s =>
    rw [hs] at hu
    cases hu
    rcases h with h | ⟨b, off, h1, _, h3⟩
    · subst h; simp at hs
    · cases h1
      have := h3 j s hs
      rw [Go.WideShapes.add_plain]
      simpa using this

theorem oneS (ss : List ByteArray) : ∀ u ∈ ss.map Value.string, u.oneCell' = true := fun u hu => by obtain ⟨s, _, rfl⟩ := List.mem_map.1 hu; rfl

theorem RBox.grown {w w' : World} {b q : Nat} {ph top at_ ro : Int} {Q M : Value} (h : RBox w b ph Q M top at_ ro) (hg : w.grownBy w' (some q)) (hq : b ≠ q) : RBox w' b ph Q M top at_ ro := by
  obtain ⟨x0, x1, x2, x3, x4, x5, x6⟩ := h
  have hz := hg.size
  exact ⟨hg.cell x0 (by simp; omega), hg.cell x1 (by simp; omega), hg.cell x2 (by simp; omega), hg.cell x3 (by simp; omega), hg.cell x4 (by simp; omega), hg.cell x5 (by simp; omega), by omega⟩

set_option maxRecDepth 20000 in
set_option maxHeartbeats 4000000 in
theorem l6Round_any (ph top at_ ro : Int) (g h ac bc : Nat) (qs ms : List ByteArray) (w : World) (hq : SRow w w.heap.size (some ⟨g, 0, none⟩) qs) (hm : SRow w w.heap.size (some ⟨h, 0, none⟩) ms) (hf : RFit qs ms) :
    Calls Tryz.prog 36 #[.agg #[.int .i64 ph, .slice (some ⟨g, 0, none⟩) qs.length ac, .slice (some ⟨h, 0, none⟩) ms.length bc, .int .i64 top, .int .i64 at_, .int .i64 ro]] w fun e w' => ∃ x cx y cy, e = .returned (.agg #[.int .i64 ph, .slice (some ⟨x, 0, none⟩) qs.length cx, .slice (some ⟨y, 0, none⟩) ms.length cy, .int .i64 top, .int .i64 at_, .int .i64 ro]) ∧
      w'.ownsRow w.heap.size 9 1 (.slice (some ⟨x, 0, none⟩) qs.length cx) qs.length (qs.map Value.string) ∧ w'.ownsRow w.heap.size 9 1 (.slice (some ⟨y, 0, none⟩) ms.length cy) ms.length (ms.map Value.string) ∧ x ≠ y ∧ Below w.heap.size w w' := by
  have hfq := hf.q
  have hfm := hf.m
  obtain ⟨i0, hi, hz0, hz1, hz2⟩ := info_parts Tryz.infoStr
  obtain ⟨W, hW⟩ : ∃ W, W = ((w.alloc (.cells #[.int .i64 ph, .slice (some ⟨g, 0, none⟩) qs.length ac, .slice (some ⟨h, 0, none⟩) ms.length bc, .int .i64 top, .int .i64 at_, .int .i64 ro] 37)).alloc (.cells #[.int .i64 0, .slice none 0 0, .slice none 0 0, .int .i64 0, .int .i64 0, .int .i64 0] 37)).alloc (.cells #[.int .i64 ph, .slice (some ⟨g, 0, none⟩) qs.length ac, .slice (some ⟨h, 0, none⟩) ms.length bc, .int .i64 top, .int .i64 at_, .int .i64 ro] 37) := ⟨_, rfl⟩
  have hbW : Below w.heap.size w W := by rw [hW]; exact (((Below.refl _ _).alloc (Nat.le_refl _) _).alloc (by simp) _).alloc (by simp; omega) _
  have x2 : RBox W (w.heap.size + 1 + 1) ph (.slice (some ⟨g, 0, none⟩) qs.length ac) (.slice (some ⟨h, 0, none⟩) ms.length bc) top at_ ro := by
    rw [hW]; exact ⟨by simp [go_sem], by simp [go_sem], by simp [go_sem], by simp [go_sem], by simp [go_sem], by simp [go_sem], by simp⟩
  have x1 : RBox W (w.heap.size + 1) 0 (.slice none 0 0) (.slice none 0 0) 0 0 0 := by
    rw [hW]; exact ⟨by simp [go_sem], by simp [go_sem], by simp [go_sem], by simp [go_sem], by simp [go_sem], by simp [go_sem], by simp <;> omega⟩
  have x0 : RBox W w.heap.size ph (.slice (some ⟨g, 0, none⟩) qs.length ac) (.slice (some ⟨h, 0, none⟩) ms.length bc) top at_ ro := by
    rw [hW]; exact ⟨by simp [go_sem], by simp [go_sem], by simp [go_sem], by simp [go_sem], by simp [go_sem], by simp [go_sem], by simp <;> omega⟩
  have f2 : ∀ o, W.frozen? ⟨w.heap.size + 1 + 1, o, none⟩ = false := fun o => by rw [hW]; simp [go_sem]
  have f1 : ∀ o, W.frozen? ⟨w.heap.size + 1, o, none⟩ = false := fun o => by rw [hW]; simp [go_sem]
  have hzW : W.heap.size = w.heap.size + 3 := by rw [hW]; simp
  have HW : Hid _ := hW
  clear hW
  go_enter Tryz.func36, Tryz.ntmps36
  go_wp2_with (first
    | (at_builtin; refine wpList_append_own _ rfl _ _ 27 rfl (w.heap.size + 3) 9 i0 (.string ⟨#[]⟩) 1 16 Tryz.underlying27 hi hz0 hz1 hz2 rfl (by decide) _ 0 (([] : List ByteArray).map Value.string) rfl ?d0 ⟨g, 0, none⟩ qs.length ac (qs.map Value.string) rfl ?d1 ?d2 ?d3 ?d4 ?d5 ?d6 ?_)
    | go_in)
  all_goals try rw [← HW.out]
  case d0 =>
    have := World.ownsRow_lit (base := w.heap.size + 3) (e := 9) (size := 1) W #[] 0 (by omega) (by unfold maxLen; omega) rfl
    rw [hzW] at this
    exact this
  case d1 => simp
  case d2 => exact (hq.below (hbW.alloc hbW.size _)).cellsV
  case d3 => exact oneS qs
  case d4 => unfold maxLen; omega
  case d5 => omega
  case d6 => simp; omega
  intro v1 w1 ho1 hg1 hn1
  have hvb : ∃ x cx, v1 = .slice (some ⟨x, 0, none⟩) qs.length cx := by
    have := own_some ho1 hn1
    simpa using this
  obtain ⟨x, cx, rfl⟩ := hvb
  try simp only [Nat.zero_add, List.map_nil, List.nil_append] at ho1
  have hsz1 := hg1.size
  have hg1' : (W.alloc (.cells #[] 9)).grownBy w1 (some (w.heap.size + 3)) := by simpa [Value.ownBlock] using hg1
  have hA : Below W.heap.size W (W.alloc (.cells #[] 9)) := (Below.refl _ _).alloc (Nat.le_refl _) _
  have y0 := (x0.below hA).grown hg1' (by omega)
  have y1 := (x1.below hA).grown hg1' (by omega)
  have y2 := (x2.below hA).grown hg1' (by omega)
  have e2 : ∀ o, w1.frozen? ⟨w.heap.size + 1 + 1, o, none⟩ = false := fun o => (hg1'.frozen_far ⟨w.heap.size + 1 + 1, o, none⟩ (by simp <;> omega) (by simp <;> omega)).trans ((hA.frozen (p := ⟨w.heap.size + 1 + 1, o, none⟩) (by simp <;> omega)).trans (f2 o))
  have e1 : ∀ o, w1.frozen? ⟨w.heap.size + 1, o, none⟩ = false := fun o => (hg1'.frozen_far ⟨w.heap.size + 1, o, none⟩ (by simp <;> omega) (by simp <;> omega)).trans ((hA.frozen (p := ⟨w.heap.size + 1, o, none⟩) (by simp <;> omega)).trans (f1 o))
  have hB1 : Below w.heap.size w w1 := (hbW.trans (hA.mono hbW.size)).grown hg1' (by simp; omega) (fun k hk => by cases hk; omega)
  have lx := ho1.lt x rfl
  simp at hsz1
  obtain ⟨a0, a1, a2, a3, a4, a5, a6⟩ := y0
  obtain ⟨b0, b1, b2, b3, b4, b5, b6⟩ := y1
  obtain ⟨c0, c1, c2, c3, c4, c5, c6⟩ := y2
  clear x0 x1 x2 f1 f2 hA hg1 hg1' hn1 HW hbW
  obtain ⟨V, hV⟩ : ∃ V, V = w1.setCell ⟨w.heap.size + 1 + 1, 1, none⟩ (.slice (some ⟨x, 0, none⟩) qs.length cx) := ⟨_, rfl⟩
  have hBV : Below w.heap.size w V := by rw [hV]; exact hB1.setCell (p := ⟨w.heap.size + 1 + 1, 1, none⟩) (by simp <;> omega) _
  have hzV : V.heap.size = w1.heap.size := by rw [hV]; simp
  have hoV : V.ownsRow (w.heap.size + 3) 9 1 (.slice (some ⟨x, 0, none⟩) qs.length cx) qs.length (qs.map Value.string) := by rw [hV]; exact ownsRow_setCell_below ho1 (by simp) _
  have r1 : RBox V (w.heap.size + 1) 0 (.slice none 0 0) (.slice none 0 0) 0 0 0 := by
    rw [hV]; exact ⟨by simp [go_sem, b0], by simp [go_sem, b1], by simp [go_sem, b2], by simp [go_sem, b3], by simp [go_sem, b4], by simp [go_sem, b5], by simpa using b6⟩
  have r2 : RBox V (w.heap.size + 1 + 1) ph (.slice (some ⟨x, 0, none⟩) qs.length cx) (.slice (some ⟨h, 0, none⟩) ms.length bc) top at_ ro := by
    rw [hV]; exact ⟨by simp [go_sem, c0], by simp [go_sem, c1], by simp [go_sem, c2], by simp [go_sem, c3], by simp [go_sem, c4], by simp [go_sem, c5], by simpa using c6⟩
  have k1 : ∀ o, V.frozen? ⟨w.heap.size + 1, o, none⟩ = false := fun o => by rw [hV]; simp [go_sem, e1]
  have k2 : ∀ o, V.frozen? ⟨w.heap.size + 1 + 1, o, none⟩ = false := fun o => by rw [hV]; simp [go_sem, e2]
  have HV : Hid _ := hV
  clear hV
  go_wp2_with (first
    | (at_builtin; refine wpList_append_own _ rfl _ _ 27 rfl w1.heap.size 9 i0 (.string ⟨#[]⟩) 1 16 Tryz.underlying27 hi hz0 hz1 hz2 rfl (by decide) _ 0 (([] : List ByteArray).map Value.string) rfl ?e0 ⟨h, 0, none⟩ ms.length bc (ms.map Value.string) rfl ?e1 ?e2 ?e3 ?e4 ?e5 ?e6 ?_)
    | go_in)
  all_goals try rw [← HV.out]
  case e0 =>
    have := World.ownsRow_lit (base := w1.heap.size) (e := 9) (size := 1) V #[] 0 (by omega) (by unfold maxLen; omega) rfl
    rw [hzV] at this
    exact this
  case e1 => simp
  case e2 => exact (hm.below (hBV.alloc hBV.size _)).cellsV
  case e3 => exact oneS ms
  case e4 => unfold maxLen; omega
  case e5 => omega
  case e6 => simp; omega
  intro v2 w2 ho2 hg2 hn2
  have hvb : ∃ y cy, v2 = .slice (some ⟨y, 0, none⟩) ms.length cy := by
    have := own_some ho2 hn2
    simpa using this
  obtain ⟨y, cy, rfl⟩ := hvb
  try simp only [Nat.zero_add, List.map_nil, List.nil_append] at ho2
  have hg2' : (V.alloc (.cells #[] 9)).grownBy w2 (some w1.heap.size) := by simpa [Value.ownBlock] using hg2
  have hA : Below V.heap.size V (V.alloc (.cells #[] 9)) := (Below.refl _ _).alloc (Nat.le_refl _) _
  have s1 := (r1.below hA).grown hg2' (by omega)
  have s2 := (r2.below hA).grown hg2' (by omega)
  have t2 : ∀ o, w2.frozen? ⟨w.heap.size + 1 + 1, o, none⟩ = false := fun o => (hg2'.frozen_far ⟨w.heap.size + 1 + 1, o, none⟩ (by simp <;> omega) (by simp <;> omega)).trans ((hA.frozen (p := ⟨w.heap.size + 1 + 1, o, none⟩) (by simp <;> omega)).trans (k2 o))
  have t1 : ∀ o, w2.frozen? ⟨w.heap.size + 1, o, none⟩ = false := fun o => (hg2'.frozen_far ⟨w.heap.size + 1, o, none⟩ (by simp <;> omega) (by simp <;> omega)).trans ((hA.frozen (p := ⟨w.heap.size + 1, o, none⟩) (by simp <;> omega)).trans (k1 o))
  have hB2 : Below w.heap.size w w2 := (hBV.trans (hA.mono hBV.size)).grown hg2' (by simp; omega) (fun k hk => by cases hk; omega)
  have ly := ho2.lt y rfl
  have hox : w2.ownsRow (w.heap.size + 3) 9 1 (.slice (some ⟨x, 0, none⟩) qs.length cx) qs.length (qs.map Value.string) := (hoV.alloc _).kept hg2' (.inr (by simp [Value.ownBlock]; omega))
  have hoy := ho2.mono (show w.heap.size + 3 ≤ w1.heap.size by omega)
  have hxy : x ≠ y := by omega
  have HO : Hid _ := And.intro hox (And.intro hoy (And.intro hxy hB2))
  obtain ⟨m0, m1, m2, m3, m4, m5, m6⟩ := s1
  obtain ⟨n0, n1, n2, n3, n4, n5, n6⟩ := s2
  clear a0 a1 a2 a3 a4 a5 a6 b0 b1 b2 b3 b4 b5 b6 c0 c1 c2 c3 c4 c5 c6 hox hoy ho2 hg2 hg2' hA r1 r2 k1 k2 hoV ho1 hBV hB1 hB2 HV e1 e2 hn2
  go_wp2
  refine bodyPost_ret (v := .agg #[.int .i64 ph, .slice (some ⟨x, 0, none⟩) qs.length cx, .slice (some ⟨y, 0, none⟩) ms.length cy, .int .i64 top, .int .i64 at_, .int .i64 ro]) (by simp [results, Tryz.results36, go_sem, m0, m1, m2, m3, m4, m5]) rfl ⟨x, cx, y, cy, rfl, ?_, ?_, HO.out.2.2.1, ?_⟩
  · refine World.ownsRow.mono ?_ (show w.heap.size ≤ w.heap.size + 3 by omega)
    iterate 7 (refine ownsRow_setCell_below ?_ (by simp) _)
    exact HO.out.1
  · refine World.ownsRow.mono ?_ (show w.heap.size ≤ w.heap.size + 3 by omega)
    iterate 7 (refine ownsRow_setCell_below ?_ (by simp) _)
    exact HO.out.2.1
  · iterate 7 (refine Below.setCell ?_ (by simp <;> omega) _)
    exact HO.out.2.2.2

end Go.Proofs.YthkmpihfhkmaoaaGreat

/-
  slices.Clone at strings, impl.copyOfRound.
-/
namespace Go.Proofs.YthkmpihfhkmaoaaGreat
open Go.ChangeShapes Go.WideShapes Go.ChangeAt Go.RowKit

set_option maxRecDepth 20000 in
set_option maxHeartbeats 1000000 in
theorem clone_any (g cap : Nat) (ss : List ByteArray) (w : World) (hr : SRow w w.heap.size (some ⟨g, 0, none⟩) ss) (hl : ss.length ≤ 1048576) :
    Calls Tryz.prog 104 #[.slice (some ⟨g, 0, none⟩) ss.length cap] w fun e w' => ∃ x cx, e = .returned (.slice (some ⟨x, 0, none⟩) ss.length cx) ∧
      w'.ownsRow w.heap.size 9 1 (.slice (some ⟨x, 0, none⟩) ss.length cx) ss.length (ss.map Value.string) ∧ Below w.heap.size w w' := by
  obtain ⟨i0, hi, hz0, hz1, hz2⟩ := info_parts Tryz.infoStr
  have hA : Below w.heap.size w (w.alloc (.cells #[] 9)) := (Below.refl _ _).alloc (Nat.le_refl _) _
  have hnil : ∀ u : World, (binOp .eql 27 (.slice (some ⟨g, 0, none⟩) ss.length cap) (.slice none 0 0)).run Tryz.prog u = .ok (.bool false) u := fun _ => by first | rfl | kernel_rfl
  go_enter Tryz.func104, Tryz.ntmps104
  go_wp2_with (first
    | (at_builtin; refine wpList_append_own _ rfl _ _ 27 rfl w.heap.size 9 i0 (.string ⟨#[]⟩) 1 16 Tryz.underlying27 hi hz0 hz1 hz2 rfl (by decide) _ 0 (([] : List ByteArray).map Value.string) rfl ?d0 ⟨g, 0, none⟩ ss.length cap (ss.map Value.string) rfl ?d1 ?d2 ?d3 ?d4 ?d5 ?d6 ?_)
    | go_in)
  case d0 => exact World.ownsRow_lit (base := w.heap.size) (e := 9) (size := 1) w #[] 0 (Nat.le_refl _) (by unfold maxLen; omega) rfl
  case d1 => simp
  case d2 => exact (hr.below hA).cellsV
  case d3 => exact oneS ss
  case d4 => unfold maxLen; omega
  case d5 => omega
  case d6 => simp
  intro v1 w1 ho1 hg1 hn1
  have hvb : ∃ x cx, v1 = .slice (some ⟨x, 0, none⟩) ss.length cx := by
    have := own_some ho1 hn1
    simpa using this
  obtain ⟨x, cx, rfl⟩ := hvb
  try simp only [Nat.zero_add, List.map_nil, List.nil_append] at ho1
  have hB : Below w.heap.size w w1 := hA.grown hg1 (by simp) (fun k hk => by simp [Value.ownBlock] at hk; omega)
  have HO : Hid _ := And.intro ho1 hB
  clear ho1 hg1 hn1 hB hA hr
  go_wp2
  go_ret
  exact ⟨x, cx, rfl, HO.out.1, HO.out.2⟩

set_option maxRecDepth 20000 in
set_option maxHeartbeats 4000000 in
theorem copyOfRound_any (ph top at_ ro : Int) (g h ac bc : Nat) (qs ms : List ByteArray) (w : World) (hq : SRow w w.heap.size (some ⟨g, 0, none⟩) qs) (hm : SRow w w.heap.size (some ⟨h, 0, none⟩) ms) (hf : RFit qs ms) :
    Calls Tryz.prog 96 #[.agg #[.int .i64 ph, .slice (some ⟨g, 0, none⟩) qs.length ac, .slice (some ⟨h, 0, none⟩) ms.length bc, .int .i64 top, .int .i64 at_, .int .i64 ro]] w fun e w' => ∃ x cx y cy, e = .returned (.agg #[.int .i64 ph, .slice (some ⟨x, 0, none⟩) qs.length cx, .slice (some ⟨y, 0, none⟩) ms.length cy, .int .i64 top, .int .i64 at_, .int .i64 ro]) ∧
      w'.ownsRow w.heap.size 9 1 (.slice (some ⟨x, 0, none⟩) qs.length cx) qs.length (qs.map Value.string) ∧ w'.ownsRow w.heap.size 9 1 (.slice (some ⟨y, 0, none⟩) ms.length cy) ms.length (ms.map Value.string) ∧ x ≠ y ∧ Below w.heap.size w w' := by
  obtain ⟨W, hW⟩ : ∃ W, W = (w.alloc (.cells #[.int .i64 ph, .slice (some ⟨g, 0, none⟩) qs.length ac, .slice (some ⟨h, 0, none⟩) ms.length bc, .int .i64 top, .int .i64 at_, .int .i64 ro] 37)).alloc (.cells #[.int .i64 0, .slice none 0 0, .slice none 0 0, .int .i64 0, .int .i64 0, .int .i64 0] 37) := ⟨_, rfl⟩
  have hbW : Below w.heap.size w W := by rw [hW]; exact ((Below.refl _ _).alloc (Nat.le_refl _) _).alloc (by simp) _
  have x1 : RBox W (w.heap.size + 1) 0 (.slice none 0 0) (.slice none 0 0) 0 0 0 := by
    rw [hW]; exact ⟨by simp [go_sem], by simp [go_sem], by simp [go_sem], by simp [go_sem], by simp [go_sem], by simp [go_sem], by simp⟩
  have x0 : RBox W w.heap.size ph (.slice (some ⟨g, 0, none⟩) qs.length ac) (.slice (some ⟨h, 0, none⟩) ms.length bc) top at_ ro := by
    rw [hW]; exact ⟨by simp [go_sem], by simp [go_sem], by simp [go_sem], by simp [go_sem], by simp [go_sem], by simp [go_sem], by simp <;> omega⟩
  have f0 : ∀ o, W.frozen? ⟨w.heap.size, o, none⟩ = false := fun o => by rw [hW]; simp [go_sem]
  have f1 : ∀ o, W.frozen? ⟨w.heap.size + 1, o, none⟩ = false := fun o => by rw [hW]; simp [go_sem]
  have hzW : W.heap.size = w.heap.size + 2 := by rw [hW]; simp
  have HW : Hid _ := hW
  have HX0 : Hid _ := x0
  have HX1 : Hid _ := x1
  have HQ : Hid _ := hq
  have HM : Hid _ := hm
  clear hW x1 hq hm
  obtain ⟨a0, a1, a2, a3, a4, a5, a6⟩ := x0
  go_enter Tryz.func96, Tryz.ntmps96
  go_upto_region 1 with fail
  rw [← HW.out]
  go_region_with (first
    | (go_at_call 104; refine (clone_any g ac qs W.drew (SRow.below' (w := w) HQ.out hbW.drew) hf.q).mono ?_; rintro e w1 ⟨x, cx, rfl, ho1, hb1⟩; have hB1 : Below W.heap.size W w1 := (Below.refl W.heap.size W).drew.trans hb1; obtain ⟨b0, b1, b2, b3, b4, b5, b6⟩ := RBox.below HX0.out hB1; have lx := ho1.lt x rfl)
    | (go_at_call 104; refine (clone_any h bc ms w1 (SRow.below' (w := w) HM.out (hbW.trans (hB1.mono hbW.size))) hf.m).mono ?_; rintro e w2 ⟨y, cy, rfl, ho2, hb2⟩; have ly := ho2.lt y rfl; have hB2 : Below W.heap.size W w2 := hB1.trans (hb2.mono hB1.size); obtain ⟨c0, c1, c2, c3, c4, c5, c6⟩ := RBox.below HX0.out hB2; obtain ⟨d0, d1, d2, d3, d4, d5, d6⟩ := RBox.below HX1.out hB2; have e0 : ∀ o, w2.frozen? ⟨w.heap.size, o, none⟩ = false := (fun o => (hB2.frozen (p := ⟨w.heap.size, o, none⟩) (by simp; omega)).trans (f0 o)); have e1 : ∀ o, w2.frozen? ⟨w.heap.size + 1, o, none⟩ = false := (fun o => (hB2.frozen (p := ⟨w.heap.size + 1, o, none⟩) (by simp; omega)).trans (f1 o))))
  all_goals
    have hox : w2.ownsRow (w.heap.size + 2) 9 1 (.slice (some ⟨x, 0, none⟩) qs.length cx) qs.length (qs.map Value.string) := (own_keep ho1 hb2).mono (by simp; omega)
    have hoy : w2.ownsRow (w.heap.size + 2) 9 1 (.slice (some ⟨y, 0, none⟩) ms.length cy) ms.length (ms.map Value.string) := ho2.mono (by have := hB1.size; omega)
    have hxy : x ≠ y := by omega
    have HO : Hid _ := And.intro hox (And.intro hoy (And.intro hxy (hbW.trans (hB2.mono hbW.size))))
    clear hox hoy ho1 ho2 hb1 hb2 hB1 hB2 HX0 HX1 HQ HM a0 a1 a2 a3 a4 a5 hbW HW
    go_wp2
    refine bodyPost_ret (v := .agg #[.int .i64 ph, .slice (some ⟨x, 0, none⟩) qs.length cx, .slice (some ⟨y, 0, none⟩) ms.length cy, .int .i64 top, .int .i64 at_, .int .i64 ro]) (by simp [results, Tryz.results96, go_sem, d0, d1, d2, d3, d4, d5]) rfl ⟨x, cx, y, cy, rfl, ?_, ?_, HO.out.2.2.1, ?_⟩
    · refine World.ownsRow.mono ?_ (show w.heap.size ≤ w.heap.size + 2 by omega)
      iterate 8 (refine ownsRow_setCell_below ?_ (by simp <;> omega) _)
      exact HO.out.1
    · refine World.ownsRow.mono ?_ (show w.heap.size ≤ w.heap.size + 2 by omega)
      iterate 8 (refine ownsRow_setCell_below ?_ (by simp <;> omega) _)
      exact HO.out.2.1
    · iterate 8 (refine Below.setCell ?_ (by simp) _)
      exact HO.out.2.2.2

end Go.Proofs.YthkmpihfhkmaoaaGreat
