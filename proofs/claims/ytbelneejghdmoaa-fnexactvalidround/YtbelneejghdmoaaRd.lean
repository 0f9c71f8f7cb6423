/-
  Rounds: laws.szRound, toRound, eqRound (and szState, with what it leaves).
-/
import Derived.Test.YtbelneejghdmoaaStSz
namespace Go.Proofs.Ytbelneejghdmoaa
open Go.ChangeShapes Go.WideShapes Go.ChangeAt Go.RowKit

set_option maxHeartbeats 400000 in
theorem szState_le (wd now given births : Int) (a p l : Option Addr) (ac pc lc : Nat) (ks : List Kd) (ps : List Pd) (ls : List Ld) (left : Int) (w : World) (hrow : SRows w w.heap.size a p l ks ps ls)
    (hk : KMem ks) (hp : PMem ps) (hl : LMem ls) (h1 : 0 ≤ left) (h2 : left ≤ 1048576) :
    Calls Try.prog 9 #[.agg #[.int .i64 wd, .int .i64 now, .int .i64 given, .int .i64 births, .slice a ks.length ac, .slice p ps.length pc, .slice l ls.length lc], .int .i64 left] w fun e w' => ∃ r : Int, e = .returned (.int .i64 r) ∧ Below w.heap.size w w' ∧ r ≤ left ∧ (0 ≤ r → SFit ks ps ls) := by
  have hb : Below w.heap.size w (w.alloc (.cells #[.int .i64 wd, .int .i64 now, .int .i64 given, .int .i64 births, .slice a ks.length ac, .slice p ps.length pc, .slice l ls.length lc] 26)) := (Below.refl _ _).alloc (Nat.le_refl _) _
  have hx := SBox.new w wd now given births (.slice a ks.length ac) (.slice p ps.length pc) (.slice l ls.length lc) 26
  go_enter Try.func9, Try.ntmps9
  go_wp2_with fail
  refine (szKeptS_any a ac ks _ _ (hrow.below' hb).k hk (by omega) (by omega)).mono ?_
  rintro e w1 ⟨r, rfl, hb1, hr, hf1⟩
  have hB := hb.trans (hb1.mono (by simp))
  obtain ⟨_, _, _, _, _, x5, x6, x7⟩ := hx.below hb1
  have hz := hb1.size
  clear hb1
  by_cases h3 : r < 0
  · go_wp2
    go_ret
    exact ⟨_, rfl, hB, by omega, fun h => by omega⟩
  · go_wp2_with fail
    refine (szPinS_any p pc ps _ _ (hrow.below' hB).p hp (by omega) (by omega)).mono ?_
    rintro e w2 ⟨r2, rfl, hb2, hr2, hf2⟩
    have hB2 := hB.trans (hb2.mono hB.size)
    replace x6 := (hb2.cell (p := ⟨w.heap.size, 6, none⟩) x7).trans x6
    have hz2 := hb2.size
    clear hb2 x5
    by_cases h4 : r2 < 0
    · go_wp2
      go_ret
      exact ⟨_, rfl, hB2, by omega, fun h => by omega⟩
    · go_wp2_with fail
      refine (szLeaseS_any l lc ls _ _ (hrow.below' hB2).l hl (by omega) (by omega)).mono ?_
      rintro e w3 ⟨r3, rfl, hb3, hr3, hf3⟩
      have hB3 := hB2.trans (hb3.mono hB2.size)
      by_cases h5 : r3 < 0
      · go_wp2
        go_ret
        exact ⟨_, rfl, hB3, by omega, fun h => by omega⟩
      · go_wp2
        go_ret
        exact ⟨_, rfl, hB3, by omega, fun _ => ⟨(hf1 (by omega)).1, (hf1 (by omega)).2, hf2 (by omega), hf3 (by omega)⟩⟩

/-- A round's box. -/
def RBox (w : World) (b : Nat) (ph : Int) (Q M : Value) (top at_ ro : Int) : Prop :=
  w.cell? ⟨b, 0, none⟩ = some (.int .i64 ph) ∧ w.cell? ⟨b, 1, none⟩ = some Q ∧ w.cell? ⟨b, 2, none⟩ = some M ∧ w.cell? ⟨b, 3, none⟩ = some (.int .i64 top) ∧
    w.cell? ⟨b, 4, none⟩ = some (.int .i64 at_) ∧ w.cell? ⟨b, 5, none⟩ = some (.int .i64 ro) ∧ b < w.heap.size

theorem RBox.new (w : World) (ph top at_ ro : Int) (Q M : Value) (t : TypeId) : RBox (w.alloc (.cells #[.int .i64 ph, Q, M, .int .i64 top, .int .i64 at_, .int .i64 ro] t)) w.heap.size ph Q M top at_ ro :=
  ⟨by simp, by simp, by simp, by simp, by simp, by simp, by simp⟩

theorem RBox.keep {w w' : World} {b B : Nat} {ph top at_ ro : Int} {Q M : Value} (h : RBox w b ph Q M top at_ ro) (hb : Below B w w') (hB : b < B) : RBox w' b ph Q M top at_ ro := by
  obtain ⟨h0, h1, h2, h3, h4, h5, h7⟩ := h
  exact ⟨(hb.cell (p := ⟨b, 0, none⟩) hB).trans h0, (hb.cell (p := ⟨b, 1, none⟩) hB).trans h1, (hb.cell (p := ⟨b, 2, none⟩) hB).trans h2, (hb.cell (p := ⟨b, 3, none⟩) hB).trans h3,
    (hb.cell (p := ⟨b, 4, none⟩) hB).trans h4, (hb.cell (p := ⟨b, 5, none⟩) hB).trans h5, Nat.lt_of_lt_of_le h7 hb.size⟩

theorem RBox.below {w w' : World} {b : Nat} {ph top at_ ro : Int} {Q M : Value} (h : RBox w b ph Q M top at_ ro) (hb : Below w.heap.size w w') : RBox w' b ph Q M top at_ ro := h.keep hb h.2.2.2.2.2.2

set_option maxHeartbeats 400000 in
theorem szS_any (a : Option Addr) (cap : Nat) (ss : List ByteArray) (left : Int) (w : World) (B : Nat) (hrow : SRow w B a ss) (hl : ss.length ≤ maxLen) (hs : ∀ s ∈ ss, s.size ≤ maxLen) (h1 : 0 ≤ left) (h2 : left ≤ 1048576) :
    Calls Try.prog 58 #[.slice a ss.length cap, .int .i64 left] w fun e w' => ∃ r : Int, e = .returned (.int .i64 r) ∧ w' = w ∧ r ≤ left ∧ (0 ≤ r → ss.length ≤ 1048576) := by
  by_cases hfit : (ss.length : Int) + bulk ss ≤ left
  · refine (szS_yes a cap ss left w B hrow h2 hfit).mono ?_
    rintro e w' ⟨rfl, rfl⟩
    exact ⟨_, rfl, rfl, by omega, fun _ => by omega⟩
  · refine (szS_no a cap ss left w B hrow hl hs h1 h2 (by omega)).mono ?_
    rintro e w' ⟨rfl, rfl⟩
    exact ⟨_, rfl, rfl, by omega, fun h => by omega⟩

/-- What the law lets through. -/
structure RFit (qs ms : List ByteArray) : Prop where
  q : qs.length ≤ 1048576
  m : ms.length ≤ 1048576

set_option maxHeartbeats 400000 in
theorem szRound_any (ph top at_ ro : Int) (a b : Option Addr) (ac bc : Nat) (qs ms : List ByteArray) (left : Int) (w : World) (hq : SRow w w.heap.size a qs) (hm : SRow w w.heap.size b ms)
    (hl : qs.length ≤ maxLen) (hs : ∀ s ∈ qs, s.size ≤ maxLen) (hl' : ms.length ≤ maxLen) (hs' : ∀ s ∈ ms, s.size ≤ maxLen) (h1 : 0 ≤ left) (h2 : left ≤ 1048576) :
    Calls Try.prog 16 #[.agg #[.int .i64 ph, .slice a qs.length ac, .slice b ms.length bc, .int .i64 top, .int .i64 at_, .int .i64 ro], .int .i64 left] w fun e w' => ∃ r : Int, e = .returned (.int .i64 r) ∧ Below w.heap.size w w' ∧ (0 ≤ r → RFit qs ms) := by
  have hb : Below w.heap.size w (w.alloc (.cells #[.int .i64 ph, .slice a qs.length ac, .slice b ms.length bc, .int .i64 top, .int .i64 at_, .int .i64 ro] 40)) := (Below.refl _ _).alloc (Nat.le_refl _) _
  go_enter Try.func16, Try.ntmps16
  go_wp2_with fail
  refine (szS_any a ac qs _ _ w.heap.size (hq.below hb) hl hs (by omega) (by omega)).mono ?_
  rintro e w1 ⟨r, rfl, rfl, hr, hf1⟩
  by_cases h3 : r < 0
  · go_wp2
    go_ret
    exact ⟨_, rfl, hb, fun h => by omega⟩
  · go_wp2_with fail
    refine (szS_any b bc ms _ _ w.heap.size (hm.below hb) hl' hs' (by omega) (by omega)).mono ?_
    rintro e w2 ⟨r2, rfl, rfl, hr2, hf2⟩
    by_cases h4 : r2 < 0
    · go_wp2
      go_ret
      exact ⟨_, rfl, hb, fun h => by omega⟩
    · go_wp2
      go_ret
      exact ⟨_, rfl, hb, fun _ => ⟨hf1 (by omega), hf2 (by omega)⟩⟩

set_option maxHeartbeats 400000 in
theorem eqRound_yes (ph top at_ ro : Int) (a b a' b' : Option Addr) (ac bc ac' bc' : Nat) (qs ms : List ByteArray) (w : World) (hq : SRow w w.heap.size a qs) (hm : SRow w w.heap.size b ms) (hq' : SRow w w.heap.size a' qs) (hm' : SRow w w.heap.size b' ms) (hf : RFit qs ms) :
    Calls Try.prog 20 #[.agg #[.int .i64 ph, .slice a qs.length ac, .slice b ms.length bc, .int .i64 top, .int .i64 at_, .int .i64 ro], .agg #[.int .i64 ph, .slice a' qs.length ac', .slice b' ms.length bc', .int .i64 top, .int .i64 at_, .int .i64 ro]] w fun e w' => e = .returned (.bool true) ∧ Below w.heap.size w w' := by
  have hb : Below w.heap.size w ((w.alloc (.cells #[.int .i64 ph, .slice a qs.length ac, .slice b ms.length bc, .int .i64 top, .int .i64 at_, .int .i64 ro] 43)).alloc (.cells #[.int .i64 ph, .slice a' qs.length ac', .slice b' ms.length bc', .int .i64 top, .int .i64 at_, .int .i64 ro] 43)) := ((Below.refl _ _).alloc (Nat.le_refl _) _).alloc (by simp) _
  go_enter Try.func20, Try.ntmps20
  go_wp2_with fail
  refine (eqS_yes a a' ac ac' qs _ _ _ (hq.below hb) (hq'.below hb) hf.q).mono ?_
  rintro e w' ⟨rfl, n, rfl⟩
  have hbn := belowN hb n
  go_wp2_with fail
  refine (eqS_yes b b' bc bc' ms _ _ _ (hm.below hbn) (hm'.below hbn) hf.m).mono ?_
  rintro e w' ⟨rfl, m, rfl⟩
  go_wp2
  go_ret
  exact ⟨rfl, belowN hb (n + m)⟩

set_option maxHeartbeats 2000000 in
theorem toRound_any (ph top at_ ro : Int) (a b : Option Addr) (ac bc : Nat) (qs ms : List ByteArray) (w : World) (hq : SRow w w.heap.size a qs) (hm : SRow w w.heap.size b ms) (hf : RFit qs ms) :
    Calls Try.prog 18 #[.agg #[.int .i64 ph, .slice a qs.length ac, .slice b ms.length bc, .int .i64 top, .int .i64 at_, .int .i64 ro]] w fun e w' => ∃ g k, e = .returned (.agg #[.int .i64 ph, .slice (some ⟨g, 0, none⟩) qs.length qs.length, .slice (some ⟨k, 0, none⟩) ms.length ms.length, .int .i64 top, .int .i64 at_, .int .i64 ro]) ∧ w.heap.size ≤ g ∧ g < k ∧
      w'.ownsRow w.heap.size 9 1 (.slice (some ⟨g, 0, none⟩) qs.length qs.length) qs.length (qs.map Value.string) ∧
      w'.ownsRow w.heap.size 9 1 (.slice (some ⟨k, 0, none⟩) ms.length ms.length) ms.length (ms.map Value.string) ∧ Below w.heap.size w w' := by
  have hbA : Below w.heap.size w (((w.alloc (.cells #[.int .i64 ph, .slice a qs.length ac, .slice b ms.length bc, .int .i64 top, .int .i64 at_, .int .i64 ro] 40)).alloc (.cells #[.int .i64 0, .slice none 0 0, .slice none 0 0, .int .i64 0, .int .i64 0, .int .i64 0] 43)).alloc (.cells #[.int .i64 ph, .slice none 0 0, .slice none 0 0, .int .i64 0, .int .i64 0, .int .i64 0] 43)) := (((Below.refl _ _).alloc (Nat.le_refl _) _).alloc (by simp) _).alloc (by simp; omega) _
  go_enter Try.func18, Try.ntmps18
  go_wp2_with fail
  refine (toS_any a ac qs _ (hq.below' hbA) hf.q).mono ?_
  rintro e w1 ⟨g, rfl, hg, hown, hb⟩
  have hB1 := hbA.trans (hb.mono (by simp; omega))
  obtain ⟨hc, hfz⟩ := bcell hb
  have hz := hb.size
  simp at hz hg
  go_wp2_with fail
  obtain ⟨W2, hW2⟩ : ∃ W2, W2 = w1.setCell ⟨w.heap.size + 1 + 1, 1, none⟩ (.slice (some ⟨g, 0, none⟩) qs.length qs.length) := ⟨_, rfl⟩
  have hB2 : Below w.heap.size w W2 := by rw [hW2]; exact hB1.setCell (by simp; omega) _
  have hzW : W2.heap.size = w1.heap.size := by rw [hW2]; simp
  have hO2 : W2.ownsRow (w.heap.size + 3) 9 1 (.slice (some ⟨g, 0, none⟩) qs.length qs.length) qs.length (qs.map Value.string) := by
    rw [hW2]; exact (ownsRow_setCell_below hown (by simp) _).mono (by simp)
  have hbx : RBox W2 (w.heap.size + 1 + 1) ph (.slice (some ⟨g, 0, none⟩) qs.length qs.length) (.slice none 0 0) 0 0 0 := by
    rw [hW2]
    exact ⟨by simp [go_sem, hc], by simp [go_sem, hc], by simp [go_sem, hc], by simp [go_sem, hc], by simp [go_sem, hc], by simp [go_sem, hc], by simp; omega⟩
  have hby : RBox W2 (w.heap.size + 1) 0 (.slice none 0 0) (.slice none 0 0) 0 0 0 := by
    rw [hW2]
    exact ⟨by simp [go_sem, hc], by simp [go_sem, hc], by simp [go_sem, hc], by simp [go_sem, hc], by simp [go_sem, hc], by simp [go_sem, hc], by simp; omega⟩
  have hbz : RBox W2 w.heap.size ph (.slice a qs.length ac) (.slice b ms.length bc) top at_ ro := by
    rw [hW2]
    exact ⟨by simp [go_sem, hc], by simp [go_sem, hc], by simp [go_sem, hc], by simp [go_sem, hc], by simp [go_sem, hc], by simp [go_sem, hc], by simp; omega⟩
  have f2 : ∀ o, W2.frozen? ⟨w.heap.size + 1 + 1, o, none⟩ = false := fun o => by rw [hW2]; simp [go_sem, hfz]
  have f1 : ∀ o, W2.frozen? ⟨w.heap.size + 1, o, none⟩ = false := fun o => by rw [hW2]; simp [go_sem, hfz]
  rw [← hW2]
  clear hW2 hown hb hc hfz
  refine (toS_any b bc ms _ (hm.below' hB2) hf.m).mono ?_
  rintro e w3 ⟨k, rfl, hk, hown3, hb3⟩
  have hz3 := hb3.size
  obtain ⟨x0, x1, x2, x3, x4, x5, x6⟩ := hbx.below hb3
  obtain ⟨y0, y1, y2, y3, y4, y5, y6⟩ := hby.below hb3
  obtain ⟨v0, v1, v2, v3, v4, v5, v6⟩ := hbz.below hb3
  replace f2 : ∀ o, w3.frozen? ⟨w.heap.size + 1 + 1, o, none⟩ = false := fun o => (hb3.frozen (p := ⟨w.heap.size + 1 + 1, o, none⟩) (by simp; omega)).trans (f2 o)
  replace f1 : ∀ o, w3.frozen? ⟨w.heap.size + 1, o, none⟩ = false := fun o => (hb3.frozen (p := ⟨w.heap.size + 1, o, none⟩) (by simp; omega)).trans (f1 o)
  have hlt := (hO2.lt g rfl).2
  have hO3 : w3.ownsRow (w.heap.size + 3) 9 1 (.slice (some ⟨g, 0, none⟩) qs.length qs.length) qs.length (qs.map Value.string) := hO2.kept (row := none) ⟨hb3.os, hb3.tape, hb3.output, hb3.size, fun i hi _ => hb3.block i hi⟩ (.inr (by simp [Value.ownBlock]))
  have hO4 := hown3.mono (show w.heap.size + 3 ≤ W2.heap.size by omega)
  have hB3 := hB2.trans (hb3.mono (by omega))
  have HO : Hid _ := And.intro hO3 (And.intro hO4 hB3)
  clear hO3 hO4 hB3 hown3 hO2 hbx hby hbz hb3 hB1 hB2 hbA
  go_wp2
  refine bodyPost_ret (v := .agg #[.int .i64 ph, .slice (some ⟨g, 0, none⟩) qs.length qs.length, .slice (some ⟨k, 0, none⟩) ms.length ms.length, .int .i64 top, .int .i64 at_, .int .i64 ro]) (by simp [results, Try.results18, go_sem, y0, y1, y2, y3, y4, y5]) rfl ⟨g, k, rfl, by omega, by omega, ?_, ?_, ?_⟩
  · refine World.ownsRow.mono ?_ (show w.heap.size ≤ w.heap.size + 3 by omega)
    iterate 10 (refine ownsRow_setCell_below ?_ (by simp) _)
    exact HO.out.1
  · refine World.ownsRow.mono ?_ (show w.heap.size ≤ w.heap.size + 3 by omega)
    iterate 10 (refine ownsRow_setCell_below ?_ (by simp) _)
    exact HO.out.2.1
  · iterate 10 (refine Below.setCell ?_ (by simp <;> omega) _)
    exact HO.out.2.2

end Go.Proofs.Ytbelneejghdmoaa
