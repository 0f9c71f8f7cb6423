/-
  spec.DrawFormThing, l1Bend, DrawReadThing.
-/
import Derived.Test.YtdecihmplkgfkaaDoorDrU
namespace Go.Proofs.YtdecihmplkgfkaaDoor
open Go.ChangeShapes Go.WideShapes Go.ChangeAt Go.RowKit

/-- A drawn thing's size. -/
def SmallTh (t : ByteArray) (ss : List ByteArray) : Prop := t.size ≤ 2001 ∧ ss.length ≤ 31 ∧ ∀ s ∈ ss, s.size ≤ 8

/-- While a thing is drawn: the reader at b, the thing's box at B, the result's box at w's end. -/
structure FS (w wx : World) (b B : Nat) (a : Option Addr) (n c : Nat) (t : ByteArray) (ra : Option Addr) (rc : Nat) (ss : List ByteArray) (p : Int) : Prop where
  cB : CellsAt wx B [.string t, .slice ra ss.length rc]
  bd : SmallTh t ss
  own : wx.ownsRow (w.heap.size + 1) 9 1 (.slice ra ss.length rc) ss.length (ss.map Value.string)
  far : ∀ k, (Value.slice ra ss.length rc).ownBlock = some k → k ≠ b ∧ k ≠ B
  rd : RdSt wx b a n c p
  res : CellsAt wx w.heap.size [.string ⟨#[]⟩, .slice none 0 0]
  bel : Below w.heap.size w wx

theorem FS.pick {w wx wy : World} {b B : Nat} {a : Option Addr} {n c : Nat} {t : ByteArray} {ra : Option Addr} {rc : Nat} {ss : List ByteArray} {p p' : Int} (h : FS w wx b B a n c t ra rc ss p) (hb : w.heap.size < b) (hB : b < B) (hr : RdSt wy b a n c p') (hg : wx.grownBy wy (some b)) : FS w wy b B a n c t ra rc ss p' :=
  ⟨h.cB.far hg hB, h.bd, h.own.kept hg (by
      cases hv : (Value.slice ra ss.length rc).ownBlock with
      | none => exact .inl rfl
      | some k => exact .inr (fun e => (h.far k hv).1 (Option.some.inj e))), h.far, hr, h.res.far' hg (by omega), h.bel.grown hg h.bel.size (fun k e => by cases e; omega)⟩

/-- What DrawFormThing gives. -/
structure FormThDrawn (w w' : World) (e : Ending) : Prop where
  ex : ∃ (t : ByteArray) (ra : Option Addr) (rc : Nat) (ss : List ByteArray) (wd : Int), e = .returned (.tuple #[.agg #[.string t, .slice ra ss.length rc], .int .i64 wd]) ∧ SmallTh t ss ∧ 0 ≤ wd ∧ wd ≤ 9 ∧ w'.ownsRow w.heap.size 9 1 (.slice ra ss.length rc) ss.length (ss.map Value.string)
  bel : Below w.heap.size w w'

set_option maxRecDepth 20000 in
set_option maxHeartbeats 4000000 in
theorem drawFormThing_any (a : Option Addr) (n c : Nat) (w : World) (hn : n ≤ maxLen) (hb : n = 0 ∨ ∃ q off, a = some ⟨q, off, none⟩ ∧ q < w.heap.size ∧ ∀ j, j < n → ∃ x : Int, w.cell? ⟨q, off + j, none⟩ = some (.int .u8 x) ∧ 0 ≤ x ∧ x < 256) (hc : n ≤ c) :
    Calls Tryd.prog 15 #[.slice a n c] w fun e w' => FormThDrawn w w' e := by
  obtain ⟨W0, hW0⟩ : ∃ W0, W0 = w.alloc (.cells #[.string ⟨#[]⟩, .slice none 0 0] 29) := ⟨_, rfl⟩
  have h00 : Below w.heap.size w W0 := by rw [hW0]; exact (Below.refl _ _).alloc (Nat.le_refl _) _
  have T0 : CellsAt W0 w.heap.size [.string ⟨#[]⟩, .slice none 0 0] := by rw [hW0]; exact CellsAt.new w _ _
  have hb0 : n = 0 ∨ ∃ q off, a = some ⟨q, off, none⟩ ∧ q < W0.heap.size ∧ ∀ j, j < n → ∃ x : Int, W0.cell? ⟨q, off + j, none⟩ = some (.int .u8 x) ∧ 0 ≤ x ∧ x < 256 := by
    rcases hb with h | ⟨q, off, ha, hq, hx⟩
    · exact .inl h
    · refine .inr ⟨q, off, ha, Nat.lt_of_lt_of_le hq h00.size, fun j hj => ?_⟩
      obtain ⟨x, h1, h2⟩ := hx j hj
      exact ⟨x, (h00.cell (p := ⟨q, off + j, none⟩) hq).trans h1, h2⟩
  have hz0 : w.heap.size < W0.heap.size := T0.lt
  have HW0 : Hid _ := hW0
  have HC : Hid _ := And.intro T0 h00
  have HB : Hid _ := hb0
  clear hW0 T0 h00 hb0 hb
  go_enter Tryd.func15, Tryd.ntmps15
  go_upto_region 1 with fail
  rw [← HW0.out]
  clear HW0
  go_wp2_with fail
  refine (l1Open_any a n c W0 hn HB.out hc).mono ?_
  rintro e w1 ⟨n', c', rfl, s1, hb1⟩
  have R1 := HC.out.1.below hb1
  have B1 := HC.out.2.trans (hb1.mono HC.out.2.size)
  obtain ⟨b, hbb⟩ : ∃ b, b = W0.heap.size := ⟨_, rfl⟩
  rw [← hbb] at s1 ⊢
  have hbw : w.heap.size < b := by omega
  have hb1l := s1.lt
  clear hbb HB HC hb1
  go_wp2_with fail
  refine (drawWidth_any b a n' c' 0 w1 s1 (by omega) (by omega)).mono ?_
  rintro e w2 ⟨wd, rfl, ⟨hw1, hw2⟩, s2, g2⟩
  have R2 := R1.far' g2 (by omega)
  have B2 : Below w.heap.size w w2 := B1.grown g2 B1.size (fun k e => by cases e; omega)
  clear s1 g2 R1 B1
  go_wp2_with fail
  refine (drawThing_any b a n' c' (0 + 1) wd w2 s2 (by omega) (by omega) hw1 hw2).mono ?_
  rintro e w3 ⟨⟨t, ra, rc, ss, rfl, ht, hl, hs, ho⟩, ⟨p3, s3, l3, u3⟩, g3⟩
  obtain ⟨W4, hW4⟩ : ∃ W4, W4 = w3.alloc (.cells #[.string t, .slice ra ss.length rc] 29) := ⟨_, rfl⟩
  have h34 : Below w3.heap.size w3 W4 := by rw [hW4]; exact (Below.refl _ _).alloc (Nat.le_refl _) _
  have hz23 := g3.size
  have hz2 := R2.lt
  have F4 : Hid (FS w W4 b w3.heap.size a n' c' t ra rc ss p3) := by
    refine ⟨by rw [hW4]; exact CellsAt.new w3 _ _, ⟨by omega, by omega, hs⟩, (ho.kept (grown_below none h34) (Classical.em _)).mono (by omega), fun k hk => ?_, s3.below h34, (R2.far' g3 (by omega)).below h34, ?_⟩
    · have := ho.lt k hk
      have := s2.lt
      omega
    · exact (B2.grown g3 B2.size (fun k e => by cases e; omega)).trans (h34.mono (by have := B2.size; omega))
  obtain ⟨B, hB⟩ : ∃ B, B = w3.heap.size := ⟨_, rfl⟩
  rw [← hB] at F4
  have hbB : b < B := by have := s2.lt; omega
  have HW4 : Hid _ := hW4
  have HB : Hid _ := hB
  have HTB : Hid _ := And.intro ht (And.intro hl hs)
  clear hW4 hB h34 ho s2 s3 g3 R2 B2 ht hl hs
  go_upto_region 4 with fail
  rw [← HW4.out, ← HB.out]
  clear HW4 HB
  go_wp2_with fail
  refine (pick_any b a n' c' p3 4 W4 F4.out.rd (by omega) (by omega) (by omega) (by omega)).mono ?_
  rintro e w5 ⟨r, rfl, r0, r1, s5, g5⟩
  have F5 : Hid (FS w w5 b B a n' c' t ra rc ss (p3 + 1)) := F4.out.pick hbw hbB s5 g5
  clear s5 g5 F4
  go_upto_if 16 with fail
  go_cut [] (fun wx => ∃ (t' : ByteArray) (ra' : Option Addr) (rc' : Nat) (ss' : List ByteArray) (p' : Int), 0 ≤ p' ∧ p' ≤ 200 ∧ Hid (FS w wx b B a n' c' t' ra' rc' ss' p'))
  case first =>
    by_cases c0 : r = 0
    · subst c0
      obtain ⟨x0, f0⟩ := F5.out.cB 0 _ rfl
      obtain ⟨x1, f1⟩ := F5.out.cB 1 _ rfl
      have HN : Hid _ := own_nilD F5.out.own
      have hB5 : B < w5.heap.size := F5.out.cB.lt
      go_wp2_with fail
      refine (spoilThing_any b a n' c' (p3 + 1) t ra rc ss w5 F5.out.rd (by omega) (by omega) HN.out.1 HN.out.2 HTB.out.1 HTB.out.2.1 HTB.out.2.2).mono ?_
      rintro e w6 ⟨⟨t', ra', rc', ss', rfl, ht', hl', hs', ho'⟩, ⟨p6, s6, l6, u6⟩, g6⟩
      have X6 := F5.out.cB.far g6 hbB
      have R6 := F5.out.res.far' g6 (by omega)
      have B6 : Below w.heap.size w w6 := F5.out.bel.grown g6 F5.out.bel.size (fun k e => by cases e; omega)
      have hw5 := F5.out.res.lt
      clear x0 f0 x1 f1
      obtain ⟨x0, f0⟩ := X6 0 _ rfl
      obtain ⟨x1, f1⟩ := X6 1 _ rfl
      go_wp2_with fail
      go_meet
      refine ⟨t', ra', rc', ss', p6, by omega, by omega, (X6.set 0 _).set 1 _, ⟨ht', hl', hs'⟩, ?_, ?_, ?_, ?_, ?_⟩
      · exact (ownsRow_setCell_below (ownsRow_setCell_below ho' (a := ⟨B, 0, none⟩) hB5 _) (a := ⟨B, 1, none⟩) hB5 _).mono (by omega)
      · intro k hk
        have := ho'.lt k hk
        omega
      · exact (s6.grown (rd_grown _ B 0 _) (by omega)).grown (rd_grown _ B 1 _) (by omega)
      · exact (R6.far' (rd_grown _ B 0 _) (by omega)).far' (rd_grown _ B 1 _) (by omega)
      · exact (B6.setCell (p := ⟨B, 0, none⟩) (by simp; omega) _).setCell (p := ⟨B, 1, none⟩) (by simp; omega) _
    · have d0 : (r == 0) = false := by simpa using c0
      go_wp2_with fail
      go_meet
      exact ⟨t, ra, rc, ss, p3 + 1, by omega, by omega, F5.out⟩
  case rest =>
  revert wc
  intro w7 hcut
  obtain ⟨t', ra', rc', ss', p', hp0, hp1, F7⟩ := hcut
  clear F5 HTB
  go_wp2_with fail
  refine (pick_any b a n' c' p' 10 w7 F7.out.rd (by omega) (by omega) (by omega) (by omega)).mono ?_
  rintro e w8 ⟨r8, rfl, r80, r81, s8, g8⟩
  have F8 : Hid (FS w w8 b B a n' c' t' ra' rc' ss' (p' + 1)) := F7.out.pick hbw hbB s8 g8
  clear s8 g8 F7
  go_upto_if 22 with fail
  go_cut [5] (fun v wx => ∃ (wd' p9 : Int), v = .int .i64 wd' ∧ 0 ≤ wd' ∧ wd' ≤ 9 ∧ Hid (FS w wx b B a n' c' t' ra' rc' ss' p9))
  case first =>
    by_cases c0 : r8 = 0
    · subst c0
      go_wp2_with fail
      refine (pick_any b a n' c' (p' + 1) 10 w8 F8.out.rd (by omega) (by omega) (by omega) (by omega)).mono ?_
      rintro e w9 ⟨r9, rfl, r90, r91, s9, g9⟩
      have F9 := F8.out.pick hbw hbB s9 g9
      clear s9 g9
      go_wp2_with fail
      go_meet
      exact ⟨r9, _, rfl, by omega, by omega, F9⟩
    · have d0 : (r8 == 0) = false := by simpa using c0
      go_wp2_with fail
      go_meet
      exact ⟨wd, _, rfl, by omega, by omega, F8.out⟩
  case rest =>
  revert wc
  intro w9 hcut
  obtain ⟨wd', p9, rfl, hd0, hd1, F9⟩ := hcut
  clear F8
  obtain ⟨x0, f0⟩ := F9.out.cB 0 _ rfl
  obtain ⟨x1, f1⟩ := F9.out.cB 1 _ rfl
  obtain ⟨y0, q0⟩ := F9.out.res 0 _ rfl
  obtain ⟨y1, q1⟩ := F9.out.res 1 _ rfl
  go_wp2
  refine bodyPost_ret (v := .tuple #[.agg #[.string t', .slice ra' ss'.length rc'], .int .i64 wd']) (by simp [results, Tryd.results15, go_sem, *]) rfl ?_
  have hlt : w.heap.size < w.heap.size + 1 := Nat.lt_succ_self _
  refine ⟨⟨t', ra', rc', ss', wd', rfl, F9.out.bd, hd0, hd1, ?_⟩, ?_⟩
  · exact (ownsRow_setCell_below (ownsRow_setCell_below F9.out.own (a := ⟨w.heap.size, 0, none⟩) hlt _) (a := ⟨w.heap.size, 1, none⟩) hlt _).mono (by omega)
  · exact (F9.out.bel.setCell (p := ⟨w.heap.size, 0, none⟩) (Nat.le_refl _) _).setCell (p := ⟨w.heap.size, 1, none⟩) (Nat.le_refl _) _

/-- A text that was bent: not much longer. -/
structure Bent (w w' : World) (e : Ending) (b : Nat) (a : Option Addr) (n c : Nat) (p : Int) (m : Nat) : Prop where
  ex : ∃ T : ByteArray, e = .returned (.string T) ∧ T.size ≤ m + 4
  dr : Drawn w w' b a n c p 3

/-- The texts that may come in. -/
def bendL : Array Value := #[.string ⟨#[32]⟩, .string ⟨#[10]⟩, .string ⟨#[0]⟩, .string ⟨#[45]⟩, .string ⟨#[48]⟩, .string ⟨#[120]⟩, .string ⟨#[37, 122, 122]⟩, .string ⟨#[37, 52]⟩]

theorem bendL_at (k : Nat) (h : k < 8) : ∃ X : ByteArray, bendL[k]? = some (.string X) ∧ X.size ≤ 4 := by
  match k, h with
  | 0, _ => exact ⟨_, rfl, by decide⟩
  | 1, _ => exact ⟨_, rfl, by decide⟩
  | 2, _ => exact ⟨_, rfl, by decide⟩
  | 3, _ => exact ⟨_, rfl, by decide⟩
  | 4, _ => exact ⟨_, rfl, by decide⟩
  | 5, _ => exact ⟨_, rfl, by decide⟩
  | 6, _ => exact ⟨_, rfl, by decide⟩
  | 7, _ => exact ⟨_, rfl, by decide⟩

theorem bend_cell (W : World) (k : Nat) (h : k < 8) : ∃ X : ByteArray, (W.alloc (.cells #[.string ⟨#[32]⟩, .string ⟨#[10]⟩, .string ⟨#[0]⟩, .string ⟨#[45]⟩, .string ⟨#[48]⟩, .string ⟨#[120]⟩, .string ⟨#[37, 122, 122]⟩, .string ⟨#[37, 52]⟩] 9)).cell? ⟨W.heap.size, k, none⟩ = some (.string X) ∧ X.size ≤ 4 := by
  obtain ⟨X, h1, h2⟩ := bendL_at k h
  exact ⟨X, by rw [World.cell?_alloc_at _ _ _ _ rfl]; exact h1, h2⟩

set_option maxRecDepth 20000 in
set_option maxHeartbeats 8000000 in
theorem l1Bend_any (b : Nat) (a : Option Addr) (n c : Nat) (p : Int) (s : ByteArray) (w : World) (h : RdSt w b a n c p) (hp : 0 ≤ p) (hp2 : p ≤ 800000) (hs : s.size ≤ 9000) :
    Calls Tryd.prog 48 #[.pointer (some ⟨b, 0, none⟩), .string s] w fun e w' => Bent w w' e b a n c p s.size := by
  have hbl := h.lt
  have HS : Hid _ := h
  clear h
  go_enter Tryd.func48, Tryd.ntmps48
  go_wp2_with fail
  refine (pick_any b a n c p ((s.size : Int) + 1) w HS.out hp (by omega) (by omega) (by omega)).mono ?_
  rintro e w1 ⟨i', rfl, i0, i1, s1, g1⟩
  obtain ⟨i, rfl⟩ : ∃ i : Nat, i' = i := ⟨i'.toNat, by omega⟩
  have H1 : Hid _ := And.intro s1 g1
  clear s1 g1 HS
  go_wp2_with fail
  refine (pick_any b a n c (p + 1) 4 w1 H1.out.1 (by omega) (by omega) (by omega) (by omega)).mono ?_
  rintro e w2 ⟨r, rfl, r0, r1, s2, g2⟩
  have H2 : Hid (RdSt w2 b a n c (p + 1 + 1) ∧ w.grownBy w2 (some b)) := ⟨s2, H1.out.2.trans g2⟩
  clear s2 g2 H1
  have hi : i ≤ s.size := by omega
  by_cases c0 : r = 0
  · subst c0
    go_wp2
    go_ret
    exact ⟨⟨_, rfl, by simp; omega⟩, ⟨_, H2.out.1, by omega, by omega⟩, H2.out.2⟩
  · have d0 : (r == 0) = false := by simpa using c0
    by_cases c1 : r = 1
    · subst c1
      have hAl : Below w2.heap.size w2 (w2.alloc (.cells #[.string ⟨#[32]⟩, .string ⟨#[10]⟩, .string ⟨#[0]⟩, .string ⟨#[45]⟩, .string ⟨#[48]⟩, .string ⟨#[120]⟩, .string ⟨#[37, 122, 122]⟩, .string ⟨#[37, 52]⟩] 9)) := (Below.refl _ _).alloc (Nat.le_refl _) _
      have sD : Hid _ := (H2.out.1.below (Below.refl w2.heap.size w2).drew)
      have sA : Hid _ := (H2.out.1.below hAl.drew)
      go_upto_region 6 with fail
      go_region_with (first
        | (go_at_call 40; refine (pick_any b a n c (p + 1 + 1) 8 w2.drew sD.out (by omega) (by omega) (by omega) (by omega)).mono ?_; rintro e w3 ⟨k', rfl, k0, k1, s3, g3⟩; obtain ⟨k, rfl⟩ : ∃ k : Nat, k' = k := ⟨k'.toNat, by omega⟩; obtain ⟨X, hX, hXs⟩ := bend_cell w3 k (by omega); have G3 : Hid (RdSt w3 b a n c (p + 1 + 1 + 1) ∧ w.grownBy w3 (some b)) := ⟨s3, (H2.out.2.trans (grown_below (some b) (Below.refl w2.heap.size w2).drew)).trans g3⟩)
        | (go_at_call 40; refine (pick_any b a n c (p + 1 + 1) 8 _ sA.out (by omega) (by omega) (by omega) (by omega)).mono ?_; rintro e w3 ⟨k', rfl, k0, k1, s3, g3⟩; obtain ⟨k, rfl⟩ : ∃ k : Nat, k' = k := ⟨k'.toNat, by omega⟩; obtain ⟨X, hX', hXs⟩ := bend_cell w2 k (by omega); have hX := (g3.cell_far ⟨w2.heap.size, k, none⟩ (by simp) (sne H2.out.1.lt)).trans hX'; have G3 : Hid (RdSt w3 b a n c (p + 1 + 1 + 1) ∧ w.grownBy w3 (some b)) := ⟨s3, (H2.out.2.trans (grown_below (some b) hAl.drew)).trans g3⟩))
      all_goals clear hX
      all_goals go_wp2
      all_goals go_ret
      all_goals
        refine ⟨⟨_, rfl, by simp [ByteArray.size_append]; omega⟩, ⟨p + 1 + 1 + 1, ?_, by omega, by omega⟩, ?_⟩
        · first | exact G3.out.1 | exact G3.out.1.below ((Below.refl _ _).alloc (Nat.le_refl _) _)
        · first | exact G3.out.2 | exact G3.out.2.trans (World.grownBy_alloc _ _ _)
    · have d1 : (r == 1) = false := by simpa using c1
      by_cases hlt : i < s.size
      · have dl : decide ((i : Int) < (s.size : Int)) = true := decide_eq_true (by omega)
        by_cases c2 : r = 2
        · subst c2
          go_upto_region 9 with fail
          go_quiet (fail)
          go_wp2
          go_ret
          exact ⟨⟨_, rfl, by simp [ByteArray.size_append]; omega⟩, ⟨_, H2.out.1.drewN _, by omega, by omega⟩, grown_drewN H2.out.2 _⟩
        · have d2 : (r == 2) = false := by simpa using c2
          have sD : Hid _ := (H2.out.1.below (Below.refl w2.heap.size w2).drew)
          have hwp : IntKind.i64.wrap ((i : Int) + 1) = (i : Int) + 1 := dr_wrap (by omega) (by omega)
          have hip : (i : Int) + 1 ≤ (s.size : Int) := by omega
          have hip0 : (0 : Int) ≤ (i : Int) + 1 := by omega
          have hipn : ((i : Int) + 1).toNat = i + 1 := by omega
          go_upto_region 11 with fail
          go_region_with (first
            | (go_at_call 40; refine (pick_any b a n c (p + 1 + 1) 256 w2.drew sD.out (by omega) (by omega) (by omega) (by omega)).mono ?_; rintro e w3 ⟨k', rfl, k0, k1, s3, g3⟩; have hu8 : IntKind.u8.wrap k' = k' := u8_wrap k0 k1; have hcv := run_convert_bytes_arg (P := Tryd.prog) (w3.alloc (.cells #[.int .u8 k'] 5)) 39 5 Tryd.underlying39 Tryd.underlying5 w3.heap.size 0 1 1 [k'] rfl (fun i hi => by obtain rfl : i = 0 := (by omega); simp) 9 Tryd.underlying9; have hss := strNums_size [k']; have G3 : Hid (RdSt w3 b a n c (p + 1 + 1 + 1) ∧ w.grownBy w3 (some b)) := ⟨s3, (H2.out.2.trans (grown_below (some b) (Below.refl w2.heap.size w2).drew)).trans g3⟩))
          all_goals clear hcv
          all_goals go_wp2
          all_goals go_ret
          all_goals
            refine ⟨⟨_, rfl, by simp [ByteArray.size_append, strNums_size]; omega⟩, ⟨p + 1 + 1 + 1, ?_, by omega, by omega⟩, ?_⟩
            · first | exact G3.out.1 | exact G3.out.1.below ((Below.refl _ _).alloc (Nat.le_refl _) _)
            · first | exact G3.out.2 | exact G3.out.2.trans (World.grownBy_alloc _ _ _)
      · have dl : decide ((i : Int) < (s.size : Int)) = false := decide_eq_false (by omega)
        by_cases c2 : r = 2
        · subst c2
          go_wp2
          go_ret
          exact ⟨⟨_, rfl, by omega⟩, ⟨_, H2.out.1, by omega, by omega⟩, H2.out.2⟩
        · have d2 : (r == 2) = false := by simpa using c2
          go_wp2
          go_ret
          exact ⟨⟨_, rfl, by omega⟩, ⟨_, H2.out.1, by omega, by omega⟩, H2.out.2⟩
end Go.Proofs.YtdecihmplkgfkaaDoor
