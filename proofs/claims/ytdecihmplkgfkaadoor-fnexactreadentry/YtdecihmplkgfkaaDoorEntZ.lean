/-
  laws.FnExactReadEntry: the walk.
-/
import Derived.Test.YtdecihmplkgfkaaDoorEntY
import Derived.Test.YtdecihmplkgfkaaDoorEntM
namespace Go.Proofs.YtdecihmplkgfkaaDoor
namespace ExactReadEntry
open Go.ChangeShapes Go.WideShapes Go.ChangeAt Go.RowKit

/-- An entry's box. -/
abbrev eB (r : ER) (a : Option Addr) (c : Nat) : List Value := [.int .i64 r.k, .string r.sum, .string r.name, .int .i64 r.n, .string r.t, .slice a r.ss.length c]

theorem rdE_len (s : ByteArray) (wd : Int) : (rdE s wd).ss.length ≤ 255 := by
  unfold rdE
  split
  · exact Nat.zero_le _
  · exact e_th_len s wd

set_option maxRecDepth 20000 in
set_option maxHeartbeats 4000000 in
theorem walk (s : ByteArray) (wd : Int) (w : World) (hs : s.size ≤ maxLen) (he : Env w) :
    Calls Tryd.prog 4 #[.string s, .int .i64 wd] w fun e w' => e = .returned (.bool true) ∧ Below w.heap.size w w' := by
  unfold maxLen at hs
  by_cases hbig : (1048576 : Int) < s.size
  · go_enter Tryd.func4, Tryd.ntmps4
    go_wp2
    go_ret
    exact ⟨rfl, Below.refl _ _⟩
  · have hsz : s.size ≤ 1048576 := by omega
    have hle := rdE_len s wd
    have hS := fun W (_ : Env W) => sReadE_any s wd W hsz
    have hI := fun W (h : Env W) => iReadE_any s wd W hsz h
    unfold ReadEPost at hS hI
    generalize rdE s wd = r at *
    have HS : Hid _ := hS
    have HI : Hid _ := hI
    have HE : Hid _ := he
    clear hS hI he
    have hbb : (r.ok != r.ok) = false := by cases r.ok <;> rfl
    go_enter Tryd.func4, Tryd.ntmps4
    go_wp2_with fail
    refine (HS.out w HE.out).mono ?_
    rintro e w1 ⟨v0, rfl, ho0, hb1⟩
    obtain ⟨a0, c0, hv0, hr0⟩ := own_form ho0
    subst hv0
    clear ho0
    obtain ⟨W1, hW1⟩ : ∃ W, W = w1.alloc (.cells (entV r.k r.sum r.name r.n r.t a0 r.ss.length c0) 31) := ⟨_, rfl⟩
    have h11 : Below w1.heap.size w1 W1 := by rw [hW1]; exact (Below.refl _ _).alloc (Nat.le_refl _) _
    have X1 : CellsAt W1 w1.heap.size (eB r a0 c0) := by rw [hW1]; exact CellsAt.new w1 _ _
    have R1 := hr0.below' h11
    have B1 := hb1.trans (h11.mono hb1.size)
    have HW1 : Hid _ := hW1
    clear hW1 h11 hr0 hb1
    go_upto_region 4 with fail
    rw [← HW1.out]
    clear HW1
    have HX1 : Hid _ := X1
    have HR1 : Hid _ := R1
    have HB1 : Hid _ := B1
    clear X1 R1 B1
    go_wp2_with fail
    refine (HI.out W1 (HE.out.below HB1.out)).mono ?_
    rintro e w2 ⟨v1, rfl, ho1, hb2⟩
    obtain ⟨a1, c1, hv1, hr1⟩ := own_form ho1
    subst hv1
    obtain ⟨W2, hW2⟩ : ∃ W, W = w2.alloc (.cells (entV r.k r.sum r.name r.n r.t a1 r.ss.length c1) 31) := ⟨_, rfl⟩
    have h22 : Below w2.heap.size w2 W2 := by rw [hW2]; exact (Below.refl _ _).alloc (Nat.le_refl _) _
    have h12 : Below W1.heap.size W1 W2 := hb2.trans (h22.mono hb2.size)
    have Y2 : Hid (CellsAt W2 w2.heap.size (eB r a1 c1)) := by rw [hW2]; exact CellsAt.new w2 _ _
    have X2 : Hid (CellsAt W2 w1.heap.size (eB r a0 c0)) := CellsAt.below HX1.out h12
    have R2 : Hid (SRow W2 W1.heap.size a0 r.ss) := SRow.below HR1.out h12
    have S2 : Hid (SRow W2 W2.heap.size a1 r.ss) := hr1.below' h22
    have O2 : Hid (W2.ownsRow W1.heap.size 9 1 (.slice a1 r.ss.length c1) r.ss.length (r.ss.map Value.string)) := ho1.kept (grown_below none h22) (Classical.em _)
    have B2 : Hid (Below w.heap.size w W2) := HB1.out.trans (h12.mono HB1.out.size)
    have hlt1 : ∀ k, (Value.slice a1 r.ss.length c1).ownBlock = some k → W1.heap.size ≤ k ∧ k < w2.heap.size := ho1.lt
    have HL1 : Hid _ := hlt1
    have z12 : w1.heap.size < W1.heap.size := CellsAt.lt HX1.out
    have zW2 : W1.heap.size ≤ w2.heap.size := hb2.size
    have zWW2 : W1.heap.size ≤ W2.heap.size := h12.size
    have zw1 : w.heap.size ≤ W1.heap.size := HB1.out.size
    have HW2 : Hid _ := hW2
    clear hW2 h22 h12 ho1 hr1 hb2 HX1 HR1 HB1 hlt1
    go_upto_region 5 with fail
    rw [← HW2.out]
    clear HW2
    obtain ⟨y0, _⟩ := Y2.out 0 _ rfl
    obtain ⟨y1, _⟩ := Y2.out 1 _ rfl
    obtain ⟨y2, _⟩ := Y2.out 2 _ rfl
    obtain ⟨y3, _⟩ := Y2.out 3 _ rfl
    obtain ⟨y4, _⟩ := Y2.out 4 _ rfl
    obtain ⟨y5, _⟩ := Y2.out 5 _ rfl
    obtain ⟨x0, _⟩ := X2.out 0 _ rfl
    obtain ⟨x1, _⟩ := X2.out 1 _ rfl
    obtain ⟨x2, _⟩ := X2.out 2 _ rfl
    obtain ⟨x3, _⟩ := X2.out 3 _ rfl
    obtain ⟨x4, _⟩ := X2.out 4 _ rfl
    obtain ⟨x5, _⟩ := X2.out 5 _ rfl
    go_wp2_with fail
    refine (eqEntry_yes r.k r.sum r.name r.n r.t a1 a0 c1 c0 r.ss W2 S2.out (SRow.mono R2.out zWW2) (by omega)).mono ?_
    rintro e w3 ⟨rfl, hb3⟩
    have X3 : Hid (CellsAt w3 w1.heap.size (eB r a0 c0)) := CellsAt.below X2.out hb3
    have Y3 : Hid (CellsAt w3 w2.heap.size (eB r a1 c1)) := CellsAt.below Y2.out hb3
    have R3 : Hid (SRow w3 W1.heap.size a0 r.ss) := SRow.below R2.out (hb3.mono zWW2)
    have O3 : Hid (w3.ownsRow W1.heap.size 9 1 (.slice a1 r.ss.length c1) r.ss.length (r.ss.map Value.string)) := O2.out.kept (grown_below none hb3) (Classical.em _)
    have B3 : Hid (Below w.heap.size w w3) := B2.out.trans (hb3.mono B2.out.size)
    clear X2 Y2 R2 S2 O2 B2 hb3 y0 y1 y2 y3 y4 y5 x0 x1 x2 x3 x4 x5
    obtain ⟨y0, _⟩ := Y3.out 0 _ rfl
    obtain ⟨y1, _⟩ := Y3.out 1 _ rfl
    obtain ⟨y2, _⟩ := Y3.out 2 _ rfl
    obtain ⟨y3, _⟩ := Y3.out 3 _ rfl
    obtain ⟨y4, _⟩ := Y3.out 4 _ rfl
    obtain ⟨y5, _⟩ := Y3.out 5 _ rfl
    go_wp2_with fail
    refine (markEntry_any r.k r.sum r.name r.n r.t a1 r.ss.length c1 1 W1.heap.size _ w3 O3.out (by omega) (by omega)).mono ?_
    rintro e w4 ⟨rfl, ho4, hg4⟩
    have hY : ∀ B l (v : Value), CellsAt w3 B (v :: l) → (B < W1.heap.size ∨ B = w2.heap.size) → CellsAt w4 B (v :: l) := by
      intro B l v hc hB j x hx
      have hne : some B ≠ (Value.slice a1 r.ss.length c1).ownBlock := fun e => by have := HL1.out B e.symm; omega
      exact ⟨(hg4.cell_far ⟨B, j, none⟩ hc.lt hne).trans (hc j x hx).1, (hg4.frozen_far ⟨B, j, none⟩ hc.lt hne).trans (hc j x hx).2⟩
    have X4 : Hid (CellsAt w4 w1.heap.size (eB r a0 c0)) := hY _ _ _ X3.out (.inl z12)
    have Y4 : Hid (CellsAt w4 w2.heap.size (eB r a1 c1)) := hY _ _ _ Y3.out (.inr rfl)
    have zz3 : W1.heap.size ≤ w3.heap.size := Nat.le_trans zW2 (Nat.le_of_lt Y3.out.lt)
    have g34 : Below W1.heap.size w3 w4 := (Below.refl _ _).grown hg4 zz3 (fun k hk => (HL1.out k hk).1)
    have B4 : Hid (Below w.heap.size w w4) := B3.out.trans (g34.mono zw1)
    have R4 : Hid (SRow w4 W1.heap.size a0 r.ss) := SRow.below R3.out g34
    have z34 : w3.heap.size ≤ w4.heap.size := hg4.size
    have M4 : Hid (SRow w4 w4.heap.size a1 (marks 1 r.ss.length)) := by
      obtain ⟨a4, c4, hv4, hr4⟩ := own_form (ss := marks 1 r.ss.length) (by rw [marks_length]; exact ho4)
      rw [marks_length] at hv4
      cases hv4
      exact hr4
    clear hY ho4 hg4 g34 X3 Y3 R3 O3 B3 y0 y1 y2 y3 y4 y5
    obtain ⟨y0, _⟩ := Y4.out 0 _ rfl
    obtain ⟨y1, _⟩ := Y4.out 1 _ rfl
    obtain ⟨y2, _⟩ := Y4.out 2 _ rfl
    obtain ⟨y3, _⟩ := Y4.out 3 _ rfl
    obtain ⟨y4, _⟩ := Y4.out 4 _ rfl
    obtain ⟨y5, _⟩ := Y4.out 5 _ rfl
    go_wp2_with fail
    refine (heldEntry_any r.k r.sum r.name r.n r.t a1 r.ss.length c1 1 w4 M4.out (by omega) (by omega)).mono ?_
    rintro e w5 ⟨rfl, hb5⟩
    have hq0 : ¬ ((1 : Int) + (r.ss.length : Int) < 0) := by omega
    have X5 : Hid (CellsAt w5 w1.heap.size (eB r a0 c0)) := CellsAt.below X4.out hb5
    have Y5 : Hid (CellsAt w5 w2.heap.size (eB r a1 c1)) := CellsAt.below Y4.out hb5
    have zW4 : W1.heap.size ≤ w4.heap.size := by omega
    have R5 : Hid (SRow w5 W1.heap.size a0 r.ss) := SRow.below R4.out (hb5.mono zW4)
    have M5 : Hid (SRow w5 w5.heap.size a1 (marks 1 r.ss.length)) := SRow.below' M4.out hb5
    have B5 : Hid (Below w.heap.size w w5) := B4.out.trans (hb5.mono B4.out.size)
    have zW5 : W1.heap.size ≤ w5.heap.size := Nat.le_trans zW4 hb5.size
    clear X4 Y4 R4 M4 B4 hb5 y0 y1 y2 y3 y4 y5
    go_wp2_with fail
    refine (HI.out w5 (HE.out.below B5.out)).mono ?_
    rintro e w6 ⟨v6, rfl, ho6, hb6⟩
    obtain ⟨a6, c6, hv6, hr6⟩ := own_form ho6
    subst hv6
    obtain ⟨W6, hW6⟩ : ∃ W, W = w6.alloc (.cells (entV r.k r.sum r.name r.n r.t a6 r.ss.length c6) 31) := ⟨_, rfl⟩
    have h66 : Below w6.heap.size w6 W6 := by rw [hW6]; exact (Below.refl _ _).alloc (Nat.le_refl _) _
    have h56 : Below w5.heap.size w5 W6 := hb6.trans (h66.mono hb6.size)
    have V6 : Hid (CellsAt W6 w6.heap.size (eB r a6 c6)) := by rw [hW6]; exact CellsAt.new w6 _ _
    have X6 : Hid (CellsAt W6 w1.heap.size (eB r a0 c0)) := CellsAt.below X5.out h56
    have Y6 : Hid (CellsAt W6 w2.heap.size (eB r a1 c1)) := CellsAt.below Y5.out h56
    have R6 : Hid (SRow W6 W1.heap.size a0 r.ss) := SRow.below R5.out (h56.mono zW5)
    have M6 : Hid (SRow W6 W6.heap.size a1 (marks 1 r.ss.length)) := SRow.below' M5.out h56
    have S6 : Hid (SRow W6 W6.heap.size a6 r.ss) := hr6.below' h66
    have B6 : Hid (Below w.heap.size w W6) := B5.out.trans (h56.mono B5.out.size)
    have zW6 : W1.heap.size ≤ W6.heap.size := Nat.le_trans zW5 h56.size
    have HW6 : Hid _ := hW6
    clear hW6 h66 h56 ho6 hr6 hb6 X5 Y5 R5 M5 B5
    go_upto_region 16 with fail
    rw [← HW6.out]
    clear HW6
    obtain ⟨y0, _⟩ := V6.out 0 _ rfl
    obtain ⟨y1, _⟩ := V6.out 1 _ rfl
    obtain ⟨y2, _⟩ := V6.out 2 _ rfl
    obtain ⟨y3, _⟩ := V6.out 3 _ rfl
    obtain ⟨y4, _⟩ := V6.out 4 _ rfl
    obtain ⟨y5, _⟩ := V6.out 5 _ rfl
    obtain ⟨x0, _⟩ := X6.out 0 _ rfl
    obtain ⟨x1, _⟩ := X6.out 1 _ rfl
    obtain ⟨x2, _⟩ := X6.out 2 _ rfl
    obtain ⟨x3, _⟩ := X6.out 3 _ rfl
    obtain ⟨x4, _⟩ := X6.out 4 _ rfl
    obtain ⟨x5, _⟩ := X6.out 5 _ rfl
    go_wp2_with fail
    refine (eqEntry_yes r.k r.sum r.name r.n r.t a6 a0 c6 c0 r.ss W6 S6.out (SRow.mono R6.out zW6) (by omega)).mono ?_
    rintro e w7 ⟨rfl, hb7⟩
    have Y7 : Hid (CellsAt w7 w2.heap.size (eB r a1 c1)) := CellsAt.below Y6.out hb7
    have M7 : Hid (SRow w7 w7.heap.size a1 (marks 1 r.ss.length)) := SRow.below' M6.out hb7
    have B7 : Hid (Below w.heap.size w w7) := B6.out.trans (hb7.mono B6.out.size)
    clear V6 X6 Y6 R6 M6 S6 B6 hb7 y0 y1 y2 y3 y4 y5 x0 x1 x2 x3 x4 x5
    obtain ⟨y0, _⟩ := Y7.out 0 _ rfl
    obtain ⟨y1, _⟩ := Y7.out 1 _ rfl
    obtain ⟨y2, _⟩ := Y7.out 2 _ rfl
    obtain ⟨y3, _⟩ := Y7.out 3 _ rfl
    obtain ⟨y4, _⟩ := Y7.out 4 _ rfl
    obtain ⟨y5, _⟩ := Y7.out 5 _ rfl
    go_wp2_with fail
    refine (heldEntry_any r.k r.sum r.name r.n r.t a1 r.ss.length c1 1 w7 M7.out (by omega) (by omega)).mono ?_
    rintro e w8 ⟨rfl, hb8⟩
    clear y0 y1 y2 y3 y4 y5
    go_wp2
    go_ret
    exact ⟨rfl, B7.out.trans (hb8.mono B7.out.size)⟩
end ExactReadEntry
end Go.Proofs.YtdecihmplkgfkaaDoor
