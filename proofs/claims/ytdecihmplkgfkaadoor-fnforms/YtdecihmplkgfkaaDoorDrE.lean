/-
  spec.DrawFormEntry, DrawReadEntry.
-/
import Derived.Test.YtdecihmplkgfkaaDoorDrZ
import Derived.Test.YtdecihmplkgfkaaDoorEntL
namespace Go.Proofs.YtdecihmplkgfkaaDoor
open Go.ChangeShapes Go.WideShapes Go.ChangeAt Go.RowKit

/-- While an entry is drawn by DrawFormEntry: the reader at b, the entry's box at B, the result's box at w's end. -/
structure FX (w wx : World) (b B : Nat) (a : Option Addr) (n c : Nat) (k : Int) (sum name : ByteArray) (m : Int) (t : ByteArray) (ra : Option Addr) (rc : Nat) (ss : List ByteArray) (p : Int) : Prop where
  cB : CellsAt wx B [.int .i64 k, .string sum, .string name, .int .i64 m, .string t, .slice ra ss.length rc]
  own : wx.ownsRow (w.heap.size + 1) 9 1 (.slice ra ss.length rc) ss.length (ss.map Value.string)
  far : ∀ j, (Value.slice ra ss.length rc).ownBlock = some j → j ≠ b ∧ j ≠ B
  rd : RdSt wx b a n c p
  res : CellsAt wx w.heap.size [.int .i64 0, .string ⟨#[]⟩, .string ⟨#[]⟩, .int .i64 0, .string ⟨#[]⟩, .slice none 0 0]
  bel : Below w.heap.size w wx

theorem FX.pick {w wx wy : World} {b B : Nat} {a : Option Addr} {n c : Nat} {k : Int} {sum name : ByteArray} {m : Int} {t : ByteArray} {ra : Option Addr} {rc : Nat} {ss : List ByteArray} {p p' : Int} (h : FX w wx b B a n c k sum name m t ra rc ss p) (hb : w.heap.size < b) (hB : b < B) (hr : RdSt wy b a n c p') (hg : wx.grownBy wy (some b)) : FX w wy b B a n c k sum name m t ra rc ss p' :=
  ⟨h.cB.far hg hB, h.own.kept hg (by
      cases hv : (Value.slice ra ss.length rc).ownBlock with
      | none => exact .inl rfl
      | some j => exact .inr (fun e => (h.far j hv).1 (Option.some.inj e))), h.far, hr, h.res.far' hg (by omega), h.bel.grown hg h.bel.size (fun k e => by cases e; omega)⟩

/-- What DrawFormEntry gives. -/
structure FormEntDrawn (w w' : World) (e : Ending) : Prop where
  ex : ∃ (k : Int) (sum name : ByteArray) (m : Int) (t : ByteArray) (ra : Option Addr) (rc : Nat) (ss : List ByteArray) (wd : Int), e = .returned (.tuple #[.agg #[.int .i64 k, .string sum, .string name, .int .i64 m, .string t, .slice ra ss.length rc], .int .i64 wd]) ∧ SmallE sum name t ss 9 41 2001 31 ∧ 0 ≤ wd ∧ wd ≤ 9 ∧ w'.ownsRow w.heap.size 9 1 (.slice ra ss.length rc) ss.length (ss.map Value.string)
  bel : Below w.heap.size w w'

set_option maxRecDepth 20000 in
set_option maxHeartbeats 8000000 in
theorem drawFormEntry_any (a : Option Addr) (n c : Nat) (w : World) (hn : n ≤ maxLen) (hb : n = 0 ∨ ∃ q off, a = some ⟨q, off, none⟩ ∧ q < w.heap.size ∧ ∀ j, j < n → ∃ x : Int, w.cell? ⟨q, off + j, none⟩ = some (.int .u8 x) ∧ 0 ≤ x ∧ x < 256) (hc : n ≤ c) :
    Calls Tryd.prog 16 #[.slice a n c] w fun e w' => FormEntDrawn w w' e := by
  obtain ⟨W0, hW0⟩ : ∃ W0, W0 = w.alloc (.cells #[.int .i64 0, .string ⟨#[]⟩, .string ⟨#[]⟩, .int .i64 0, .string ⟨#[]⟩, .slice none 0 0] 31) := ⟨_, rfl⟩
  have h00 : Below w.heap.size w W0 := by rw [hW0]; exact (Below.refl _ _).alloc (Nat.le_refl _) _
  have T0 : CellsAt W0 w.heap.size [.int .i64 0, .string ⟨#[]⟩, .string ⟨#[]⟩, .int .i64 0, .string ⟨#[]⟩, .slice none 0 0] := by rw [hW0]; exact CellsAt.new w _ _
  have hb0 : n = 0 ∨ ∃ q off, a = some ⟨q, off, none⟩ ∧ q < W0.heap.size ∧ ∀ j, j < n → ∃ x : Int, W0.cell? ⟨q, off + j, none⟩ = some (.int .u8 x) ∧ 0 ≤ x ∧ x < 256 := by
    rcases hb with h | ⟨q, off, ha, hq, hx⟩
    · exact .inl h
    · refine .inr ⟨q, off, ha, Nat.lt_of_lt_of_le hq h00.size, fun j hj => ?_⟩
      obtain ⟨x, h1, h2⟩ := hx j hj
      exact ⟨x, (h00.cell (p := ⟨q, off + j, none⟩) hq).trans h1, h2⟩
  have hz0 : w.heap.size < W0.heap.size := T0.lt
  have HW0 : Hid _ := hW0
  have HC : Hid _ := And.intro T0 h00
  have HB : Hid _ := hb0
  clear hW0 T0 h00 hb0 hb
  go_enter Tryd.func16, Tryd.ntmps16
  go_upto_region 1 with fail
  rw [← HW0.out]
  clear HW0
  go_wp2_with fail
  refine (l1Open_any a n c W0 hn HB.out hc).mono ?_
  rintro e w1 ⟨n', c', rfl, s1, hb1⟩
  have R1 := HC.out.1.below hb1
  have B1 := HC.out.2.trans (hb1.mono HC.out.2.size)
  obtain ⟨b, hbb⟩ : ∃ b, b = W0.heap.size := ⟨_, rfl⟩
  rw [← hbb] at s1 ⊢
  have hbw : w.heap.size < b := by omega
  have hb1l := s1.lt
  clear hbb HB HC hb1
  go_wp2_with fail
  refine (drawWidth_any b a n' c' 0 w1 s1 (by omega) (by omega)).mono ?_
  rintro e w2 ⟨wd, rfl, ⟨hw1, hw2⟩, s2, g2⟩
  have R2 := R1.far' g2 (by omega)
  have B2 : Below w.heap.size w w2 := B1.grown g2 B1.size (fun k e => by cases e; omega)
  clear s1 g2 R1 B1
  go_wp2_with fail
  refine (l3Draw_any b a n' c' (0 + 1) wd w2 s2 (by omega) (by omega) hw1 hw2).mono ?_
  rintro e w3 ⟨⟨k, sum, name, m, t, ra, rc, ss, rfl, hS, ho⟩, ⟨p3, s3, l3, u3⟩, g3⟩
  obtain ⟨W4, hW4⟩ : ∃ W4, W4 = w3.alloc (.cells #[.int .i64 k, .string sum, .string name, .int .i64 m, .string t, .slice ra ss.length rc] 31) := ⟨_, rfl⟩
  have h34 : Below w3.heap.size w3 W4 := by rw [hW4]; exact (Below.refl _ _).alloc (Nat.le_refl _) _
  have hz23 := g3.size
  have hz2 := R2.lt
  have F4 : Hid (FX w W4 b w3.heap.size a n' c' k sum name m t ra rc ss p3) := by
    refine ⟨by rw [hW4]; exact CellsAt.new w3 _ _, (ho.kept (grown_below none h34) (Classical.em _)).mono (by omega), fun k hk => ?_, s3.below h34, (R2.far' g3 (by omega)).below h34, ?_⟩
    · have := ho.lt k hk
      have := s2.lt
      omega
    · exact (B2.grown g3 B2.size (fun k e => by cases e; omega)).trans (h34.mono (by have := B2.size; omega))
  obtain ⟨B, hB⟩ : ∃ B, B = w3.heap.size := ⟨_, rfl⟩
  rw [← hB] at F4
  have hbB : b < B := by have := s2.lt; omega
  have HW4 : Hid _ := hW4
  have HB : Hid _ := hB
  have HTB : Hid _ := hS
  clear hW4 hB h34 ho s2 s3 g3 R2 B2 hS
  go_upto_region 4 with fail
  rw [← HW4.out, ← HB.out]
  clear HW4 HB
  go_wp2_with fail
  refine (pick_any b a n' c' p3 3 W4 F4.out.rd (by omega) (by omega) (by omega) (by omega)).mono ?_
  rintro e w5 ⟨r, rfl, r0, r1, s5, g5⟩
  have F5 : Hid (FX w w5 b B a n' c' k sum name m t ra rc ss (p3 + 1)) := F4.out.pick hbw hbB s5 g5
  clear s5 g5 F4
  go_upto_if 16 with fail
  go_cut [] (fun wx => ∃ (k' : Int) (sum' name' : ByteArray) (m' : Int) (t' : ByteArray) (ra' : Option Addr) (rc' : Nat) (ss' : List ByteArray) (p' : Int), 0 ≤ p' ∧ p' ≤ 200 ∧ Hid (SmallE sum' name' t' ss' 9 41 2001 31) ∧ Hid (FX w wx b B a n' c' k' sum' name' m' t' ra' rc' ss' p'))
  case first =>
    by_cases c0 : r = 0
    · subst c0
      obtain ⟨x0, f0⟩ := F5.out.cB 0 _ rfl
      obtain ⟨x1, f1⟩ := F5.out.cB 1 _ rfl
      obtain ⟨x2, f2⟩ := F5.out.cB 2 _ rfl
      obtain ⟨x3, f3⟩ := F5.out.cB 3 _ rfl
      obtain ⟨x4, f4⟩ := F5.out.cB 4 _ rfl
      obtain ⟨x5, f5⟩ := F5.out.cB 5 _ rfl
      have hB5 : B < w5.heap.size := F5.out.cB.lt
      have hw5 := F5.out.res.lt
      go_wp2_with fail
      refine (l3Spoil_any b (w.heap.size + 1) a n' c' (p3 + 1) k sum name m t ra rc ss w5 F5.out.rd (by omega) (by omega) F5.out.own (fun j hj => (F5.out.far j hj).1) (by omega) HTB.out).mono ?_
      rintro e w6 ⟨⟨k', sum', name', m', t', ra', rc', ss', rfl, hS', ho', hof⟩, ⟨p6, s6, l6, u6⟩, g6⟩
      have X6 := F5.out.cB.far g6 hbB
      have R6 := F5.out.res.far' g6 (by omega)
      have B6 : Below w.heap.size w w6 := F5.out.bel.grown g6 F5.out.bel.size (fun k e => by cases e; omega)
      have hfar' : ∀ j, (Value.slice ra' ss'.length rc').ownBlock = some j → j ≠ b ∧ j ≠ B := fun j hj => by
        rcases hof j hj with h | h
        · exact F5.out.far j h
        · omega
      clear x0 f0 x1 f1 x2 f2 x3 f3 x4 f4 x5 f5
      obtain ⟨x0, f0⟩ := X6 0 _ rfl
      obtain ⟨x1, f1⟩ := X6 1 _ rfl
      obtain ⟨x2, f2⟩ := X6 2 _ rfl
      obtain ⟨x3, f3⟩ := X6 3 _ rfl
      obtain ⟨x4, f4⟩ := X6 4 _ rfl
      obtain ⟨x5, f5⟩ := X6 5 _ rfl
      go_wp2_with fail
      go_meet
      have hne : (Value.slice ra' ss'.length rc').ownBlock = none ∨ (Value.slice ra' ss'.length rc').ownBlock ≠ some B := by
        cases hv : (Value.slice ra' ss'.length rc').ownBlock with
        | none => exact .inl rfl
        | some j => exact .inr (fun e => (hfar' j hv).2 (Option.some.inj e))
      have o6 := (((((ho'.kept (rd_grown _ B 0 (.int .i64 k')) hne).kept (rd_grown _ B 1 (.string sum')) hne).kept (rd_grown _ B 2 (.string name')) hne).kept (rd_grown _ B 3 (.int .i64 m')) hne).kept (rd_grown _ B 4 (.string t')) hne).kept (rd_grown _ B 5 (.slice ra' ss'.length rc')) hne
      refine ⟨k', sum', name', m', t', ra', rc', ss', p6, by omega, by omega, hS', (((((X6.set 0 _).set 1 _).set 2 _).set 3 _).set 4 _).set 5 _, o6, hfar', ?_, ?_, ?_⟩
      · exact (((((s6.grown (rd_grown _ B 0 _) hbB).grown (rd_grown _ B 1 _) hbB).grown (rd_grown _ B 2 _) hbB).grown (rd_grown _ B 3 _) hbB).grown (rd_grown _ B 4 _) hbB).grown (rd_grown _ B 5 _) hbB
      · have hwB : B ≠ w.heap.size := by omega
        exact (((((R6.far' (rd_grown _ B 0 _) hwB).far' (rd_grown _ B 1 _) hwB).far' (rd_grown _ B 2 _) hwB).far' (rd_grown _ B 3 _) hwB).far' (rd_grown _ B 4 _) hwB).far' (rd_grown _ B 5 _) hwB
      · have hwB : w.heap.size ≤ B := by omega
        exact (((((B6.setCell (p := ⟨B, 0, none⟩) hwB _).setCell (p := ⟨B, 1, none⟩) hwB _).setCell (p := ⟨B, 2, none⟩) hwB _).setCell (p := ⟨B, 3, none⟩) hwB _).setCell (p := ⟨B, 4, none⟩) hwB _).setCell (p := ⟨B, 5, none⟩) hwB _
    · have d0 : (r == 0) = false := by simpa using c0
      go_wp2_with fail
      go_meet
      have hS := HTB.out
      exact ⟨k, sum, name, m, t, ra, rc, ss, p3 + 1, by omega, by omega, ⟨by have := hS.lsum; omega, hS.lname, by have := hS.ltext; omega, by have := hS.lss; omega, hS.lrefs⟩, F5.out⟩
  case rest =>
  revert wc
  intro w7 hcut
  obtain ⟨k', sum', name', m', t', ra', rc', ss', p', hp0, hp1, HS', F7⟩ := hcut
  clear F5 HTB
  go_wp2_with fail
  refine (pick_any b a n' c' p' 16 w7 F7.out.rd (by omega) (by omega) (by omega) (by omega)).mono ?_
  rintro e w8 ⟨r8, rfl, r80, r81, s8, g8⟩
  have F8 : Hid (FX w w8 b B a n' c' k' sum' name' m' t' ra' rc' ss' (p' + 1)) := F7.out.pick hbw hbB s8 g8
  clear s8 g8 F7
  go_upto_if 22 with fail
  go_cut [5] (fun v wx => ∃ (wd' p9 : Int), v = .int .i64 wd' ∧ 0 ≤ wd' ∧ wd' ≤ 9 ∧ Hid (FX w wx b B a n' c' k' sum' name' m' t' ra' rc' ss' p9))
  case first =>
    by_cases c0 : r8 = 0
    · subst c0
      go_wp2_with fail
      refine (pick_any b a n' c' (p' + 1) 10 w8 F8.out.rd (by omega) (by omega) (by omega) (by omega)).mono ?_
      rintro e w9 ⟨r9, rfl, r90, r91, s9, g9⟩
      have F9 := F8.out.pick hbw hbB s9 g9
      clear s9 g9
      go_wp2_with fail
      go_meet
      exact ⟨r9, _, rfl, by omega, by omega, F9⟩
    · have d0 : (r8 == 0) = false := by simpa using c0
      go_wp2_with fail
      go_meet
      exact ⟨wd, _, rfl, by omega, by omega, F8.out⟩
  case rest =>
  revert wc
  intro w9 hcut
  obtain ⟨wd', p9, rfl, hd0, hd1, F9⟩ := hcut
  clear F8
  obtain ⟨x0, f0⟩ := F9.out.cB 0 _ rfl
  obtain ⟨x1, f1⟩ := F9.out.cB 1 _ rfl
  obtain ⟨x2, f2⟩ := F9.out.cB 2 _ rfl
  obtain ⟨x3, f3⟩ := F9.out.cB 3 _ rfl
  obtain ⟨x4, f4⟩ := F9.out.cB 4 _ rfl
  obtain ⟨x5, f5⟩ := F9.out.cB 5 _ rfl
  obtain ⟨y0, q0⟩ := F9.out.res 0 _ rfl
  obtain ⟨y1, q1⟩ := F9.out.res 1 _ rfl
  obtain ⟨y2, q2⟩ := F9.out.res 2 _ rfl
  obtain ⟨y3, q3⟩ := F9.out.res 3 _ rfl
  obtain ⟨y4, q4⟩ := F9.out.res 4 _ rfl
  obtain ⟨y5, q5⟩ := F9.out.res 5 _ rfl
  go_wp2
  refine bodyPost_ret (v := .tuple #[.agg #[.int .i64 k', .string sum', .string name', .int .i64 m', .string t', .slice ra' ss'.length rc'], .int .i64 wd']) (by simp [results, Tryd.results16, go_sem, *]) rfl ?_
  have hlt : w.heap.size < w.heap.size + 1 := Nat.lt_succ_self _
  refine ⟨⟨k', sum', name', m', t', ra', rc', ss', wd', rfl, HS'.out, hd0, hd1, ?_⟩, ?_⟩
  · refine World.ownsRow.mono ?_ (Nat.le_succ _)
    iterate 6 (refine ownsRow_setCell_below ?_ hlt _)
    exact F9.out.own
  · have hle : w.heap.size ≤ w.heap.size := Nat.le_refl _
    exact (((((F9.out.bel.setCell (p := ⟨w.heap.size, 0, none⟩) hle _).setCell (p := ⟨w.heap.size, 1, none⟩) hle _).setCell (p := ⟨w.heap.size, 2, none⟩) hle _).setCell (p := ⟨w.heap.size, 3, none⟩) hle _).setCell (p := ⟨w.heap.size, 4, none⟩) hle _).setCell (p := ⟨w.heap.size, 5, none⟩) hle _

theorem entTxt_size (k : Int) (sum name : ByteArray) (n : Int) (t : ByteArray) (ss : List ByteArray) (wd : Int) : (entTxt k sum name n t ss wd).size ≤ 2400 := by
  unfold entTxt
  split
  · rename_i h
    unfold okE at h
    rw [Bool.and_eq_true] at h
    have p := entOk_parts h.2
    have h1 : (ByteArray.mk (entB k.toNat sum name n t ss).toArray).size = (entB k.toNat sum name n t ss).length := rfl
    rw [h1]
    unfold entB hdr
    have e1 : sum.data.toList.length = sum.size := rfl
    have e2 : name.data.toList.length = name.size := rfl
    have p1 := p.sum
    have p2 := p.name
    simp only [List.length_append, List.length_cons, List.length_nil, e1, e2]
    split
    · rename_i hk
      have hf := formTxt_size t ss wd
      unfold formTxt at hf
      rw [if_pos (p.thing hk)] at hf
      have h2 : (ByteArray.mk (formB t ss).toArray).size = (formB t ss).length := rfl
      rw [h2] at hf
      omega
    · simp
      omega
  · exact Nat.zero_le _

set_option maxRecDepth 20000 in
set_option maxHeartbeats 4000000 in
theorem drawReadEntry_any (a : Option Addr) (n c : Nat) (w : World) (hn : n ≤ maxLen) (hb : n = 0 ∨ ∃ q off, a = some ⟨q, off, none⟩ ∧ q < w.heap.size ∧ ∀ j, j < n → ∃ x : Int, w.cell? ⟨q, off + j, none⟩ = some (.int .u8 x) ∧ 0 ≤ x ∧ x < 256) (hc : n ≤ c) :
    Calls Tryd.prog 22 #[.slice a n c] w fun e w' => TxtDrawn w w' e 2410 := by
  have HB : Hid _ := hb
  clear hb
  go_enter Tryd.func22, Tryd.ntmps22
  go_wp2_with fail
  refine (l1Open_any a n c w hn HB.out hc).mono ?_
  rintro e w1 ⟨n', c', rfl, s1, hb1⟩
  have hb1' : n = 0 ∨ ∃ q off, a = some ⟨q, off, none⟩ ∧ q < w1.heap.size ∧ ∀ j, j < n → ∃ x : Int, w1.cell? ⟨q, off + j, none⟩ = some (.int .u8 x) ∧ 0 ≤ x ∧ x < 256 := by
    rcases HB.out with h | ⟨q, off, ha, hq, hx⟩
    · exact .inl h
    · refine .inr ⟨q, off, ha, Nat.lt_of_lt_of_le hq hb1.size, fun j hj => ?_⟩
      obtain ⟨x, h1, h2⟩ := hx j hj
      exact ⟨x, (hb1.cell (p := ⟨q, off + j, none⟩) hq).trans h1, h2⟩
  obtain ⟨b, hbb⟩ : ∃ b, b = w.heap.size := ⟨_, rfl⟩
  rw [← hbb] at s1 ⊢
  have hbw : w.heap.size ≤ b := by omega
  have HB1 : Hid _ := hb1'
  have HL : Hid _ := hb1
  clear hb1' HB hb1 hbb
  go_wp2_with fail
  refine (drawFormEntry_any a n c w1 hn HB1.out hc).mono ?_
  rintro e w2 ⟨⟨k, sum, name, m, t, ra, rc, ss, wd, rfl, hS, hw0, hw9, ho⟩, hb2⟩
  have hr2 := (own_nilD ho).1
  obtain ⟨W2, hW2⟩ : ∃ W2, W2 = w2.alloc (.cells #[.int .i64 k, .string sum, .string name, .int .i64 m, .string t, .slice ra ss.length rc] 31) := ⟨_, rfl⟩
  have h22 : Below w2.heap.size w2 W2 := by rw [hW2]; exact (Below.refl _ _).alloc (Nat.le_refl _) _
  have X2 : CellsAt W2 w2.heap.size [.int .i64 k, .string sum, .string name, .int .i64 m, .string t, .slice ra ss.length rc] := by rw [hW2]; exact CellsAt.new w2 _ _
  have h12 := hb2.trans (h22.mono hb2.size)
  have s2 := s1.below h12
  have R2 : Hid (SRow W2 W2.heap.size ra ss) := hr2.below' h22
  have B2 : Hid (Below w.heap.size w W2) := HL.out.trans (h12.mono HL.out.size)
  obtain ⟨x0, _⟩ := X2 0 _ rfl
  obtain ⟨x1, _⟩ := X2 1 _ rfl
  obtain ⟨x2, _⟩ := X2 2 _ rfl
  obtain ⟨x3, _⟩ := X2 3 _ rfl
  obtain ⟨x4, _⟩ := X2 4 _ rfl
  obtain ⟨x5, _⟩ := X2 5 _ rfl
  have HS : Hid _ := s2
  have HW : Hid _ := hW2
  clear hW2 h22 X2 h12 hb2 ho hr2 s1 s2 HL
  go_upto_region 3 with fail
  rw [← HW.out]
  clear HW
  go_wp2_with fail
  refine (sFormE k sum name m t ra rc ss wd W2 R2.out (by have := hS.lss; omega) (by have := hS.ltext; unfold maxLen; omega) (by have := hS.lname; unfold maxLen; omega)).mono ?_
  rintro e w3 ⟨rfl, hb3⟩
  have hsz := entTxt_size k sum name m t ss wd
  generalize entTxt k sum name m t ss wd = F at *
  have s3 : Hid (RdSt w3 b a n' c' 0) := HS.out.below hb3
  have B3 : Hid (Below w.heap.size w w3) := B2.out.trans (hb3.mono B2.out.size)
  clear x0 x1 x2 x3 x4 x5 hb3 HS B2 R2
  go_wp2_with fail
  refine (pick_any b a n' c' 0 2 w3 s3.out (by omega) (by omega) (by omega) (by omega)).mono ?_
  rintro e w4 ⟨r, rfl, r0, r1, s4, g4⟩
  have B4 : Hid (Below w.heap.size w w4) := B3.out.grown g4 B3.out.size (fun k e => by cases e; omega)
  have S4 : Hid _ := s4
  clear s4 g4
  by_cases c0 : r = 0
  · subst c0
    go_wp2_with fail
    refine (l1Bend_any b a n' c' (0 + 1) F w4 S4.out (by omega) (by omega) (by omega)).mono ?_
    rintro e w5 ⟨⟨T, rfl, hT⟩, ⟨_, g5⟩⟩
    have B5 : Hid (Below w.heap.size w w5) := B4.out.grown g5 B4.out.size (fun k e => by cases e; omega)
    clear g5
    go_wp2
    exact bodyPost_ret (v := .tuple #[.string T, .int .i64 wd]) (by simp [results, Tryd.results22, go_sem]) rfl ⟨⟨T, wd, rfl, by omega, hw0, hw9⟩, B5.out⟩
  · have d0 : (r == 0) = false := by simpa using c0
    go_wp2
    exact bodyPost_ret (v := .tuple #[.string F, .int .i64 wd]) (by simp [results, Tryd.results22, go_sem]) rfl ⟨⟨F, wd, rfl, by omega, hw0, hw9⟩, B4.out⟩
end Go.Proofs.YtdecihmplkgfkaaDoor
