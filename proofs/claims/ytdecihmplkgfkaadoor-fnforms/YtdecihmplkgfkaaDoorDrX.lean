/-
  spec.l3Draw: an entry that is drawn.
-/
import Derived.Test.YtdecihmplkgfkaaDoorDrW
import Derived.Test.YtdecihmplkgfkaaDoorEntS
namespace Go.Proofs.YtdecihmplkgfkaaDoor
open Go.ChangeShapes Go.WideShapes Go.ChangeAt Go.RowKit

/-- A drawn entry's size. -/
structure SmallE (sum name t : ByteArray) (ss : List ByteArray) (SM NM TX RF : Nat) : Prop where
  lsum : sum.size ≤ SM
  lname : name.size ≤ NM
  ltext : t.size ≤ TX
  lss : ss.length ≤ RF
  lrefs : ∀ s ∈ ss, s.size ≤ 8

/-- While an entry is drawn: the reader at b, the entry's box at B, the result's box at w's end. -/
structure FE (w wx : World) (b B : Nat) (a : Option Addr) (n c : Nat) (k : Int) (sum name : ByteArray) (m : Int) (t : ByteArray) (ra : Option Addr) (rc : Nat) (ss : List ByteArray) (p : Int) : Prop where
  cB : CellsAt wx B [.int .i64 k, .string sum, .string name, .int .i64 m, .string t, .slice ra ss.length rc]
  own : wx.ownsRow (w.heap.size + 1) 9 1 (.slice ra ss.length rc) ss.length (ss.map Value.string)
  far : ∀ j, (Value.slice ra ss.length rc).ownBlock = some j → j ≠ b ∧ j ≠ B
  rd : RdSt wx b a n c p
  res : CellsAt wx w.heap.size [.int .i64 0, .string ⟨#[]⟩, .string ⟨#[]⟩, .int .i64 0, .string ⟨#[]⟩, .slice none 0 0]
  gr : w.grownBy wx (some b)

theorem FE.pick {w wx wy : World} {b B : Nat} {a : Option Addr} {n c : Nat} {k : Int} {sum name : ByteArray} {m : Int} {t : ByteArray} {ra : Option Addr} {rc : Nat} {ss : List ByteArray} {p p' : Int} (h : FE w wx b B a n c k sum name m t ra rc ss p) (hb : b < w.heap.size) (hB : b < B) (hr : RdSt wy b a n c p') (hg : wx.grownBy wy (some b)) : FE w wy b B a n c k sum name m t ra rc ss p' :=
  ⟨h.cB.far hg hB, h.own.kept hg (by
      cases hv : (Value.slice ra ss.length rc).ownBlock with
      | none => exact .inl rfl
      | some j => exact .inr (fun e => (h.far j hv).1 (Option.some.inj e))), h.far, hr, h.res.far hg hb, h.gr.trans hg⟩

theorem FE.below {w wx wy : World} {b B : Nat} {a : Option Addr} {n c : Nat} {k : Int} {sum name : ByteArray} {m : Int} {t : ByteArray} {ra : Option Addr} {rc : Nat} {ss : List ByteArray} {p : Int} (h : FE w wx b B a n c k sum name m t ra rc ss p) (hb : Below wx.heap.size wx wy) : FE w wy b B a n c k sum name m t ra rc ss p :=
  ⟨h.cB.below hb, h.own.kept (grown_below none hb) (Classical.em _), h.far, h.rd.below hb, h.res.below hb, h.gr.trans (grown_below _ hb)⟩

/-- One cell of the entry's box is written. -/
theorem FE.set {w wx : World} {b B : Nat} {a : Option Addr} {n c : Nat} {k : Int} {sum name : ByteArray} {m : Int} {t : ByteArray} {ra : Option Addr} {rc : Nat} {ss : List ByteArray} {p : Int} (h : FE w wx b B a n c k sum name m t ra rc ss p) (hb : b < w.heap.size) (hB : w.heap.size < B) (j : Nat) (v : Value) :
    (wx.setCell ⟨B, j, none⟩ v).ownsRow (w.heap.size + 1) 9 1 (.slice ra ss.length rc) ss.length (ss.map Value.string) ∧ RdSt (wx.setCell ⟨B, j, none⟩ v) b a n c p ∧ CellsAt (wx.setCell ⟨B, j, none⟩ v) w.heap.size [.int .i64 0, .string ⟨#[]⟩, .string ⟨#[]⟩, .int .i64 0, .string ⟨#[]⟩, .slice none 0 0] ∧ w.grownBy (wx.setCell ⟨B, j, none⟩ v) (some b) :=
  ⟨h.own.kept (rd_grown _ B j _) (by
      cases hv : (Value.slice ra ss.length rc).ownBlock with
      | none => exact .inl rfl
      | some i => exact .inr (fun e => (h.far i hv).2 (Option.some.inj e))), h.rd.grown (rd_grown _ B j _) (by omega), h.res.far' (rd_grown _ B j _) (by omega), h.gr.andThen (rd_grown _ B j _) (fun i e => by cases e; exact .inl (by omega))⟩

/-- An entry that was drawn. -/
structure EntDrawn (w w' : World) (e : Ending) (b : Nat) (a : Option Addr) (n c : Nat) (p K : Int) (SM NM TX RF : Nat) : Prop where
  ex : ∃ (k : Int) (sum name : ByteArray) (m : Int) (t : ByteArray) (ra : Option Addr) (rc : Nat) (ss : List ByteArray), e = .returned (.agg #[.int .i64 k, .string sum, .string name, .int .i64 m, .string t, .slice ra ss.length rc]) ∧ SmallE sum name t ss SM NM TX RF ∧
    w'.ownsRow w.heap.size 9 1 (.slice ra ss.length rc) ss.length (ss.map Value.string)
  dr : Drawn w w' b a n c p K

theorem FE.fin {w wx : World} {b B : Nat} {a : Option Addr} {n c : Nat} {k : Int} {sum name : ByteArray} {m : Int} {t : ByteArray} {ra : Option Addr} {rc : Nat} {ss : List ByteArray} {p p' K : Int} {SM NM TX RF : Nat} (h : FE w wx b B a n c k sum name m t ra rc ss p') (hb : b < w.heap.size) (hs : SmallE sum name t ss SM NM TX RF) (h1 : p ≤ p') (h2 : p' ≤ p + K) :
    EntDrawn w ((((((wx.setCell ⟨w.heap.size, 0, none⟩ (.int .i64 k)).setCell ⟨w.heap.size, 1, none⟩ (.string sum)).setCell ⟨w.heap.size, 2, none⟩ (.string name)).setCell ⟨w.heap.size, 3, none⟩ (.int .i64 m)).setCell ⟨w.heap.size, 4, none⟩ (.string t)).setCell ⟨w.heap.size, 5, none⟩ (.slice ra ss.length rc))
      (.returned (.agg #[.int .i64 k, .string sum, .string name, .int .i64 m, .string t, .slice ra ss.length rc])) b a n c p K SM NM TX RF := by
  have hlt : w.heap.size < w.heap.size + 1 := Nat.lt_succ_self _
  refine ⟨⟨k, sum, name, m, t, ra, rc, ss, rfl, hs, ?_⟩, ⟨p', ?_, h1, h2⟩, ?_⟩
  · refine World.ownsRow.mono ?_ (Nat.le_succ _)
    iterate 6 (refine ownsRow_setCell_below ?_ hlt _)
    exact h.own
  · exact (((((h.rd.grown (rd_grown _ w.heap.size 0 _) hb).grown (rd_grown _ w.heap.size 1 _) hb).grown (rd_grown _ w.heap.size 2 _) hb).grown (rd_grown _ w.heap.size 3 _) hb).grown (rd_grown _ w.heap.size 4 _) hb).grown (rd_grown _ w.heap.size 5 _) hb
  · have hh : ∀ j : Nat, some w.heap.size = some j → w.heap.size ≤ j ∨ some b = some j := fun j e => by cases e; exact .inl (Nat.le_refl _)
    exact (((((h.gr.andThen (rd_grown _ w.heap.size 0 _) hh).andThen (rd_grown _ w.heap.size 1 _) hh).andThen (rd_grown _ w.heap.size 2 _) hh).andThen (rd_grown _ w.heap.size 3 _) hh).andThen (rd_grown _ w.heap.size 4 _) hh).andThen (rd_grown _ w.heap.size 5 _) hh

/-- The names that may be drawn. -/
theorem name_cell (W : World) (T : ByteArray) (hT : T.size ≤ 41) (k : Nat) (h : k < 4) : ∃ X : ByteArray, (W.alloc (.cells #[.string ⟨#[112]⟩, .string ⟨#[113]⟩, .string ⟨#[116, 111, 112]⟩, .string T] 9)).cell? ⟨W.heap.size, k, none⟩ = some (.string X) ∧ X.size ≤ 41 := by
  match k, h with
  | 0, _ => exact ⟨⟨#[112]⟩, by rw [World.cell?_alloc_at _ _ _ _ rfl]; rfl, by decide⟩
  | 1, _ => exact ⟨⟨#[113]⟩, by rw [World.cell?_alloc_at _ _ _ _ rfl]; rfl, by decide⟩
  | 2, _ => exact ⟨⟨#[116, 111, 112]⟩, by rw [World.cell?_alloc_at _ _ _ _ rfl]; rfl, by decide⟩
  | 3, _ => exact ⟨T, by rw [World.cell?_alloc_at _ _ _ _ rfl]; rfl, hT⟩

theorem num_cell (W : World) (k : Nat) (h : k < 7) : ∃ x : Int, (W.alloc (.cells #[.int .i64 1, .int .i64 5, .int .i64 10, .int .i64 255, .int .i64 256, .int .i64 65536, .int .i64 100000] 3)).cell? ⟨W.heap.size, k, none⟩ = some (.int .i64 x) := by
  match k, h with
  | 0, _ => exact ⟨1, by rw [World.cell?_alloc_at _ _ _ _ rfl]; rfl⟩
  | 1, _ => exact ⟨5, by rw [World.cell?_alloc_at _ _ _ _ rfl]; rfl⟩
  | 2, _ => exact ⟨10, by rw [World.cell?_alloc_at _ _ _ _ rfl]; rfl⟩
  | 3, _ => exact ⟨255, by rw [World.cell?_alloc_at _ _ _ _ rfl]; rfl⟩
  | 4, _ => exact ⟨256, by rw [World.cell?_alloc_at _ _ _ _ rfl]; rfl⟩
  | 5, _ => exact ⟨65536, by rw [World.cell?_alloc_at _ _ _ _ rfl]; rfl⟩
  | 6, _ => exact ⟨100000, by rw [World.cell?_alloc_at _ _ _ _ rfl]; rfl⟩

set_option maxRecDepth 20000 in
set_option maxHeartbeats 8000000 in
theorem l3Draw_any (b : Nat) (a : Option Addr) (n c : Nat) (p wd : Int) (w : World) (h : RdSt w b a n c p) (hp : 0 ≤ p) (hp2 : p ≤ 700000) (h1 : 1 ≤ wd) (h2 : wd ≤ 8) :
    Calls Tryd.prog 42 #[.pointer (some ⟨b, 0, none⟩), .int .i64 wd] w fun e w' => EntDrawn w w' e b a n c p 90 8 41 16 3 := by
  have hbl := h.lt
  obtain ⟨W, hW⟩ : ∃ W, W = w.alloc (.cells #[.int .i64 0, .string ⟨#[]⟩, .string ⟨#[]⟩, .int .i64 0, .string ⟨#[]⟩, .slice none 0 0] 31) := ⟨_, rfl⟩
  have hwW : Below w.heap.size w W := by rw [hW]; exact (Below.refl _ _).alloc (Nat.le_refl _) _
  have R0 : CellsAt W w.heap.size [.int .i64 0, .string ⟨#[]⟩, .string ⟨#[]⟩, .int .i64 0, .string ⟨#[]⟩, .slice none 0 0] := by rw [hW]; exact CellsAt.new w _ _
  have s0 := h.below hwW
  have HW : Hid _ := hW
  have hwd : decide (1 ≤ wd ∧ wd ≤ 8) = true := by simp [h1, h2]
  clear hW h
  go_enter Tryd.func42, Tryd.ntmps42
  go_upto_region 1 with fail
  rw [← HW.out]
  clear HW
  go_wp2_with fail
  refine (pick_any b a n c p 7 W s0 hp (by omega) (by omega) (by omega)).mono ?_
  rintro e w1 ⟨r, rfl, r0, r1, s1, g1⟩
  obtain ⟨k, rfl⟩ : ∃ k : Nat, r = (k : Int) - 1 := ⟨(r + 1).toNat, by omega⟩
  have hk1 : 1 ≤ k := by omega
  have hk7 : k ≤ 7 := by omega
  have ek : (1 : Int) + ((k : Int) - 1) = (k : Int) := by omega
  have wk : IntKind.i64.wrap (k : Int) = (k : Int) := dr_wrap (by omega) (by omega)
  have R1 := R0.far g1 hbl
  have G1 : w.grownBy w1 (some b) := (grown_below (some b) hwW).trans g1
  have hz1 : w.heap.size < w1.heap.size := R1.lt
  have HU := uses_any k
  generalize kNum k = kn at *
  generalize kSum k = us at *
  generalize kName k = un at *
  generalize kThing k = ut at *
  have HUs : Hid _ := HU
  clear HU R0 s0 g1 hwW
  go_wp2_with fail
  refine (HUs.out w1 hk1 hk7).mono ?_
  rintro e w2 ⟨rfl, hw2⟩
  rw [hw2]
  clear hw2 w2 HUs
  obtain ⟨W3, hW3⟩ : ∃ W3, W3 = w1.alloc (.cells #[.int .i64 (k : Int), .string ⟨#[]⟩, .string ⟨#[]⟩, .int .i64 0, .string ⟨#[]⟩, .slice none 0 0] 31) := ⟨_, rfl⟩
  have h13 : Below w1.heap.size w1 W3 := by rw [hW3]; exact (Below.refl _ _).alloc (Nat.le_refl _) _
  obtain ⟨B, hB⟩ : ∃ B, B = w1.heap.size := ⟨_, rfl⟩
  have hwB : w.heap.size < B := by omega
  have hbB : b < B := by omega
  have F3 : Hid (FE w W3 b B a n c k ⟨#[]⟩ ⟨#[]⟩ 0 ⟨#[]⟩ none 0 [] (p + 1)) := by
    refine ⟨by rw [hW3, hB]; exact CellsAt.new w1 _ _, ?_, (fun j hj => by cases hj), s1.below h13, R1.below h13, G1.trans (grown_below _ h13)⟩
    exact ⟨rfl, .inl ⟨rfl, rfl⟩⟩
  have HW3 : Hid _ := hW3
  have HB : Hid _ := hB
  clear hW3 hB h13 s1 R1 G1 r0 r1 wk ek
  go_upto_region 4 with fail
  rw [← HW3.out, ← HB.out]
  clear HW3 HB
  go_cut [27] (fun v wx => v = .bool us ∧ wx = W3)
  case first =>
    cases us with
    | true =>
      go_wp2_with (go_at_call 31; refine (l1WidthD wd _).mono ?_; rintro e w' ⟨rfl, hw'⟩; rw [hw']; clear hw' w')
      go_meet
      exact ⟨rfl, rfl⟩
    | false =>
      go_wp2_with fail
      go_meet
      exact ⟨rfl, rfl⟩
  case rest =>
  revert wc
  intro wc hcut
  obtain ⟨rfl, hwc⟩ := hcut
  rw [hwc]
  clear hwc wc
  go_upto_if 27 with fail
  go_cut [] (fun wx => ∃ (sum : ByteArray) (p' : Int), sum.size ≤ 8 ∧ p + 1 ≤ p' ∧ p' ≤ p + 11 ∧ Hid (FE w wx b B a n c k sum ⟨#[]⟩ 0 ⟨#[]⟩ none 0 [] p'))
  case first =>
    cases us with
    | true =>
      go_wp2_with fail
      refine (l1Text_any b a n c (p + 1) W3 F3.out.rd (by omega) (by omega)).mono ?_
      rintro e w4 ⟨s4, rfl, hs4, ⟨⟨p4, s5, l5, u5⟩, g4⟩⟩
      go_wp2_with fail
      refine (ssum_any s4 wd w4 (by unfold maxLen; omega) h1 h2).mono ?_
      rintro e w5 ⟨rfl, hb5⟩
      have hx5 : (sumText s4.data.toList wd.toNat).size ≤ 8 := by rw [sumText_size]; omega
      generalize sumText s4.data.toList wd.toNat = x at *
      have F5 := (F3.out.pick hbl hbB s5 g4).below hb5
      obtain ⟨x1, f1⟩ := F5.cB 1 _ rfl
      have HF : Hid _ := F5
      clear F5
      go_wp2_with fail
      go_meet
      obtain ⟨q1, q2, q3, q4⟩ := HF.out.set hbl hwB 1 (.string x)
      exact ⟨x, p4, hx5, by omega, by omega, HF.out.cB.set 1 _, q1, HF.out.far, q2, q3, q4⟩
    | false =>
      go_wp2_with fail
      go_meet
      exact ⟨⟨#[]⟩, p + 1, by decide, by omega, by omega, F3.out⟩
  case rest =>
  revert wc
  intro w6 hcut
  obtain ⟨sum, p6, hsum, hp6a, hp6b, F6⟩ := hcut
  clear F3
  go_upto_if 33 with fail
  go_cut [] (fun wx => ∃ (name : ByteArray) (p' : Int), name.size ≤ 41 ∧ p6 ≤ p' ∧ p' ≤ p6 + 1 ∧ Hid (FE w wx b B a n c k sum name 0 ⟨#[]⟩ none 0 [] p'))
  case first =>
    cases un with
    | true =>
      have hmk := l1Many_any ⟨#[110]⟩ 40 w6 (by decide) (by decide)
      have HM : Hid _ := hmk
      clear hmk
      go_wp2_with fail
      refine Calls.mono HM.out ?_
      rintro e w7 ⟨T, rfl, hT, hw7⟩
      rw [hw7]
      clear hw7 w7
      have hT41 : T.size ≤ 41 := by rw [hT]; decide
      obtain ⟨W7, hW7⟩ : ∃ W7, W7 = w6.alloc (.cells #[.string ⟨#[112]⟩, .string ⟨#[113]⟩, .string ⟨#[116, 111, 112]⟩, .string T] 9) := ⟨_, rfl⟩
      have h67 : Below w6.heap.size w6 W7 := by rw [hW7]; exact (Below.refl _ _).alloc (Nat.le_refl _) _
      have F7 : Hid _ := F6.out.below h67
      have HN : Hid (∀ k : Nat, k < 4 → ∃ X : ByteArray, W7.cell? ⟨w6.heap.size, k, none⟩ = some (.string X) ∧ X.size ≤ 41) := fun k hk => by rw [hW7]; exact name_cell w6 T hT41 k hk
      have hz67 : b < w6.heap.size := F6.out.rd.lt
      have hzW7 : w6.heap.size < W7.heap.size := by rw [hW7]; simp
      have HW7 : Hid _ := hW7
      clear hW7 h67 hT
      go_wp2_with fail
      rw [← HW7.out]
      clear HW7
      refine (pick_any b a n c p6 4 W7 F7.out.rd (by omega) (by omega) (by omega) (by omega)).mono ?_
      rintro e w8 ⟨r', rfl, r0', r1', s8, g8⟩
      obtain ⟨j, rfl⟩ : ∃ j : Nat, r' = j := ⟨r'.toNat, by omega⟩
      obtain ⟨X, hX, hXs⟩ := HN.out j (by omega)
      have F8 := F7.out.pick hbl hbB s8 g8
      have hX8 := (g8.cell_far ⟨w6.heap.size, j, none⟩ hzW7 (sne hz67)).trans hX
      obtain ⟨x1, f1⟩ := F8.cB 2 _ rfl
      have HF : Hid _ := F8
      clear F8 hX HN F7 s8 g8
      go_wp2_with fail
      go_meet
      obtain ⟨q1, q2, q3, q4⟩ := HF.out.set hbl hwB 2 (.string X)
      exact ⟨X, p6 + 1, hXs, by omega, by omega, HF.out.cB.set 2 _, q1, HF.out.far, q2, q3, q4⟩
    | false =>
      go_wp2_with fail
      go_meet
      exact ⟨⟨#[]⟩, p6, by decide, by omega, by omega, F6.out⟩
  case rest =>
  revert wc
  intro w9 hcut
  obtain ⟨name, p9, hname, hp9a, hp9b, F9⟩ := hcut
  clear F6
  go_upto_if 42 with fail
  go_cut [] (fun wx => ∃ (m p' : Int), p9 ≤ p' ∧ p' ≤ p9 + 1 ∧ Hid (FE w wx b B a n c k sum name m ⟨#[]⟩ none 0 [] p'))
  case first =>
    by_cases hkn : 0 < kn
    · have dkn : decide (0 < kn) = true := by simpa using hkn
      obtain ⟨W7, hW7⟩ : ∃ W7, W7 = w9.alloc (.cells #[.int .i64 1, .int .i64 5, .int .i64 10, .int .i64 255, .int .i64 256, .int .i64 65536, .int .i64 100000] 3) := ⟨_, rfl⟩
      have h67 : Below w9.heap.size w9 W7 := by rw [hW7]; exact (Below.refl _ _).alloc (Nat.le_refl _) _
      have F7 : Hid _ := F9.out.below h67
      have HN : Hid (∀ k : Nat, k < 7 → ∃ x : Int, W7.cell? ⟨w9.heap.size, k, none⟩ = some (.int .i64 x)) := fun k hk => by rw [hW7]; exact num_cell w9 k hk
      have hz67 : b < w9.heap.size := F9.out.rd.lt
      have hzW7 : w9.heap.size < W7.heap.size := by rw [hW7]; simp
      have HW7 : Hid _ := hW7
      clear hW7 h67
      go_wp2_with fail
      rw [← HW7.out]
      clear HW7
      refine (pick_any b a n c p9 7 W7 F7.out.rd (by omega) (by omega) (by omega) (by omega)).mono ?_
      rintro e w8 ⟨r', rfl, r0', r1', s8, g8⟩
      obtain ⟨j, rfl⟩ : ∃ j : Nat, r' = j := ⟨r'.toNat, by omega⟩
      obtain ⟨X, hX⟩ := HN.out j (by omega)
      have F8 := F7.out.pick hbl hbB s8 g8
      have hX8 := (g8.cell_far ⟨w9.heap.size, j, none⟩ hzW7 (sne hz67)).trans hX
      obtain ⟨x1, f1⟩ := F8.cB 3 _ rfl
      have HF : Hid _ := F8
      clear F8 hX HN F7 s8 g8
      go_wp2_with fail
      go_meet
      obtain ⟨q1, q2, q3, q4⟩ := HF.out.set hbl hwB 3 (.int .i64 X)
      exact ⟨X, p9 + 1, by omega, by omega, HF.out.cB.set 3 _, q1, HF.out.far, q2, q3, q4⟩
    · have dkn : decide (0 < kn) = false := by simpa using hkn
      go_wp2_with fail
      go_meet
      exact ⟨0, p9, by omega, by omega, F9.out⟩
  case rest =>
  revert wc
  intro w10 hcut
  obtain ⟨m, p10, hp10a, hp10b, F10⟩ := hcut
  clear F9
  go_upto_if 49 with fail
  go_cut [] (fun wx => ∃ (t : ByteArray) (ra : Option Addr) (rc : Nat) (ss : List ByteArray) (p' : Int), t.size ≤ 16 ∧ ss.length ≤ 3 ∧ p10 ≤ p' ∧ p' ≤ p10 + 60 ∧ Hid (∀ s ∈ ss, s.size ≤ 8) ∧ Hid (FE w wx b B a n c k sum name m t ra rc ss p'))
  case first =>
    cases ut with
    | true =>
      go_wp2_with fail
      refine (drawThing_any b a n c p10 wd w10 F10.out.rd (by omega) (by omega) h1 h2).mono ?_
      rintro e w11 ⟨⟨t, ra, rc, ss, rfl, ht, hl, hs, ho⟩, ⟨p11, s11, l11, u11⟩, g11⟩
      have F11 := F10.out.pick hbl hbB s11 g11
      have hB10 : B < w10.heap.size := F10.out.cB.lt
      have hw10 : w.heap.size < w10.heap.size := F10.out.res.lt
      obtain ⟨x4, f4⟩ := F11.cB 4 _ rfl
      obtain ⟨x5, f5⟩ := F11.cB 5 _ rfl
      have HF : Hid _ := F11
      have HO : Hid _ := ho
      clear F11 ho s11 g11
      go_wp2_with fail
      go_meet
      have cB := (HF.out.cB.set 4 (.string t)).set 5 (.slice ra ss.length rc)
      refine ⟨t, ra, rc, ss, p11, ht, hl, by omega, by omega, hs, cB, ?_, ?_, ?_, ?_, ?_⟩
      · exact (ownsRow_setCell_below (ownsRow_setCell_below HO.out (a := ⟨B, 4, none⟩) hB10 _) (a := ⟨B, 5, none⟩) hB10 _).mono (by omega)
      · intro j hj
        have := World.ownsRow.lt HO.out j hj
        omega
      · exact (HF.out.rd.grown (rd_grown _ B 4 _) hbB).grown (rd_grown _ B 5 _) hbB
      · exact (HF.out.res.far' (rd_grown _ B 4 _) (by omega)).far' (rd_grown _ B 5 _) (by omega)
      · exact (HF.out.gr.andThen (rd_grown _ B 4 _) (fun i e => by cases e; exact .inl (by omega))).andThen (rd_grown _ B 5 _) (fun i e => by cases e; exact .inl (by omega))
    | false =>
      go_wp2_with fail
      go_meet
      exact ⟨⟨#[]⟩, none, 0, [], p10, by decide, by decide, by omega, by omega, (fun s hs => by cases hs), F10.out⟩
  case rest =>
  revert wc
  intro w12 hcut
  obtain ⟨t, ra, rc, ss, p12, ht, hl, hp12a, hp12b, HS, F12⟩ := hcut
  clear F10
  obtain ⟨x0, f0⟩ := F12.out.cB 0 _ rfl
  obtain ⟨x1, f1⟩ := F12.out.cB 1 _ rfl
  obtain ⟨x2, f2⟩ := F12.out.cB 2 _ rfl
  obtain ⟨x3, f3⟩ := F12.out.cB 3 _ rfl
  obtain ⟨x4, f4⟩ := F12.out.cB 4 _ rfl
  obtain ⟨x5, f5⟩ := F12.out.cB 5 _ rfl
  obtain ⟨y0, q0⟩ := F12.out.res 0 _ rfl
  obtain ⟨y1, q1⟩ := F12.out.res 1 _ rfl
  obtain ⟨y2, q2⟩ := F12.out.res 2 _ rfl
  obtain ⟨y3, q3⟩ := F12.out.res 3 _ rfl
  obtain ⟨y4, q4⟩ := F12.out.res 4 _ rfl
  obtain ⟨y5, q5⟩ := F12.out.res 5 _ rfl
  go_wp2
  refine bodyPost_ret (v := .agg #[.int .i64 (k : Int), .string sum, .string name, .int .i64 m, .string t, .slice ra ss.length rc]) (by simp [results, Tryd.results42, go_sem, *]) rfl ?_
  exact F12.out.fin hbl ⟨hsum, hname, ht, hl, HS.out⟩ (by omega) (by omega)
end Go.Proofs.YtdecihmplkgfkaaDoor
