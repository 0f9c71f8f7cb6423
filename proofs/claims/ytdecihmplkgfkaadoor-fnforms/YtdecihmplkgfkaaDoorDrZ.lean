/-
  spec.l3Spoil: an entry that is spoilt.
-/
import Derived.Test.YtdecihmplkgfkaaDoorDrX
namespace Go.Proofs.YtdecihmplkgfkaaDoor
open Go.ChangeShapes Go.WideShapes Go.ChangeAt Go.RowKit

theorem wrap_small {a : Int} (h0 : -1000000 ≤ a) (h1 : a ≤ 1000000) : IntKind.i64.wrap a = a := by
  unfold IntKind.wrap
  simp [IntKind.signed, IntKind.bits]
  omega

/-- While an entry is spoilt: the reader at b, the entry's box at Q, the result's box at R. -/
structure GE (w wx : World) (b Q R base : Nat) (a : Option Addr) (n c : Nat) (k : Int) (sum name : ByteArray) (m : Int) (t : ByteArray) (ra : Option Addr) (rc : Nat) (ss : List ByteArray) (p : Int) : Prop where
  cB : CellsAt wx Q [.int .i64 k, .string sum, .string name, .int .i64 m, .string t, .slice ra ss.length rc]
  own : wx.ownsRow base 9 1 (.slice ra ss.length rc) ss.length (ss.map Value.string)
  far : ∀ j, (Value.slice ra ss.length rc).ownBlock = some j → j ≠ b ∧ j ≠ Q ∧ j ≠ R
  rd : RdSt wx b a n c p
  res : CellsAt wx R [.int .i64 0, .string ⟨#[]⟩, .string ⟨#[]⟩, .int .i64 0, .string ⟨#[]⟩, .slice none 0 0]
  gr : w.grownBy wx (some b)

theorem GE.pick {w wx wy : World} {b Q R base : Nat} {a : Option Addr} {n c : Nat} {k : Int} {sum name : ByteArray} {m : Int} {t : ByteArray} {ra : Option Addr} {rc : Nat} {ss : List ByteArray} {p p' : Int} (h : GE w wx b Q R base a n c k sum name m t ra rc ss p) (hb : b < Q) (hB : b < R) (hr : RdSt wy b a n c p') (hg : wx.grownBy wy (some b)) : GE w wy b Q R base a n c k sum name m t ra rc ss p' :=
  ⟨h.cB.far hg hb, h.own.kept hg (by
      cases hv : (Value.slice ra ss.length rc).ownBlock with
      | none => exact .inl rfl
      | some j => exact .inr (fun e => (h.far j hv).1 (Option.some.inj e))), h.far, hr, h.res.far hg hB, h.gr.trans hg⟩

theorem GE.below {w wx wy : World} {b Q R base : Nat} {a : Option Addr} {n c : Nat} {k : Int} {sum name : ByteArray} {m : Int} {t : ByteArray} {ra : Option Addr} {rc : Nat} {ss : List ByteArray} {p : Int} (h : GE w wx b Q R base a n c k sum name m t ra rc ss p) (hb : Below wx.heap.size wx wy) : GE w wy b Q R base a n c k sum name m t ra rc ss p :=
  ⟨h.cB.below hb, h.own.kept (grown_below none hb) (Classical.em _), h.far, h.rd.below hb, h.res.below hb, h.gr.trans (grown_below _ hb)⟩

/-- One cell of the entry's box is written. -/
theorem GE.set {w wx : World} {b Q R base : Nat} {a : Option Addr} {n c : Nat} {k : Int} {sum name : ByteArray} {m : Int} {t : ByteArray} {ra : Option Addr} {rc : Nat} {ss : List ByteArray} {p : Int} (h : GE w wx b Q R base a n c k sum name m t ra rc ss p) (hb : b < Q) (hQ : w.heap.size ≤ Q) (hQR : Q ≠ R) (j : Nat) (v : Value) :
    (wx.setCell ⟨Q, j, none⟩ v).ownsRow base 9 1 (.slice ra ss.length rc) ss.length (ss.map Value.string) ∧ RdSt (wx.setCell ⟨Q, j, none⟩ v) b a n c p ∧ CellsAt (wx.setCell ⟨Q, j, none⟩ v) R [.int .i64 0, .string ⟨#[]⟩, .string ⟨#[]⟩, .int .i64 0, .string ⟨#[]⟩, .slice none 0 0] ∧ w.grownBy (wx.setCell ⟨Q, j, none⟩ v) (some b) :=
  ⟨h.own.kept (rd_grown _ Q j _) (by
      cases hv : (Value.slice ra ss.length rc).ownBlock with
      | none => exact .inl rfl
      | some i => exact .inr (fun e => (h.far i hv).2.1 (Option.some.inj e))), h.rd.grown (rd_grown _ Q j _) (by omega), h.res.far' (rd_grown _ Q j _) (by omega), h.gr.andThen (rd_grown _ Q j _) (fun i e => by cases e; exact .inl (by omega))⟩

/-- An entry that was spoilt. -/
structure EntSp (w w' : World) (e : Ending) (b base : Nat) (a : Option Addr) (n c : Nat) (p K : Int) (old : Option Nat) (SM NM TX RF : Nat) : Prop where
  ex : ∃ (k : Int) (sum name : ByteArray) (m : Int) (t : ByteArray) (ra : Option Addr) (rc : Nat) (ss : List ByteArray), e = .returned (.agg #[.int .i64 k, .string sum, .string name, .int .i64 m, .string t, .slice ra ss.length rc]) ∧ SmallE sum name t ss SM NM TX RF ∧
    w'.ownsRow base 9 1 (.slice ra ss.length rc) ss.length (ss.map Value.string) ∧ ∀ j, (Value.slice ra ss.length rc).ownBlock = some j → old = some j ∨ w.heap.size ≤ j
  dr : Drawn w w' b a n c p K

theorem GE.fin {w wx : World} {b Q R base : Nat} {a : Option Addr} {n c : Nat} {k : Int} {sum name : ByteArray} {m : Int} {t : ByteArray} {ra : Option Addr} {rc : Nat} {ss : List ByteArray} {p p' K : Int} {old : Option Nat} {SM NM TX RF : Nat} (h : GE w wx b Q R base a n c k sum name m t ra rc ss p') (hb : b < R) (hR : w.heap.size ≤ R) (hs : SmallE sum name t ss SM NM TX RF) (h1 : p ≤ p') (h2 : p' ≤ p + K) (ho : ∀ j, (Value.slice ra ss.length rc).ownBlock = some j → old = some j ∨ w.heap.size ≤ j) :
    EntSp w ((((((wx.setCell ⟨R, 0, none⟩ (.int .i64 k)).setCell ⟨R, 1, none⟩ (.string sum)).setCell ⟨R, 2, none⟩ (.string name)).setCell ⟨R, 3, none⟩ (.int .i64 m)).setCell ⟨R, 4, none⟩ (.string t)).setCell ⟨R, 5, none⟩ (.slice ra ss.length rc))
      (.returned (.agg #[.int .i64 k, .string sum, .string name, .int .i64 m, .string t, .slice ra ss.length rc])) b base a n c p K old SM NM TX RF := by
  have hne : (Value.slice ra ss.length rc).ownBlock = none ∨ (Value.slice ra ss.length rc).ownBlock ≠ some R := by
    cases hv : (Value.slice ra ss.length rc).ownBlock with
    | none => exact .inl rfl
    | some j => exact .inr (fun e => (h.far j hv).2.2 (Option.some.inj e))
  have o := (((((h.own.kept (rd_grown _ R 0 (.int .i64 k)) hne).kept (rd_grown _ R 1 (.string sum)) hne).kept (rd_grown _ R 2 (.string name)) hne).kept (rd_grown _ R 3 (.int .i64 m)) hne).kept (rd_grown _ R 4 (.string t)) hne).kept (rd_grown _ R 5 (.slice ra ss.length rc)) hne
  refine ⟨⟨k, sum, name, m, t, ra, rc, ss, rfl, hs, o, ho⟩, ⟨p', ?_, h1, h2⟩, ?_⟩
  · exact (((((h.rd.grown (rd_grown _ R 0 _) hb).grown (rd_grown _ R 1 _) hb).grown (rd_grown _ R 2 _) hb).grown (rd_grown _ R 3 _) hb).grown (rd_grown _ R 4 _) hb).grown (rd_grown _ R 5 _) hb
  · have hh : ∀ j : Nat, some R = some j → w.heap.size ≤ j ∨ some b = some j := fun j e => by cases e; exact .inl hR
    exact (((((h.gr.andThen (rd_grown _ R 0 _) hh).andThen (rd_grown _ R 1 _) hh).andThen (rd_grown _ R 2 _) hh).andThen (rd_grown _ R 3 _) hh).andThen (rd_grown _ R 4 _) hh).andThen (rd_grown _ R 5 _) hh

theorem name_cell3 (W : World) (T : ByteArray) (hT : T.size ≤ 41) (k : Nat) (h : k < 3) : ∃ X : ByteArray, (W.alloc (.cells #[.string ⟨#[]⟩, .string ⟨#[97, 32, 98]⟩, .string T] 9)).cell? ⟨W.heap.size, k, none⟩ = some (.string X) ∧ X.size ≤ 41 := by
  match k, h with
  | 0, _ => exact ⟨⟨#[]⟩, by rw [World.cell?_alloc_at _ _ _ _ rfl]; rfl, by decide⟩
  | 1, _ => exact ⟨⟨#[97, 32, 98]⟩, by rw [World.cell?_alloc_at _ _ _ _ rfl]; rfl, by decide⟩
  | 2, _ => exact ⟨T, by rw [World.cell?_alloc_at _ _ _ _ rfl]; rfl, hT⟩

theorem num_cell6 (W : World) (k : Nat) (h : k < 6) : ∃ x : Int, (W.alloc (.cells #[.int .i64 0, .int .i64 (-1), .int .i64 100001, .int .i64 1000000000, .int .i64 1000000001, .int .i64 4294967297] 3)).cell? ⟨W.heap.size, k, none⟩ = some (.int .i64 x) := by
  match k, h with
  | 0, _ => exact ⟨0, by rw [World.cell?_alloc_at _ _ _ _ rfl]; rfl⟩
  | 1, _ => exact ⟨-1, by rw [World.cell?_alloc_at _ _ _ _ rfl]; rfl⟩
  | 2, _ => exact ⟨100001, by rw [World.cell?_alloc_at _ _ _ _ rfl]; rfl⟩
  | 3, _ => exact ⟨1000000000, by rw [World.cell?_alloc_at _ _ _ _ rfl]; rfl⟩
  | 4, _ => exact ⟨1000000001, by rw [World.cell?_alloc_at _ _ _ _ rfl]; rfl⟩
  | 5, _ => exact ⟨4294967297, by rw [World.cell?_alloc_at _ _ _ _ rfl]; rfl⟩

set_option maxRecDepth 20000 in
set_option maxHeartbeats 8000000 in
theorem l3Spoil_any (b base : Nat) (a : Option Addr) (n c : Nat) (p : Int) (k : Int) (sum name : ByteArray) (m : Int) (t : ByteArray) (ra : Option Addr) (rc : Nat) (ss : List ByteArray) (w : World) (h : RdSt w b a n c p) (hp : 0 ≤ p) (hp2 : p ≤ 700000)
    (ho : w.ownsRow base 9 1 (.slice ra ss.length rc) ss.length (ss.map Value.string)) (hfar : ∀ j, (Value.slice ra ss.length rc).ownBlock = some j → j ≠ b) (hbase : base ≤ w.heap.size) (hS : SmallE sum name t ss 8 41 16 3) :
    Calls Tryd.prog 43 #[.pointer (some ⟨b, 0, none⟩), .agg #[.int .i64 k, .string sum, .string name, .int .i64 m, .string t, .slice ra ss.length rc]] w fun e w' => EntSp w w' e b base a n c p 3 (Value.slice ra ss.length rc).ownBlock 9 41 2001 31 := by
  have hbl := h.lt
  obtain ⟨W0, hW0⟩ : ∃ W0, W0 = w.alloc (.cells #[.int .i64 k, .string sum, .string name, .int .i64 m, .string t, .slice ra ss.length rc] 31) := ⟨_, rfl⟩
  have h00 : Below w.heap.size w W0 := by rw [hW0]; exact (Below.refl _ _).alloc (Nat.le_refl _) _
  have hz00 : W0.heap.size = w.heap.size + 1 := by rw [hW0]; simp
  have T0 : CellsAt W0 w.heap.size [.int .i64 k, .string sum, .string name, .int .i64 m, .string t, .slice ra ss.length rc] := by rw [hW0]; exact CellsAt.new w _ _
  obtain ⟨W, hW⟩ : ∃ W, W = W0.alloc (.cells #[.int .i64 0, .string ⟨#[]⟩, .string ⟨#[]⟩, .int .i64 0, .string ⟨#[]⟩, .slice none 0 0] 31) := ⟨_, rfl⟩
  have h01 : Below W0.heap.size W0 W := by rw [hW]; exact (Below.refl _ _).alloc (Nat.le_refl _) _
  have R1 : CellsAt W W0.heap.size [.int .i64 0, .string ⟨#[]⟩, .string ⟨#[]⟩, .int .i64 0, .string ⟨#[]⟩, .slice none 0 0] := by rw [hW]; exact CellsAt.new W0 _ _
  have hB1 : Below w.heap.size w W := h00.trans (h01.mono h00.size)
  obtain ⟨R, hR⟩ : ∃ R, R = W0.heap.size := ⟨_, rfl⟩
  have hRw : w.heap.size < R := by omega
  have HZ : Hid (w.heap.size + 1 = R) := by show _ = _; omega
  have F0 : Hid (GE w W b w.heap.size R base a n c k sum name m t ra rc ss p) := by
    rw [← hR] at R1
    refine ⟨T0.below h01, ho.kept (grown_below none hB1) (Classical.em _), fun j hj => ?_, h.below hB1, R1, grown_below _ hB1⟩
    have := (ho.lt j hj).2
    exact ⟨hfar j hj, by omega, by omega⟩
  have HW0 : Hid _ := hW0
  have HW : Hid _ := hW
  have HOB : Hid (∀ j, (Value.slice ra ss.length rc).ownBlock = some j → (Value.slice ra ss.length rc).ownBlock = some j ∨ w.heap.size ≤ j) := fun j e => .inl e
  have hQR : w.heap.size ≠ R := by omega
  have hbR : b < R := by omega
  have hwR : w.heap.size ≤ R := by omega
  clear hW0 hW hR h00 h01 T0 R1 hB1 hz00 h ho hfar
  go_enter Tryd.func43, Tryd.ntmps43
  go_upto_region 1 with fail
  rw [← HW0.out, ← HW.out, HZ.out]
  clear HW0 HW HZ
  go_wp2_with fail
  refine (pick_any b a n c p 6 W F0.out.rd hp (by omega) (by omega) (by omega)).mono ?_
  rintro e w1 ⟨r, rfl, r0, r1, s1, g1⟩
  have F1 : Hid _ := F0.out.pick hbl hbR s1 g1
  clear F0 s1 g1
  have hne1 : ¬ R = w.heap.size := by omega
  by_cases c0 : r = 0
  · subst c0
    go_wp2_with fail
    refine (pick_any b a n c (p + 1) 10 w1 F1.out.rd (by omega) (by omega) (by omega) (by omega)).mono ?_
    rintro e w2 ⟨r', rfl, r0', r1', s2, g2⟩
    have F2 : Hid _ := F1.out.pick hbl hbR s2 g2
    have wk : IntKind.i64.wrap (r' - 1) = r' - 1 := wrap_small (by omega) (by omega)
    clear F1 s2 g2
    have FF : Hid (GE w (w2.setCell ⟨w.heap.size, 0, none⟩ (.int .i64 (r' - 1))) b w.heap.size R base a n c (r' - 1) sum name m t ra rc ss (p + 1 + 1)) := by
      obtain ⟨q1, q2, q3, q4⟩ := F2.out.set hbl (Nat.le_refl _) hQR 0 (.int .i64 (r' - 1))
      exact ⟨F2.out.cB.set 0 _, q1, F2.out.far, q2, q3, q4⟩
    obtain ⟨x0, f0⟩ := F2.out.cB 0 _ rfl
    obtain ⟨x1, f1⟩ := F2.out.cB 1 _ rfl
    obtain ⟨x2, f2⟩ := F2.out.cB 2 _ rfl
    obtain ⟨x3, f3⟩ := F2.out.cB 3 _ rfl
    obtain ⟨x4, f4⟩ := F2.out.cB 4 _ rfl
    obtain ⟨x5, f5⟩ := F2.out.cB 5 _ rfl
    obtain ⟨y0, q0⟩ := F2.out.res 0 _ rfl
    obtain ⟨y1, q1⟩ := F2.out.res 1 _ rfl
    obtain ⟨y2, q2⟩ := F2.out.res 2 _ rfl
    obtain ⟨y3, q3⟩ := F2.out.res 3 _ rfl
    obtain ⟨y4, q4⟩ := F2.out.res 4 _ rfl
    obtain ⟨y5, q5⟩ := F2.out.res 5 _ rfl
    go_wp2
    refine bodyPost_ret (v := .agg #[.int .i64 (r' - 1), .string sum, .string name, .int .i64 m, .string t, .slice ra ss.length rc]) (by simp [results, Tryd.results43, go_sem, *]) rfl ?_
    exact FF.out.fin hbR hwR ⟨by have := hS.lsum; omega, hS.lname, by have := hS.ltext; omega, by have := hS.lss; omega, hS.lrefs⟩ (by omega) (by omega) HOB.out
  have d0 : (r == 0) = false := by simpa using c0
  by_cases c1 : r = 1
  · subst c1
    obtain ⟨W7, hW7⟩ : ∃ W7, W7 = w1.alloc (.cells #[.int .i64 0, .int .i64 (-1), .int .i64 100001, .int .i64 1000000000, .int .i64 1000000001, .int .i64 4294967297] 3) := ⟨_, rfl⟩
    have h67 : Below w1.heap.size w1 W7 := by rw [hW7]; exact (Below.refl _ _).alloc (Nat.le_refl _) _
    have F7 : Hid _ := F1.out.below h67
    have HN : Hid (∀ k : Nat, k < 6 → ∃ x : Int, W7.cell? ⟨w1.heap.size, k, none⟩ = some (.int .i64 x)) := fun k hk => by rw [hW7]; exact num_cell6 w1 k hk
    have hz67 : b < w1.heap.size := F1.out.rd.lt
    have hzW7 : w1.heap.size < W7.heap.size := by rw [hW7]; simp
    have HW7 : Hid _ := hW7
    clear hW7 h67
    go_wp2_with fail
    rw [← HW7.out]
    clear HW7
    refine (pick_any b a n c (p + 1) 6 W7 F7.out.rd (by omega) (by omega) (by omega) (by omega)).mono ?_
    rintro e w2 ⟨r', rfl, r0', r1', s8, g8⟩
    obtain ⟨j, rfl⟩ : ∃ j : Nat, r' = j := ⟨r'.toNat, by omega⟩
    obtain ⟨X, hX⟩ := HN.out j (by omega)
    have F2 : Hid _ := F7.out.pick hbl hbR s8 g8
    have hX8 := (g8.cell_far ⟨w1.heap.size, j, none⟩ hzW7 (sne hz67)).trans hX
    clear hX HN F7 s8 g8 F1
    have FF : Hid (GE w (w2.setCell ⟨w.heap.size, 3, none⟩ (.int .i64 X)) b w.heap.size R base a n c k sum name X t ra rc ss (p + 1 + 1)) := by
      obtain ⟨q1, q2, q3, q4⟩ := F2.out.set hbl (Nat.le_refl _) hQR 3 (.int .i64 X)
      exact ⟨F2.out.cB.set 3 _, q1, F2.out.far, q2, q3, q4⟩
    obtain ⟨x0, f0⟩ := F2.out.cB 0 _ rfl
    obtain ⟨x1, f1⟩ := F2.out.cB 1 _ rfl
    obtain ⟨x2, f2⟩ := F2.out.cB 2 _ rfl
    obtain ⟨x3, f3⟩ := F2.out.cB 3 _ rfl
    obtain ⟨x4, f4⟩ := F2.out.cB 4 _ rfl
    obtain ⟨x5, f5⟩ := F2.out.cB 5 _ rfl
    obtain ⟨y0, q0⟩ := F2.out.res 0 _ rfl
    obtain ⟨y1, q1⟩ := F2.out.res 1 _ rfl
    obtain ⟨y2, q2⟩ := F2.out.res 2 _ rfl
    obtain ⟨y3, q3⟩ := F2.out.res 3 _ rfl
    obtain ⟨y4, q4⟩ := F2.out.res 4 _ rfl
    obtain ⟨y5, q5⟩ := F2.out.res 5 _ rfl
    go_wp2
    refine bodyPost_ret (v := .agg #[.int .i64 k, .string sum, .string name, .int .i64 X, .string t, .slice ra ss.length rc]) (by simp [results, Tryd.results43, go_sem, *]) rfl ?_
    exact FF.out.fin hbR hwR ⟨by have := hS.lsum; omega, hS.lname, by have := hS.ltext; omega, by have := hS.lss; omega, hS.lrefs⟩ (by omega) (by omega) HOB.out
  have d1 : (r == 1) = false := by simpa using c1
  by_cases c2 : r = 2
  · subst c2
    have hmk := l1Many_any ⟨#[110]⟩ 41 w1 (by decide) (by decide)
    have HM : Hid _ := hmk
    clear hmk
    go_wp2_with fail
    refine Calls.mono HM.out ?_
    rintro e w7 ⟨T, rfl, hT, hw7⟩
    rw [hw7]
    clear hw7 w7
    have hT41 : T.size ≤ 41 := by rw [hT]; decide
    obtain ⟨W7, hW7⟩ : ∃ W7, W7 = w1.alloc (.cells #[.string ⟨#[]⟩, .string ⟨#[97, 32, 98]⟩, .string T] 9) := ⟨_, rfl⟩
    have h67 : Below w1.heap.size w1 W7 := by rw [hW7]; exact (Below.refl _ _).alloc (Nat.le_refl _) _
    have F7 : Hid _ := F1.out.below h67
    have HN : Hid (∀ k : Nat, k < 3 → ∃ X : ByteArray, W7.cell? ⟨w1.heap.size, k, none⟩ = some (.string X) ∧ X.size ≤ 41) := fun k hk => by rw [hW7]; exact name_cell3 w1 T hT41 k hk
    have hz67 : b < w1.heap.size := F1.out.rd.lt
    have hzW7 : w1.heap.size < W7.heap.size := by rw [hW7]; simp
    have HW7 : Hid _ := hW7
    clear hW7 h67 hT
    go_wp2_with fail
    rw [← HW7.out]
    clear HW7
    refine (pick_any b a n c (p + 1) 3 W7 F7.out.rd (by omega) (by omega) (by omega) (by omega)).mono ?_
    rintro e w2 ⟨r', rfl, r0', r1', s8, g8⟩
    obtain ⟨j, rfl⟩ : ∃ j : Nat, r' = j := ⟨r'.toNat, by omega⟩
    obtain ⟨X, hX, hXs⟩ := HN.out j (by omega)
    have F2 : Hid _ := F7.out.pick hbl hbR s8 g8
    have hX8 := (g8.cell_far ⟨w1.heap.size, j, none⟩ hzW7 (sne hz67)).trans hX
    clear hX HN F7 s8 g8 F1 hT41
    have FF : Hid (GE w (w2.setCell ⟨w.heap.size, 2, none⟩ (.string X)) b w.heap.size R base a n c k sum X m t ra rc ss (p + 1 + 1)) := by
      obtain ⟨q1, q2, q3, q4⟩ := F2.out.set hbl (Nat.le_refl _) hQR 2 (.string X)
      exact ⟨F2.out.cB.set 2 _, q1, F2.out.far, q2, q3, q4⟩
    obtain ⟨x0, f0⟩ := F2.out.cB 0 _ rfl
    obtain ⟨x1, f1⟩ := F2.out.cB 1 _ rfl
    obtain ⟨x2, f2⟩ := F2.out.cB 2 _ rfl
    obtain ⟨x3, f3⟩ := F2.out.cB 3 _ rfl
    obtain ⟨x4, f4⟩ := F2.out.cB 4 _ rfl
    obtain ⟨x5, f5⟩ := F2.out.cB 5 _ rfl
    obtain ⟨y0, q0⟩ := F2.out.res 0 _ rfl
    obtain ⟨y1, q1⟩ := F2.out.res 1 _ rfl
    obtain ⟨y2, q2⟩ := F2.out.res 2 _ rfl
    obtain ⟨y3, q3⟩ := F2.out.res 3 _ rfl
    obtain ⟨y4, q4⟩ := F2.out.res 4 _ rfl
    obtain ⟨y5, q5⟩ := F2.out.res 5 _ rfl
    go_wp2
    refine bodyPost_ret (v := .agg #[.int .i64 k, .string sum, .string X, .int .i64 m, .string t, .slice ra ss.length rc]) (by simp [results, Tryd.results43, go_sem, *]) rfl ?_
    exact FF.out.fin hbR hwR ⟨by have := hS.lsum; omega, hXs, by have := hS.ltext; omega, by have := hS.lss; omega, hS.lrefs⟩ (by omega) (by omega) HOB.out
  have d2 : (r == 2) = false := by simpa using c2
  by_cases c3 : r = 3
  · subst c3
    have FF : Hid (GE w (w1.setCell ⟨w.heap.size, 1, none⟩ (.string (sum ++ ⟨#[120]⟩))) b w.heap.size R base a n c k (sum ++ ⟨#[120]⟩) name m t ra rc ss (p + 1)) := by
      obtain ⟨q1, q2, q3, q4⟩ := F1.out.set hbl (Nat.le_refl _) hQR 1 (.string (sum ++ ⟨#[120]⟩))
      exact ⟨F1.out.cB.set 1 _, q1, F1.out.far, q2, q3, q4⟩
    obtain ⟨x0, f0⟩ := F1.out.cB 0 _ rfl
    obtain ⟨x1, f1⟩ := F1.out.cB 1 _ rfl
    obtain ⟨x2, f2⟩ := F1.out.cB 2 _ rfl
    obtain ⟨x3, f3⟩ := F1.out.cB 3 _ rfl
    obtain ⟨x4, f4⟩ := F1.out.cB 4 _ rfl
    obtain ⟨x5, f5⟩ := F1.out.cB 5 _ rfl
    obtain ⟨y0, q0⟩ := F1.out.res 0 _ rfl
    obtain ⟨y1, q1⟩ := F1.out.res 1 _ rfl
    obtain ⟨y2, q2⟩ := F1.out.res 2 _ rfl
    obtain ⟨y3, q3⟩ := F1.out.res 3 _ rfl
    obtain ⟨y4, q4⟩ := F1.out.res 4 _ rfl
    obtain ⟨y5, q5⟩ := F1.out.res 5 _ rfl
    have hss : sum.size ≤ 8 := hS.lsum
    go_wp2
    refine bodyPost_ret (v := .agg #[.int .i64 k, .string (sum ++ ⟨#[120]⟩), .string name, .int .i64 m, .string t, .slice ra ss.length rc]) (by simp [results, Tryd.results43, go_sem, *]) rfl ?_
    exact FF.out.fin hbR hwR ⟨by rw [ByteArray.size_append]; show sum.size + 1 ≤ 9; have := hS.lsum; omega, hS.lname, by have := hS.ltext; omega, by have := hS.lss; omega, hS.lrefs⟩ (by omega) (by omega) HOB.out
  have d3 : (r == 3) = false := by simpa using c3
  by_cases c4 : r = 4
  · subst c4
    have HN : Hid _ := own_nilD F1.out.own
    have hQ1 : w.heap.size < w1.heap.size := F1.out.cB.lt
    have hR1 : R < w1.heap.size := F1.out.res.lt
    obtain ⟨x4, f4⟩ := F1.out.cB 4 _ rfl
    obtain ⟨x5, f5⟩ := F1.out.cB 5 _ rfl
    go_wp2_with fail
    refine (spoilThing_any b a n c (p + 1) t ra rc ss w1 F1.out.rd (by omega) (by omega) HN.out.1 HN.out.2 hS.ltext hS.lss hS.lrefs).mono ?_
    rintro e w6 ⟨⟨t', ra', rc', ss', rfl, ht', hl', hs', ho'⟩, ⟨p6, s6, l6, u6⟩, g6⟩
    have F6 : Hid _ := F1.out.pick hbl hbR s6 g6
    have FF : Hid (GE w ((w6.setCell ⟨w.heap.size, 4, none⟩ (.string t')).setCell ⟨w.heap.size, 5, none⟩ (.slice ra' ss'.length rc')) b w.heap.size R base a n c k sum name m t' ra' rc' ss' p6) := by
      refine ⟨(F6.out.cB.set 4 _).set 5 _, ?_, ?_, ?_, ?_, ?_⟩
      · exact (ownsRow_setCell_below (ownsRow_setCell_below ho' (a := ⟨w.heap.size, 4, none⟩) hQ1 _) (a := ⟨w.heap.size, 5, none⟩) hQ1 _).mono (by omega)
      · intro j hj
        have := ho'.lt j hj
        omega
      · exact (F6.out.rd.grown (rd_grown _ w.heap.size 4 _) hbl).grown (rd_grown _ w.heap.size 5 _) hbl
      · exact (F6.out.res.far' (rd_grown _ w.heap.size 4 _) (by omega)).far' (rd_grown _ w.heap.size 5 _) (by omega)
      · exact (F6.out.gr.andThen (rd_grown _ w.heap.size 4 _) (fun i e => by cases e; exact .inl (by omega))).andThen (rd_grown _ w.heap.size 5 _) (fun i e => by cases e; exact .inl (by omega))
    have HOB' : Hid (∀ j, (Value.slice ra' ss'.length rc').ownBlock = some j → (Value.slice ra ss.length rc).ownBlock = some j ∨ w.heap.size ≤ j) := fun j hj => .inr (by have := ho'.lt j hj; omega)
    clear x4 f4 x5 f5 HN F1 s6 g6 ho'
    obtain ⟨x0, f0⟩ := F6.out.cB 0 _ rfl
    obtain ⟨x1, f1⟩ := F6.out.cB 1 _ rfl
    obtain ⟨x2, f2⟩ := F6.out.cB 2 _ rfl
    obtain ⟨x3, f3⟩ := F6.out.cB 3 _ rfl
    obtain ⟨x4, f4⟩ := F6.out.cB 4 _ rfl
    obtain ⟨x5, f5⟩ := F6.out.cB 5 _ rfl
    obtain ⟨y0, q0⟩ := F6.out.res 0 _ rfl
    obtain ⟨y1, q1⟩ := F6.out.res 1 _ rfl
    obtain ⟨y2, q2⟩ := F6.out.res 2 _ rfl
    obtain ⟨y3, q3⟩ := F6.out.res 3 _ rfl
    obtain ⟨y4, q4⟩ := F6.out.res 4 _ rfl
    obtain ⟨y5, q5⟩ := F6.out.res 5 _ rfl
    go_wp2
    refine bodyPost_ret (v := .agg #[.int .i64 k, .string sum, .string name, .int .i64 m, .string t', .slice ra' ss'.length rc']) (by simp [results, Tryd.results43, go_sem, *]) rfl ?_
    exact FF.out.fin hbR hwR ⟨by have := hS.lsum; omega, hS.lname, ht', hl', hs'⟩ (by omega) (by omega) HOB'.out
  have d4 : (r == 4) = false := by simpa using c4
  have FF : Hid (GE w (w1.setCell ⟨w.heap.size, 4, none⟩ (.string ⟨#[116]⟩)) b w.heap.size R base a n c k sum name m ⟨#[116]⟩ ra rc ss (p + 1)) := by
    obtain ⟨q1, q2, q3, q4⟩ := F1.out.set hbl (Nat.le_refl _) hQR 4 (.string ⟨#[116]⟩)
    exact ⟨F1.out.cB.set 4 _, q1, F1.out.far, q2, q3, q4⟩
  obtain ⟨x0, f0⟩ := F1.out.cB 0 _ rfl
  obtain ⟨x1, f1⟩ := F1.out.cB 1 _ rfl
  obtain ⟨x2, f2⟩ := F1.out.cB 2 _ rfl
  obtain ⟨x3, f3⟩ := F1.out.cB 3 _ rfl
  obtain ⟨x4, f4⟩ := F1.out.cB 4 _ rfl
  obtain ⟨x5, f5⟩ := F1.out.cB 5 _ rfl
  obtain ⟨y0, q0⟩ := F1.out.res 0 _ rfl
  obtain ⟨y1, q1⟩ := F1.out.res 1 _ rfl
  obtain ⟨y2, q2⟩ := F1.out.res 2 _ rfl
  obtain ⟨y3, q3⟩ := F1.out.res 3 _ rfl
  obtain ⟨y4, q4⟩ := F1.out.res 4 _ rfl
  obtain ⟨y5, q5⟩ := F1.out.res 5 _ rfl
  go_wp2
  refine bodyPost_ret (v := .agg #[.int .i64 k, .string sum, .string name, .int .i64 m, .string ⟨#[116]⟩, .slice ra ss.length rc]) (by simp [results, Tryd.results43, go_sem, *]) rfl ?_
  exact FF.out.fin hbR hwR ⟨by have := hS.lsum; omega, hS.lname, by decide, by have := hS.lss; omega, hS.lrefs⟩ (by omega) (by omega) HOB.out
end Go.Proofs.YtdecihmplkgfkaaDoor
