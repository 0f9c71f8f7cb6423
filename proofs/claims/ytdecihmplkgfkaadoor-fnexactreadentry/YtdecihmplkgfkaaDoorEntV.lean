/-
  impl's entryReader: entry.
-/
import Derived.Test.YtdecihmplkgfkaaDoorEntU
namespace Go.Proofs.YtdecihmplkgfkaaDoor
open Go.ChangeShapes Go.WideShapes Go.ChangeAt Go.RowKit

set_option maxRecDepth 20000 in
set_option maxHeartbeats 8000000 in
theorem entry_any (b : Nat) (s : ByteArray) (wd : Int) (w : World) (h : RSt w b s 0 false) (he : Env w) (ha : Above b) (hs : s.size ≤ 1048576) :
    Calls Tryd.prog 33 #[.pointer (some ⟨b, 0, none⟩), .int .i64 wd] w fun e w' => ∃ v, e = .returned (.agg #[.int .i64 (e_k s wd), .string (e_t5 s wd).1, .string (e_t4 s wd).1, .int .i64 (e_n s wd), .string (e_th s wd).1, v]) ∧
      w'.ownsRow w.heap.size 9 1 v (e_th s wd).2.length ((e_th s wd).2.map Value.string) ∧ RSt w' b (e_t6 s wd).1 (e_k s wd) (e_b9 s wd) ∧ w.grownBy w' (some b) := by
  have hbl := h.lt
  have HA : Hid _ := ha
  obtain ⟨W, hW⟩ : ∃ W, W = w.alloc (.cells #[.int .i64 0, .string ⟨#[]⟩, .string ⟨#[]⟩, .int .i64 0, .string ⟨#[]⟩, .slice none 0 0] 31) := ⟨_, rfl⟩
  have hwW : Below w.heap.size w W := by rw [hW]; exact (Below.refl _ _).alloc (Nat.le_refl _) _
  have E0 : Hid (EW w W b s 0 false) := ⟨h.below hwW, he.below hwW, grown_below _ hwW, by rw [hW]; exact CellsAt.new w _ _⟩
  have HW : Hid _ := hW
  clear hW h he ha hwW
  obtain ⟨gt, gv, hg⟩ := E0.out.env.er 0 (by simp)
  go_enter Tryd.func33, Tryd.ntmps33
  go_upto_region 1 with fail
  rw [← HW.out]
  clear HW
  have hwd : decide (1 ≤ wd ∧ wd ≤ 8) = !e_b0 wd := by unfold e_b0; simp
  -- the width
  go_upto_if 10 with (go_at_call 46; refine (isWidthE wd _).mono ?_; rintro e w' ⟨rfl, hw'⟩; rw [hw']; clear hw' w')
  go_cut [] (fun wx => Hid (EW w wx b s 0 (e_b0 wd)))
  case first =>
    cases hb0 : e_b0 wd with
    | true =>
      go_wp2_with fail
      refine (fail_any b _ _ _ gt gv W E0.out.rs).mono ?_
      rintro e w1 ⟨rfl, h1, g1⟩
      go_wp2_with fail
      go_meet
      rw [hb0]
      exact E0.out.step HA.out hbl h1 g1
    | false =>
      go_wp2_with fail
      go_meet
      rw [hb0]
      exact E0.out
  case rest =>
  revert wc
  intro w1 E1
  clear E0 hg hwd
  -- the kind
  obtain ⟨st, sv, hg⟩ := E1.out.env.er 6 (by simp)
  go_wp2_with fail
  refine (number_any b s 0 (e_b0 wd) 1 st sv w1 E1.out.rs (by omega) hg).mono ?_
  rintro e w2 ⟨rfl, h2, g2⟩
  have E2 : Hid (EW w w2 b (e_t1 s wd).2.1 0 (e_t1 s wd).2.2) := E1.out.step HA.out hbl h2 g2
  rw [show numB (takeR s (e_b0 wd) (1 : Nat)).1.data.toList = e_k s wd from rfl]
  obtain ⟨W3, hW3⟩ : ∃ W3, W3 = w2.setCell ⟨b, 1, none⟩ (.int .i64 (e_k s wd)) := ⟨_, rfl⟩
  have E3 : Hid (EW w W3 b (e_t1 s wd).2.1 (e_k s wd) (e_t1 s wd).2.2) := by
    rw [hW3]
    exact E2.out.step HA.out hbl (E2.out.rs.setKind _) (rd_grown _ _ _ _)
  obtain ⟨er2, _, x0, x1, x2, f0, f1, f2⟩ := E2.out.rs
  have HW3 : Hid _ := hW3
  clear hW3 h2 g2 hg E1
  go_upto_region 4 with fail
  rw [← HW3.out]
  clear HW3 x0 x1 x2 f0 f1 f2 E2
  obtain ⟨er3, _, x0, x1, x2, f0, f1, f2⟩ := E3.out.rs
  go_wp2_with fail
  refine (partsOf_any (e_k s wd) W3 E3.out.env.tab).mono ?_
  rintro e w4 ⟨rfl, hb4⟩
  have E4 : Hid (EW w w4 b (e_t1 s wd).2.1 (e_k s wd) (e_t1 s wd).2.2) := E3.out.below hb4
  obtain ⟨W5, hW5⟩ : ∃ W5, W5 = w4.alloc (.cells #[.bool (uName (e_k s wd)), .bool (uSum (e_k s wd)), .bool (uThing (e_k s wd)), .int .i64 (uMost (e_k s wd))] 89) := ⟨_, rfl⟩
  have h45 : Below w4.heap.size w4 W5 := by rw [hW5]; exact (Below.refl _ _).alloc (Nat.le_refl _) _
  have E5 : Hid (EW w W5 b (e_t1 s wd).2.1 (e_k s wd) (e_t1 s wd).2.2) := E4.out.below h45
  obtain ⟨U, hU⟩ : ∃ U, U = w4.heap.size := ⟨_, rfl⟩
  have U5 : Hid (CellsAt W5 U [.bool (uName (e_k s wd)), .bool (uSum (e_k s wd)), .bool (uThing (e_k s wd)), .int .i64 (uMost (e_k s wd))]) := by rw [hW5, hU]; exact CellsAt.new w4 _ _
  have hUw : w.heap.size < U := by rw [hU]; exact E4.out.lt
  have HW5 : Hid _ := hW5
  have HU : Hid _ := hU
  clear hW5 hU h45 hb4 E3 E4 x0 x1 x2 f0 f1 f2
  obtain ⟨gt, gv, hg⟩ := E5.out.env.er 1 (by simp)
  go_upto_region 5 with fail
  rw [← HW5.out, ← HU.out]
  clear HW5 HU
  go_upto_if 28 with fail
  go_cut [6] (fun _ wx => Hid (EW w wx b (e_t1 s wd).2.1 (e_k s wd) (e_b2 s wd)) ∧ Hid (CellsAt wx U [.bool (uName (e_k s wd)), .bool (uSum (e_k s wd)), .bool (uThing (e_k s wd)), .int .i64 (uMost (e_k s wd))]))
  case first =>
    cases hi : inK (e_k s wd) with
    | true =>
      go_wp2_with fail
      go_meet
      refine ⟨?_, U5.out⟩
      rw [show e_b2 s wd = (e_t1 s wd).2.2 by unfold e_b2; rw [hi]; simp]
      exact E5.out
    | false =>
      go_wp2_with fail
      refine (fail_any b _ _ _ gt gv W5 E5.out.rs).mono ?_
      rintro e w6 ⟨rfl, h6, g6⟩
      go_wp2_with fail
      go_meet
      refine ⟨?_, U5.out.far g6 (by omega)⟩
      rw [show e_b2 s wd = true by unfold e_b2; rw [hi]; simp]
      exact E5.out.step HA.out hbl h6 g6
  case rest =>
  revert wc
  intro w6 hcut
  obtain ⟨E6, U6⟩ := hcut
  clear E5 U5 hg
  -- the number
  obtain ⟨B7, hB7⟩ : ∃ B7 : Nat, B7 = 0 := ⟨_, rfl⟩
  clear hB7 B7
  have D6 : Hid _ := E6.out.below ((Below.refl w6.heap.size w6).drew)
  have hza : Below w6.heap.size w6 (w6.alloc (.cells #[.int .i64 0, .string ⟨#[]⟩, .string ⟨#[]⟩, .int .i64 0, .string ⟨#[]⟩, .slice none 0 0] 31)) := (Below.refl _ _).alloc (Nat.le_refl _) _
  have D6' : Hid _ := E6.out.below hza.drew
  have Z6' : Hid (CellsAt (w6.alloc (.cells #[.int .i64 0, .string ⟨#[]⟩, .string ⟨#[]⟩, .int .i64 0, .string ⟨#[]⟩, .slice none 0 0] 31)).drew w6.heap.size [.int .i64 0, .string ⟨#[]⟩, .string ⟨#[]⟩, .int .i64 0, .string ⟨#[]⟩, .slice none 0 0]) := CellsAt.new w6 _ _
  obtain ⟨er6, _, x0, x1, x2, f0, f1, f2⟩ := E6.out.rs
  have xa1 : (w6.alloc (.cells #[.int .i64 0, .string ⟨#[]⟩, .string ⟨#[]⟩, .int .i64 0, .string ⟨#[]⟩, .slice none 0 0] 31)).cell? ⟨b, 1, none⟩ = some (.int .i64 (e_k s wd)) := (hza.cell (p := ⟨b, 1, none⟩) E6.out.rs.lt).trans x1
  obtain ⟨gt, gv, hg⟩ := D6.out.env.er 6 (by simp)
  obtain ⟨gt', gv', hg'⟩ := D6'.out.env.er 6 (by simp)
  have hbl6 := E6.out.rs.lt
  have hw6 := E6.out.lt
  clear hza
  go_upto_region 7 with fail
  go_cut [7] (fun v wx => ∃ B7 : Nat, v = .pointer (some ⟨B7, 0, none⟩) ∧ w6.heap.size ≤ B7 ∧ Hid (EW w wx b (e_t2 s wd).2.1 (e_k s wd) (e_t2 s wd).2.2) ∧ Hid (w6.grownBy wx (some b)) ∧ Hid (CellsAt wx B7 [.int .i64 (e_k s wd), .string ⟨#[]⟩, .string ⟨#[]⟩, .int .i64 (e_n s wd), .string ⟨#[]⟩, .slice none 0 0]))
  case first =>
    go_region_with (first
      | (go_at_call 62; refine (number_any b _ _ _ 4 gt gv w6.drew D6.out.rs (by omega) hg).mono ?_; rintro e w7 ⟨rfl, h7, g7⟩; have E7 : Hid (EW w w7 b (e_t2 s wd).2.1 (e_k s wd) (e_t2 s wd).2.2) := D6.out.step HA.out hbl h7 g7; obtain ⟨er7, _, y0, y1, y2, _, _, _⟩ := h7; have tagA := g7; have hl7 := E7.out.rs.lt)
      | (go_at_call 62; refine (number_any b _ _ _ 4 gt' gv' _ D6'.out.rs (by omega) hg').mono ?_; rintro e w7 ⟨rfl, h7, g7⟩; have E7 : Hid (EW w w7 b (e_t2 s wd).2.1 (e_k s wd) (e_t2 s wd).2.2) := D6'.out.step HA.out hbl h7 g7; obtain ⟨er7, _, y0, y1, y2, _, _, _⟩ := h7; have Z7 := CellsAt.far Z6'.out g7 hbl6; have z0 := (Z7 0 _ rfl); have z1 := (Z7 1 _ rfl); have z2 := (Z7 2 _ rfl); have z3 := (Z7 3 _ rfl); have z4 := (Z7 4 _ rfl); have z5 := (Z7 5 _ rfl); obtain ⟨z0, y0f⟩ := z0; obtain ⟨z1, y1f⟩ := z1; obtain ⟨z2, y2f⟩ := z2; obtain ⟨z3, y3f⟩ := z3; obtain ⟨z4, y4f⟩ := z4; obtain ⟨z5, y5f⟩ := z5; have tagB := g7; have hl7 := E7.out.rs.lt))
    all_goals go_wp2_with fail
    all_goals go_meet
    all_goals first
      | (have hA : Below w7.heap.size w7 (w7.alloc (.cells #[.int .i64 (e_k s wd), .string ⟨#[]⟩, .string ⟨#[]⟩, .int .i64 (e_n s wd), .string ⟨#[]⟩, .slice none 0 0] 31)) := (Below.refl _ _).alloc (Nat.le_refl _) _
         exact ⟨w7.heap.size, rfl, tagA.size, E7.out.below hA, ((grown_below (some b) (Below.refl w6.heap.size w6).drew).trans tagA).trans (grown_below _ hA), CellsAt.new w7 _ _⟩)
      | (have hz6 : w.heap.size < w6.heap.size := hw6
         refine ⟨w6.heap.size, rfl, Nat.le_refl _, ?_, ?_, ?_⟩
         · exact (((((E7.out.set HA.out hbl w6.heap.size 0 _ hz6).set HA.out hbl w6.heap.size 1 _ hz6).set HA.out hbl w6.heap.size 2 _ hz6).set HA.out hbl w6.heap.size 3 _ hz6).set HA.out hbl w6.heap.size 4 _ hz6).set HA.out hbl w6.heap.size 5 _ hz6
         · have g0 : w6.grownBy w7 (some b) := (grown_below (some b) ((Below.refl w6.heap.size w6).alloc (Nat.le_refl _) _).drew).trans tagB
           exact (((((g0.andThen (rd_grown _ w6.heap.size 0 _) (fun j e => by cases e; exact .inl (Nat.le_refl _))).andThen (rd_grown _ w6.heap.size 1 _) (fun j e => by cases e; exact .inl (Nat.le_refl _))).andThen (rd_grown _ w6.heap.size 2 _) (fun j e => by cases e; exact .inl (Nat.le_refl _))).andThen (rd_grown _ w6.heap.size 3 _) (fun j e => by cases e; exact .inl (Nat.le_refl _))).andThen (rd_grown _ w6.heap.size 4 _) (fun j e => by cases e; exact .inl (Nat.le_refl _))).andThen (rd_grown _ w6.heap.size 5 _) (fun j e => by cases e; exact .inl (Nat.le_refl _))
         · exact (((((Z7.set 0 _).set 1 _).set 2 _).set 3 _).set 4 _).set 5 _)
  case rest =>
  revert wc
  intro w8 hcut
  obtain ⟨B7, rfl, hB7, E8, G8, Z8⟩ := hcut
  have hUB : U < B7 := Nat.lt_of_lt_of_le U6.out.lt hB7
  have U8 : Hid (CellsAt w8 U [.bool (uName (e_k s wd)), .bool (uSum (e_k s wd)), .bool (uThing (e_k s wd)), .int .i64 (uMost (e_k s wd))]) := U6.out.far G8.out (by omega)
  clear E6 U6 D6 D6' Z6' x0 x1 x2 f0 f1 f2 xa1 hg hg' G8
  have hB7w : w.heap.size < B7 := by omega
  -- the name
  obtain ⟨gt, gv, hg⟩ := E8.out.env.er 6 (by simp)
  go_wp2_with fail
  refine (number_any b _ _ _ 1 gt gv w8 E8.out.rs (by omega) hg).mono ?_
  rintro e w9 ⟨rfl, h9, g9⟩
  have E9 : Hid (EW w w9 b (e_t3 s wd).2.1 (e_k s wd) (e_t3 s wd).2.2) := E8.out.step HA.out hbl h9 g9
  have Z9 : Hid (CellsAt w9 B7 [.int .i64 (e_k s wd), .string ⟨#[]⟩, .string ⟨#[]⟩, .int .i64 (e_n s wd), .string ⟨#[]⟩, .slice none 0 0]) := Z8.out.far g9 (by omega)
  have U9 : Hid (CellsAt w9 U [.bool (uName (e_k s wd)), .bool (uSum (e_k s wd)), .bool (uThing (e_k s wd)), .int .i64 (uMost (e_k s wd))]) := U8.out.far g9 (by omega)
  rw [show numB (takeR (e_t2 s wd).2.1 (e_t2 s wd).2.2 (1 : Nat)).1.data.toList = e_m s wd from rfl]
  clear E8 Z8 U8 h9 g9 hg
  obtain ⟨gt, gv, hg⟩ := E9.out.env.er 6 (by simp)
  go_wp2_with fail
  refine (take_any b _ _ _ (e_m s wd) gt gv w9 E9.out.rs (fun _ => e_m_nonneg s wd) hg).mono ?_
  rintro e w10 ⟨rfl, h10, g10⟩
  have E10 : Hid (EW w w10 b (e_t4 s wd).2.1 (e_k s wd) (e_t4 s wd).2.2) := E9.out.step HA.out hbl h10 g10
  have Z10 : Hid (CellsAt w10 B7 [.int .i64 (e_k s wd), .string ⟨#[]⟩, .string ⟨#[]⟩, .int .i64 (e_n s wd), .string ⟨#[]⟩, .slice none 0 0]) := Z9.out.far g10 (by omega)
  have U10 : Hid (CellsAt w10 U [.bool (uName (e_k s wd)), .bool (uSum (e_k s wd)), .bool (uThing (e_k s wd)), .int .i64 (uMost (e_k s wd))]) := U9.out.far g10 (by omega)
  rw [show (takeR (e_t3 s wd).2.1 (e_t3 s wd).2.2 (e_m s wd)).1 = (e_t4 s wd).1 from rfl]
  clear E9 Z9 U9 h10 g10 hg
  obtain ⟨z2, zf2⟩ := Z10.out 2 _ rfl
  obtain ⟨W11, hW11⟩ : ∃ W11, W11 = w10.setCell ⟨B7, 2, none⟩ (.string (e_t4 s wd).1) := ⟨_, rfl⟩
  have E11 : Hid (EW w W11 b (e_t4 s wd).2.1 (e_k s wd) (e_t4 s wd).2.2) := by rw [hW11]; exact E10.out.set HA.out hbl B7 2 _ hB7w
  have Z11 : Hid (CellsAt W11 B7 [.int .i64 (e_k s wd), .string ⟨#[]⟩, .string (e_t4 s wd).1, .int .i64 (e_n s wd), .string ⟨#[]⟩, .slice none 0 0]) := by rw [hW11]; exact Z10.out.set 2 _
  have U11 : Hid (CellsAt W11 U [.bool (uName (e_k s wd)), .bool (uSum (e_k s wd)), .bool (uThing (e_k s wd)), .int .i64 (uMost (e_k s wd))]) := by rw [hW11]; exact U10.out.far' (rd_grown _ _ _ _) (by omega)
  have HW11 : Hid _ := hW11
  clear hW11 E10 Z10 U10
  go_upto_region 9 with fail
  rw [← HW11.out]
  clear HW11 z2 zf2
  -- the sum
  obtain ⟨u1, _⟩ := U11.out 1 _ rfl
  go_upto_if 45 with fail
  go_cut [] (fun wx => Hid (EW w wx b (e_t5 s wd).2.1 (e_k s wd) (e_t5 s wd).2.2) ∧ Hid (CellsAt wx U [.bool (uName (e_k s wd)), .bool (uSum (e_k s wd)), .bool (uThing (e_k s wd)), .int .i64 (uMost (e_k s wd))]) ∧ Hid (CellsAt wx B7 [.int .i64 (e_k s wd), .string (e_t5 s wd).1, .string (e_t4 s wd).1, .int .i64 (e_n s wd), .string ⟨#[]⟩, .slice none 0 0]))
  case first =>
    cases hu : uSum (e_k s wd) with
    | true =>
      have e5 : Hid (e_t5 s wd = takeR (e_t4 s wd).2.1 (e_t4 s wd).2.2 wd) := by show _ = _; unfold e_t5; rw [if_pos hu]
      obtain ⟨gt, gv, hg⟩ := E11.out.env.er 6 (by simp)
      go_wp2_with fail
      refine (take_any b _ _ _ wd gt gv W11 E11.out.rs (fun h => e_t4_bad h) hg).mono ?_
      rintro e w12 ⟨rfl, h12, g12⟩
      rw [← e5.out] at h12 ⊢
      have E12 := E11.out.step HA.out hbl h12 g12
      have Z12 := Z11.out.far g12 (by omega)
      have U12 := U11.out.far g12 (by omega)
      obtain ⟨z1, zf1⟩ := Z12 1 _ rfl
      clear h12 g12 hg u1 E11 Z11 U11
      go_wp2_with fail
      go_meet
      refine ⟨E12.set HA.out hbl B7 1 _ hB7w, ?_, Z12.set 1 _⟩
      exact U12.far' (rd_grown _ _ _ _) (by omega)
    | false =>
      have e5 : Hid (e_t5 s wd = (⟨#[]⟩, (e_t4 s wd).2)) := by show _ = _; unfold e_t5; rw [if_neg (by rw [hu]; decide)]
      go_wp2_with fail
      go_meet
      rw [e5.out]
      exact ⟨E11.out, U11.out, Z11.out⟩
  case rest =>
  revert wc
  intro w12 hcut
  obtain ⟨E12, U12, Z12⟩ := hcut
  clear E11 Z11 U11 u1
  -- the thing
  have HSZ : Hid _ := e_sizes (wd := wd) hs
  obtain ⟨u2, _⟩ := U12.out 2 _ rfl
  go_upto_if 51 with fail
  go_cut [] (fun wx => ∃ (ra : Option Addr) (rc : Nat), Hid (EW w wx b (e_t6 s wd).1 (e_k s wd) (e_t6 s wd).2) ∧ Hid (CellsAt wx B7 [.int .i64 (e_k s wd), .string (e_t5 s wd).1, .string (e_t4 s wd).1, .int .i64 (e_n s wd), .string (e_th s wd).1, .slice ra (e_th s wd).2.length rc]) ∧ Hid (wx.ownsRow (w.heap.size + 1) 9 1 (.slice ra (e_th s wd).2.length rc) (e_th s wd).2.length ((e_th s wd).2.map Value.string)))
  case first =>
    cases hu : uThing (e_k s wd) with
    | true =>
      have e6 : Hid (e_t6 s wd = (thRest (e_t5 s wd).2.1 (e_t5 s wd).2.2, thBad (e_t5 s wd).2.1 (e_t5 s wd).2.2 wd)) := by show _ = _; unfold e_t6; rw [if_pos hu]
      have et : Hid (e_th s wd = ((rd (thTk (e_t5 s wd).2.1 (e_t5 s wd).2.2) wd).1, (rd (thTk (e_t5 s wd).2.1 (e_t5 s wd).2.2) wd).2.1)) := by show _ = _; unfold e_th; rw [if_pos hu]
      go_wp2_with fail
      refine (thing_any b _ _ _ wd w12 E12.out.rs E12.out.env HA.out HSZ.out.2.1).mono ?_
      rintro e w13 ⟨v, rfl, ho, h13, g13⟩
      have t1 : (rd (thTk (e_t5 s wd).2.1 (e_t5 s wd).2.2) wd).1 = (e_th s wd).1 := by rw [et.out]
      have t2 : (rd (thTk (e_t5 s wd).2.1 (e_t5 s wd).2.2) wd).2.1 = (e_th s wd).2 := by rw [et.out]
      rw [t2] at ho
      rw [t1]
      clear t1 t2
      have h13 : RSt w13 b (e_t6 s wd).1 (e_k s wd) (e_t6 s wd).2 := by rw [e6.out]; exact h13
      obtain ⟨ra, rc, hv, _⟩ := own_form ho
      subst hv
      have E13 := E12.out.step HA.out hbl h13 g13
      have hw13 := E12.out.lt
      have Z13 := Z12.out.far g13 (by omega)
      have hB13 := Z13.lt
      obtain ⟨z4, zf4⟩ := Z13 4 _ rfl
      obtain ⟨z5, zf5⟩ := Z13 5 _ rfl
      have hB12 : B7 < w12.heap.size := Z12.out.lt
      clear h13 g13 u2 E12 U12 Z12 e6 et
      go_wp2_with fail
      go_meet
      exact ⟨ra, rc, (E13.set HA.out hbl B7 4 _ hB7w).set HA.out hbl B7 5 _ hB7w, (Z13.set 4 _).set 5 _, (ownsRow_setCell_below (ownsRow_setCell_below ho hB12 _) hB12 _).mono (by omega)⟩
    | false =>
      have e6 : Hid (e_t6 s wd = (e_t5 s wd).2) := by show _ = _; unfold e_t6; rw [if_neg (by rw [hu]; decide)]
      have et : Hid (e_th s wd = (⟨#[]⟩, [])) := by show _ = _; unfold e_th; rw [if_neg (by rw [hu]; decide)]
      go_wp2_with fail
      go_meet
      rw [e6.out, et.out]
      exact ⟨none, 0, E12.out, Z12.out, World.ownsRow_nil _ _ _ _⟩
  case rest =>
  revert wc
  intro w14 hcut
  obtain ⟨ra, rc, E14, Z14, O14⟩ := hcut
  clear E12 U12 Z12 u2
  -- what is left
  obtain ⟨er14, _, x0, x1, x2, f0, f1, f2⟩ := E14.out.rs
  obtain ⟨gt, gv, hg⟩ := E14.out.env.er 2 (by simp)
  have hOb : ∀ k, (Value.slice ra (e_th s wd).2.length rc).ownBlock = some k → b < k := fun k hk => by have := (O14.out.lt k hk).1; omega
  have HOb : Hid _ := hOb
  clear hOb
  go_upto_if 60 with fail
  go_cut [] (fun wx => Hid (EW w wx b (e_t6 s wd).1 (e_k s wd) (e_b8 s wd)) ∧ Hid (CellsAt wx B7 [.int .i64 (e_k s wd), .string (e_t5 s wd).1, .string (e_t4 s wd).1, .int .i64 (e_n s wd), .string (e_th s wd).1, .slice ra (e_th s wd).2.length rc]) ∧ Hid (wx.ownsRow (w.heap.size + 1) 9 1 (.slice ra (e_th s wd).2.length rc) (e_th s wd).2.length ((e_th s wd).2.map Value.string)))
  case first =>
    have hie : Hid _ := isE (s := (e_t6 s wd).1)
    cases hq : (e_t6 s wd).1.toList.isEmpty with
    | true =>
      have h0' : (e_t6 s wd).1.size = 0 := by
        have := hie.out
        rw [hq] at this
        simpa using this.symm
      have h0 : Hid _ := h0'
      clear h0'
      clear hq
      go_wp2_with fail
      go_meet
      rw [show e_b8 s wd = (e_t6 s wd).2 by unfold e_b8; rw [decide_eq_true h0.out]; simp]
      exact ⟨E14.out, Z14.out, O14.out⟩
    | false =>
      have h0' : ¬ (e_t6 s wd).1.size = 0 := by
        have := hie.out
        rw [hq] at this
        simpa using this.symm
      have h0 : Hid _ := h0'
      clear h0'
      clear hq
      go_wp2_with fail
      refine (fail_any b _ _ _ gt gv w14 E14.out.rs).mono ?_
      rintro e w15 ⟨rfl, h15, g15⟩
      have E15 := E14.out.step HA.out hbl h15 g15
      have Z15 := Z14.out.far g15 (by omega)
      have O15 := O14.out.kept g15 (.inr (fun e => by have := HOb.out b e; omega))
      clear h15 g15 x0 x1 x2 f0 f1 f2 hg
      go_wp2_with fail
      go_meet
      rw [show e_b8 s wd = true by unfold e_b8; rw [decide_eq_false h0.out]; simp]
      exact ⟨E15, Z15, O15⟩
  case rest =>
  revert wc
  intro w16 hcut
  obtain ⟨E16, Z16, O16⟩ := hcut
  clear E14 Z14 O14 x0 x1 x2 f0 f1 f2 hg
  -- whether it is valid
  obtain ⟨z0, _⟩ := Z16.out 0 _ rfl
  obtain ⟨z1, _⟩ := Z16.out 1 _ rfl
  obtain ⟨z2, _⟩ := Z16.out 2 _ rfl
  obtain ⟨z3, _⟩ := Z16.out 3 _ rfl
  obtain ⟨z4, _⟩ := Z16.out 4 _ rfl
  obtain ⟨z5, _⟩ := Z16.out 5 _ rfl
  have hlen := e_th_len s wd
  have HSR : Hid (SRow w16 w16.heap.size ra (e_th s wd).2) := by
    obtain ⟨a', c', hv, hr⟩ := own_form O16.out
    cases hv
    exact hr
  go_wp2_with fail
  refine (iOkE (e_k s wd) (e_t5 s wd).1 (e_t4 s wd).1 (e_n s wd) (e_th s wd).1 ra rc (e_th s wd).2 wd w16 E16.out.env.tab HSR.out (by omega) (by have := HSZ.out.2.2.1; unfold maxLen; omega) (by have := HSZ.out.1; unfold maxLen; omega)).mono ?_
  rintro e w17 ⟨rfl, hb17⟩
  rw [show okE (e_k s wd) (e_t5 s wd).1 (e_t4 s wd).1 (e_n s wd) (e_th s wd).1 (e_th s wd).2 wd = e_ok s wd from rfl]
  have E17 : Hid (EW w w17 b (e_t6 s wd).1 (e_k s wd) (e_b8 s wd)) := E16.out.below hb17
  have Z17 : Hid (CellsAt w17 B7 [.int .i64 (e_k s wd), .string (e_t5 s wd).1, .string (e_t4 s wd).1, .int .i64 (e_n s wd), .string (e_th s wd).1, .slice ra (e_th s wd).2.length rc]) := Z16.out.below hb17
  have O17 : Hid (w17.ownsRow (w.heap.size + 1) 9 1 (.slice ra (e_th s wd).2.length rc) (e_th s wd).2.length ((e_th s wd).2.map Value.string)) := O16.out.kept (grown_below none hb17) (Classical.em _)
  clear E16 Z16 O16 z0 z1 z2 z3 z4 z5 hb17
  obtain ⟨gt, gv, hg⟩ := E17.out.env.er 3 (by simp)
  go_upto_if 67 with fail
  go_cut [] (fun wx => Hid (EW w wx b (e_t6 s wd).1 (e_k s wd) (e_b9 s wd)) ∧ Hid (CellsAt wx B7 [.int .i64 (e_k s wd), .string (e_t5 s wd).1, .string (e_t4 s wd).1, .int .i64 (e_n s wd), .string (e_th s wd).1, .slice ra (e_th s wd).2.length rc]) ∧ Hid (wx.ownsRow (w.heap.size + 1) 9 1 (.slice ra (e_th s wd).2.length rc) (e_th s wd).2.length ((e_th s wd).2.map Value.string)))
  case first =>
    cases hok : e_ok s wd with
    | true =>
      go_wp2_with fail
      go_meet
      rw [show e_b9 s wd = e_b8 s wd by unfold e_b9; rw [hok]; simp]
      exact ⟨E17.out, Z17.out, O17.out⟩
    | false =>
      go_wp2_with fail
      refine (fail_any b _ _ _ gt gv w17 E17.out.rs).mono ?_
      rintro e w18 ⟨rfl, h18, g18⟩
      have E18 := E17.out.step HA.out hbl h18 g18
      have Z18 := Z17.out.far g18 (by omega)
      have O18 := O17.out.kept g18 (.inr (fun e => by have := HOb.out b e; omega))
      clear h18 g18 hg
      go_wp2_with fail
      go_meet
      rw [show e_b9 s wd = true by unfold e_b9; rw [hok]; simp]
      exact ⟨E18, Z18, O18⟩
  case rest =>
  revert wc
  intro w19 hcut
  obtain ⟨E19, Z19, O19⟩ := hcut
  clear E17 Z17 O17 hg
  obtain ⟨z0, _⟩ := Z19.out 0 _ rfl
  obtain ⟨z1, _⟩ := Z19.out 1 _ rfl
  obtain ⟨z2, _⟩ := Z19.out 2 _ rfl
  obtain ⟨z3, _⟩ := Z19.out 3 _ rfl
  obtain ⟨z4, _⟩ := Z19.out 4 _ rfl
  obtain ⟨z5, _⟩ := Z19.out 5 _ rfl
  obtain ⟨r0, q0⟩ := E19.out.res 0 _ rfl
  obtain ⟨r1, q1⟩ := E19.out.res 1 _ rfl
  obtain ⟨r2, q2⟩ := E19.out.res 2 _ rfl
  obtain ⟨r3, q3⟩ := E19.out.res 3 _ rfl
  obtain ⟨r4, q4⟩ := E19.out.res 4 _ rfl
  obtain ⟨r5, q5⟩ := E19.out.res 5 _ rfl
  have hne : b ≠ w.heap.size := by omega
  go_wp2
  refine bodyPost_ret (v := .agg #[.int .i64 (e_k s wd), .string (e_t5 s wd).1, .string (e_t4 s wd).1, .int .i64 (e_n s wd), .string (e_th s wd).1, .slice ra (e_th s wd).2.length rc]) (by simp [results, Tryd.results33, go_sem, *]) rfl ?_
  have hz : w.heap.size < w.heap.size + 1 := by omega
  refine ⟨_, rfl, ?_, ?_, ?_⟩
  · refine World.ownsRow.mono ?_ (Nat.le_succ w.heap.size)
    iterate 6 (refine ownsRow_setCell_below ?_ hz _)
    exact O19.out
  · exact (((((E19.out.rs.far (rd_grown _ w.heap.size 0 _) hne).far (rd_grown _ w.heap.size 1 _) hne).far (rd_grown _ w.heap.size 2 _) hne).far (rd_grown _ w.heap.size 3 _) hne).far (rd_grown _ w.heap.size 4 _) hne).far (rd_grown _ w.heap.size 5 _) hne
  · exact (((((E19.out.gr.andThen (rd_grown _ w.heap.size 0 _) (fun j e => by cases e; exact .inl (Nat.le_refl _))).andThen (rd_grown _ w.heap.size 1 _) (fun j e => by cases e; exact .inl (Nat.le_refl _))).andThen (rd_grown _ w.heap.size 2 _) (fun j e => by cases e; exact .inl (Nat.le_refl _))).andThen (rd_grown _ w.heap.size 3 _) (fun j e => by cases e; exact .inl (Nat.le_refl _))).andThen (rd_grown _ w.heap.size 4 _) (fun j e => by cases e; exact .inl (Nat.le_refl _))).andThen (rd_grown _ w.heap.size 5 _) (fun j e => by cases e; exact .inl (Nat.le_refl _))
end Go.Proofs.YtdecihmplkgfkaaDoor
