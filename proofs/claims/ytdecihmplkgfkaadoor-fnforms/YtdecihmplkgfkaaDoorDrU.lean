/-
  Things that are drawn: spec.l1Thing, l1SpoilThing.
-/
import Derived.Test.YtdecihmplkgfkaaDoorDrT
namespace Go.Proofs.YtdecihmplkgfkaaDoor
open Go.ChangeShapes Go.WideShapes Go.ChangeAt Go.RowKit

theorem own_nilD {w : World} {base : Nat} {ra : Option Addr} {rc : Nat} {ss : List ByteArray} (h : w.ownsRow base 9 1 (.slice ra ss.length rc) ss.length (ss.map Value.string)) : SRow w w.heap.size ra ss ∧ (ra = none → ss.length = 0 ∧ rc = 0) := by
  rcases h.2 with ⟨hv, h0⟩ | ⟨g, cap, cur, hv, _, _, hcap, _⟩
  · injection hv with e1 e2 e3
    subst e1
    exact ⟨.inl (List.eq_nil_of_length_eq_zero h0), fun _ => ⟨h0, e3⟩⟩
  · cases hv
    exact ⟨SRow.own h, fun e => by cases e⟩

set_option maxRecDepth 20000 in
set_option maxHeartbeats 4000000 in
theorem l1Thing_any (t : ByteArray) (ra : Option Addr) (rc : Nat) (ss : List ByteArray) (w : World) (hr : SRow w w.heap.size ra ss) (hnil : ra = none → ss.length = 0 ∧ rc = 0) (hl : ss.length ≤ 100000) :
    Calls Tryd.prog 74 #[.agg #[.string t, .slice ra ss.length rc]] w fun e w' => ∃ g c, e = .returned (.agg #[.string t, .slice (some ⟨g, 0, none⟩) ss.length c]) ∧
      w'.ownsRow w.heap.size 9 1 (.slice (some ⟨g, 0, none⟩) ss.length c) ss.length (ss.map Value.string) ∧ Below w.heap.size w w' := by
  obtain ⟨i0, hi, hz0, hz1, hz2⟩ := info_parts Tryd.infoStr
  obtain ⟨W0, hW0⟩ : ∃ W0, W0 = w.alloc (.cells #[.string t, .slice ra ss.length rc] 29) := ⟨_, rfl⟩
  have h00 : Below w.heap.size w W0 := by rw [hW0]; exact (Below.refl _ _).alloc (Nat.le_refl _) _
  have T0 : CellsAt W0 w.heap.size [.string t, .slice ra ss.length rc] := by rw [hW0]; exact CellsAt.new w _ _
  have hz00 : W0.heap.size = w.heap.size + 1 := by rw [hW0]; simp
  obtain ⟨W, hW⟩ : ∃ W, W = W0.alloc (.cells #[.string ⟨#[]⟩, .slice none 0 0] 29) := ⟨_, rfl⟩
  have h01 : Below W0.heap.size W0 W := by rw [hW]; exact (Below.refl _ _).alloc (Nat.le_refl _) _
  have R1 : CellsAt W W0.heap.size [.string ⟨#[]⟩, .slice none 0 0] := by rw [hW]; exact CellsAt.new W0 _ _
  have T1 := T0.below h01
  have hB1 : Below w.heap.size w W := h00.trans (h01.mono h00.size)
  have hz1' : W0.heap.size < W.heap.size := R1.lt
  obtain ⟨B, hB⟩ : ∃ B, B = W0.heap.size := ⟨_, rfl⟩
  have hBw : w.heap.size < B := by omega
  rw [← hB] at R1 hz1'
  have hwW : w.heap.size < W.heap.size := by omega
  have HW0 : Hid _ := hW0
  have HW : Hid _ := hW
  have HZ : Hid (w.heap.size + 1 = B) := by show _ = _; omega
  obtain ⟨t0, _⟩ := T1 0 _ rfl
  obtain ⟨t1, _⟩ := T1 1 _ rfl
  have hAl : Below W.heap.size W (W.alloc (.cells #[] 9)) := (Below.refl _ _).alloc (Nat.le_refl _) _
  have oA : (W.alloc (.cells #[] 9)).drew.ownsRow (B + 1) 9 1 (.slice (some ⟨W.heap.size, 0, none⟩) 0 0) 0 (([] : List ByteArray).map Value.string) := World.ownsRow_lit W #[] 0 (by omega) (by unfold maxLen; omega) rfl
  have rA := (SRow.below hr (hB1.trans (hAl.drew.mono hB1.size))).cellsO
  have q0 : (W.alloc (.cells #[] 9)).cell? ⟨w.heap.size, 0, none⟩ = some (.string t) := (hAl.cell (p := ⟨w.heap.size, 0, none⟩) hwW).trans t0
  have q1 : (W.alloc (.cells #[] 9)).cell? ⟨w.heap.size, 1, none⟩ = some (.slice ra ss.length rc) := (hAl.cell (p := ⟨w.heap.size, 1, none⟩) hwW).trans t1
  have HR : Hid _ := R1
  have HB1 : Hid _ := hB1
  clear hW0 hW hB h00 h01 T0 R1 T1 hB1 hz00
  go_enter Tryd.func74, Tryd.ntmps74
  go_upto_region 1 with fail
  rw [← HW0.out, ← HW.out, HZ.out]
  clear HW0 HW HZ
  go_region_law (first
    | (refine step_append_rowO (W.alloc (.cells #[] 9)).drew rfl (.tmp 5) (.tmp 7) 22 rfl (B + 1) 9 i0 (.string ⟨#[]⟩) 16 Tryd.underlying22 hi hz0 hz1 hz2 rfl W.heap.size 0 0 [] rfl oA ra ss.length rc ss rfl rfl hnil rA (by unfold maxLen; omega) (by omega) (by simp; omega) ?_; intro k8 cap8 w8 ho8 hg8 hat8 hlt8; simp only [Nat.zero_add, List.nil_append] at ho8; have b8 : Below W.heap.size W w8 := hAl.drew.grown hg8 (by simp) (fun j hj => by cases hj; exact Nat.le_refl _); have Z8 := CellsAt.below HR.out b8; obtain ⟨y0, f0⟩ := Z8 0 _ rfl; obtain ⟨y1, f1⟩ := Z8 1 _ rfl; have p0 := (b8.cell (p := ⟨w.heap.size, 0, none⟩) hwW).trans t0; have p1 := (b8.cell (p := ⟨w.heap.size, 1, none⟩) hwW).trans t1))
  all_goals
    have HO : Hid (w8.ownsRow (B + 1) 9 1 (.slice (some ⟨k8, 0, none⟩) ss.length cap8) ss.length (ss.map Value.string)) := ho8
    have HF : Hid (Below w.heap.size w w8) := HB1.out.trans (b8.mono HB1.out.size)
    clear ho8 hg8 hat8 b8 oA rA q0 q1
    go_wp2
    refine bodyPost_ret (v := .agg #[.string t, .slice (some ⟨k8, 0, none⟩) ss.length cap8]) (by simp [results, Tryd.results74, go_sem, *]) rfl ?_
    refine ⟨_, _, rfl, ?_, ?_⟩
    · exact (ownsRow_setCell_below (ownsRow_setCell_below HO.out (a := ⟨B, 0, none⟩) (Nat.lt_succ_self B) _) (a := ⟨B, 1, none⟩) (Nat.lt_succ_self B) _).mono (by omega)
    · exact (HF.out.setCell (p := ⟨B, 0, none⟩) (Nat.le_of_lt hBw) _).setCell (p := ⟨B, 1, none⟩) (Nat.le_of_lt hBw) _

theorem ThDrawn.fin {w V : World} {b : Nat} {a : Option Addr} {n c : Nat} {p p' K : Int} {TX RF Q : Nat} {t' : ByteArray} {ra' : Option Addr} {rc' : Nat} {L : List ByteArray} (ht : t'.size ≤ TX) (hL : L.length ≤ RF) (hs : ∀ s ∈ L, s.size ≤ 8)
    (ho : V.ownsRow (Q + 1) 9 1 (.slice ra' L.length rc') L.length (L.map Value.string)) (hr : RdSt V b a n c p') (h1 : p ≤ p') (h2 : p' ≤ p + K) (hg : w.grownBy V (some b)) (hQ : w.heap.size < Q) (hb : b < w.heap.size) :
    ThDrawn w ((V.setCell ⟨Q, 0, none⟩ (.string t')).setCell ⟨Q, 1, none⟩ (.slice ra' L.length rc')) (.returned (.agg #[.string t', .slice ra' L.length rc'])) b a n c p K TX RF := by
  refine ⟨⟨t', _, _, L, rfl, ht, hL, hs, ?_⟩, ⟨p', ?_, h1, h2⟩, ?_⟩
  · exact (ownsRow_setCell_below (ownsRow_setCell_below ho (a := ⟨Q, 0, none⟩) (Nat.lt_succ_self Q) _) (a := ⟨Q, 1, none⟩) (Nat.lt_succ_self Q) _).mono (by omega)
  · exact (hr.grown (rd_grown _ Q 0 _) (by omega)).grown (rd_grown _ Q 1 _) (by omega)
  · exact (hg.andThen (rd_grown _ Q 0 _) (fun i e => by cases e; exact .inl (by omega))).andThen (rd_grown _ Q 1 _) (fun i e => by cases e; exact .inl (by omega))

set_option maxRecDepth 20000 in
set_option maxHeartbeats 8000000 in
theorem spoilThing_any (b : Nat) (a : Option Addr) (n c : Nat) (p : Int) (t : ByteArray) (ra : Option Addr) (rc : Nat) (ss : List ByteArray) (w : World) (h : RdSt w b a n c p) (hp : 0 ≤ p) (hp2 : p ≤ 800000)
    (hr : SRow w w.heap.size ra ss) (hnil : ra = none → ss.length = 0 ∧ rc = 0) (ht : t.size ≤ 16) (hl : ss.length ≤ 3) (hs : ∀ s ∈ ss, s.size ≤ 8) :
    Calls Tryd.prog 41 #[.pointer (some ⟨b, 0, none⟩), .agg #[.string t, .slice ra ss.length rc]] w fun e w' => ThDrawn w w' e b a n c p 2 2001 31 := by
  obtain ⟨i0, hi, hz0, hz1, hz2⟩ := info_parts Tryd.infoStr
  have hbl := h.lt
  obtain ⟨W0, hW0⟩ : ∃ W0, W0 = w.alloc (.cells #[.string t, .slice ra ss.length rc] 29) := ⟨_, rfl⟩
  have h00 : Below w.heap.size w W0 := by rw [hW0]; exact (Below.refl _ _).alloc (Nat.le_refl _) _
  have T0 : CellsAt W0 w.heap.size [.string t, .slice ra ss.length rc] := by rw [hW0]; exact CellsAt.new w _ _
  have hz00 : W0.heap.size = w.heap.size + 1 := by rw [hW0]; simp
  obtain ⟨W, hW⟩ : ∃ W, W = W0.alloc (.cells #[.string ⟨#[]⟩, .slice none 0 0] 29) := ⟨_, rfl⟩
  have h01 : Below W0.heap.size W0 W := by rw [hW]; exact (Below.refl _ _).alloc (Nat.le_refl _) _
  have R1 : CellsAt W W0.heap.size [.string ⟨#[]⟩, .slice none 0 0] := by rw [hW]; exact CellsAt.new W0 _ _
  have T1 := T0.below h01
  have hB1 : Below w.heap.size w W := h00.trans (h01.mono h00.size)
  obtain ⟨Q, hQ⟩ : ∃ Q, Q = W0.heap.size := ⟨_, rfl⟩
  have hQw : w.heap.size < Q := by omega
  rw [← hQ] at R1
  have HZ : Hid (w.heap.size + 1 = Q) := by show _ = _; omega
  obtain ⟨t0, _⟩ := T1 0 _ rfl
  obtain ⟨t1, _⟩ := T1 1 _ rfl
  have HW0 : Hid _ := hW0
  have HW : Hid _ := hW
  have HR : Hid (SRow W W.heap.size ra ss) := hr.below' hB1
  have HC : Hid (CellsAt W Q [.string ⟨#[]⟩, .slice none 0 0] ∧ RdSt W b a n c p ∧ w.grownBy W (some b)) := ⟨R1, h.below hB1, grown_below _ hB1⟩
  have hQW : Q < W.heap.size := R1.lt
  clear hW0 hW hQ h00 h01 T0 R1 T1 hB1 hz00 h hr
  go_enter Tryd.func41, Tryd.ntmps41
  go_upto_region 1 with fail
  rw [← HW0.out, ← HW.out, HZ.out]
  clear HW0 HW HZ
  go_wp2_with fail
  refine (l1Thing_any t ra rc ss W HR.out hnil (by omega)).mono ?_
  rintro e w1 ⟨g, gc, rfl, ho1, hb1⟩
  obtain ⟨W2, hW2⟩ : ∃ W2, W2 = w1.alloc (.cells #[.string t, .slice (some ⟨g, 0, none⟩) ss.length gc] 29) := ⟨_, rfl⟩
  have h12 : Below w1.heap.size w1 W2 := by rw [hW2]; exact (Below.refl _ _).alloc (Nat.le_refl _) _
  have hW12 : Below W.heap.size W W2 := hb1.trans (h12.mono hb1.size)
  obtain ⟨B, hB⟩ : ∃ B, B = w1.heap.size := ⟨_, rfl⟩
  have B2 : CellsAt W2 B [.string t, .slice (some ⟨g, 0, none⟩) ss.length gc] := by rw [hW2, hB]; exact CellsAt.new w1 _ _
  have hBQ : Q < B := by have := hb1.size; omega
  have hgB := ho1.lt g rfl
  have hgB' : g < B := by rw [hB]; exact hgB.2
  have O2 : W2.ownsRow (Q + 1) 9 1 (.slice (some ⟨g, 0, none⟩) ss.length gc) ss.length (ss.map Value.string) := (ho1.kept (grown_below none h12) (Classical.em _)).mono (by omega)
  have HD : Hid (CellsAt W2 Q [.string ⟨#[]⟩, .slice none 0 0] ∧ RdSt W2 b a n c p ∧ w.grownBy W2 (some b)) := ⟨HC.out.1.below hW12, HC.out.2.1.below hW12, HC.out.2.2.trans (grown_below _ hW12)⟩
  have HW2 : Hid _ := hW2
  have HB : Hid _ := hB
  have HE : Hid _ := And.intro B2 O2
  clear hW2 hB h12 hW12 HC HR B2 O2 ho1 hb1 t0 t1
  go_upto_region 2 with fail
  rw [← HW2.out, ← HB.out]
  clear HW2 HB
  go_wp2_with fail
  refine (pick_any b a n c p 5 W2 HD.out.2.1 (by omega) (by omega) (by omega) (by omega)).mono ?_
  rintro e w3 ⟨r, rfl, r0, r1, s3, g3⟩
  have R3 : Hid (CellsAt w3 Q [.string ⟨#[]⟩, .slice none 0 0] ∧ RdSt w3 b a n c (p + 1) ∧ w.grownBy w3 (some b)) := ⟨HD.out.1.far g3 (by omega), s3, HD.out.2.2.trans g3⟩
  have B3 : Hid (CellsAt w3 B [.string t, .slice (some ⟨g, 0, none⟩) ss.length gc]) := CellsAt.far HE.out.1 g3 (by omega)
  have hgb : Q + 1 ≤ g := (World.ownsRow.lt HE.out.2 g rfl).1
  have O3 : Hid (w3.ownsRow (Q + 1) 9 1 (.slice (some ⟨g, 0, none⟩) ss.length gc) ss.length (ss.map Value.string)) := World.ownsRow.kept HE.out.2 g3 (.inr (by simp [Value.ownBlock]; omega))
  clear HD HE s3 g3
  have hB3 : B < w3.heap.size := B3.out.lt
  obtain ⟨x0, f0⟩ := B3.out 0 _ rfl
  obtain ⟨x1, f1⟩ := B3.out 1 _ rfl
  obtain ⟨y0, q0⟩ := R3.out.1 0 _ rfl
  obtain ⟨y1, q1⟩ := R3.out.1 1 _ rfl
  have hne : ¬ B = Q := by omega
  have hne' : ¬ Q = B := by omega
  by_cases c0 : r = 0
  · subst c0
    go_wp2_with fail
    refine (pick_any b a n c (p + 1) 2 w3 R3.out.2.1 (by omega) (by omega) (by omega) (by omega)).mono ?_
    rintro e w4 ⟨r', rfl, r0', r1', s4, g4⟩
    obtain ⟨m, rfl⟩ : ∃ m : Nat, r' = m := ⟨r'.toNat, by omega⟩
    have hmk := l1Many_any ⟨#[116]⟩ (2000 + m) w4 (by decide) (by show 1 * (2000 + m) ≤ 100000; omega)
    rw [show ((2000 + m : Nat) : Int) = 2000 + (m : Int) by omega] at hmk
    have HM : Hid _ := hmk
    have X4 := B3.out.far g4 (by omega)
    have Y4 := R3.out.1.far g4 (by omega)
    have O4 := O3.out.kept g4 (.inr (by simp [Value.ownBlock]; omega))
    have G4 := R3.out.2.2.trans g4
    clear hmk x0 x1 f0 f1 y0 y1 q0 q1
    go_wp2_with fail
    refine Calls.mono HM.out ?_
    rintro e w5 ⟨T, rfl, hT, hw5⟩
    rw [hw5]
    clear hw5 w5
    obtain ⟨x0, f0⟩ := X4 0 _ rfl
    obtain ⟨x1, f1⟩ := X4 1 _ rfl
    obtain ⟨y0, q0⟩ := Y4 0 _ rfl
    obtain ⟨y1, q1⟩ := Y4 1 _ rfl
    have HT : Hid (T.size ≤ 2001) := by show _ ≤ _; rw [hT]; show 1 * (2000 + m) ≤ 2001; omega
    clear hT
    go_wp2
    refine bodyPost_ret (v := .agg #[.string T, .slice (some ⟨g, 0, none⟩) ss.length gc]) (by simp [results, Tryd.results41, go_sem, *]) rfl ?_
    refine ThDrawn.fin HT.out (by omega) hs (O4.kept (rd_grown _ B 0 _) (.inr (by simp [Value.ownBlock]; omega))) (s4.grown (rd_grown _ B 0 _) (by omega)) (by omega) (by omega) (G4.andThen (rd_grown _ B 0 _) (fun i e => by cases e; exact .inl (by omega))) hQw hbl
  · have d0 : (r == 0) = false := by simpa using c0
    by_cases c1 : r = 1
    · subst c1
      go_wp2_with (first
        | (at_builtin; refine wpList_append_own_at _ rfl _ _ 22 rfl (Q + 1) 9 i0 (.string ⟨#[]⟩) 1 16 Tryd.underlying22 hi hz0 hz1 hz2 rfl (by decide) _ ss.length (ss.map Value.string) rfl ?d0 ⟨w3.heap.size, 0, none⟩ 1 1 [.string ⟨#[120]⟩] rfl rfl ?d1 ?d2 ?d3 ?d4 ?d5 ?_))
      case d0 => exact O3.out.alloc _
      case d1 =>
        intro j u hu
        cases j with
        | zero => simp at hu; subst hu; simp [Addr.add]
        | succ j => simp at hu
      case d2 => intro u hu; simp at hu; subst hu; rfl
      case d3 => unfold maxLen; omega
      case d4 => omega
      case d5 => simp; omega
      intro v' w6 hown' hgrow hnil' hat
      obtain ⟨g6, c6, hv'⟩ : ∃ g6 c6, v' = .slice (some ⟨g6, 0, none⟩) (ss.length + 1) c6 := by
        rcases Joins.ownsRow_forms hown' with ⟨e1, _⟩ | hf
        · exact (hnil' e1).elim
        · exact hf
      subst hv'
      have b6 : Below (Q + 1) w3 w6 := ((Below.refl _ _).alloc (by omega) _).grown hgrow (by simp; omega) (fun i hi => by simp [Value.ownBlock] at hi; omega)
      have hr6 : w3.grownBy w6 (some g) := ⟨b6.os, b6.tape, b6.output, b6.size, fun i hi hne => by
        have h1 := hgrow.block i (by simp; omega) (by simpa [Value.ownBlock] using hne)
        rw [h1]
        exact (grown_below none ((Below.refl w3.heap.size w3).alloc (Nat.le_refl _) _)).block i hi (by simp)⟩
      have X6 := B3.out.far' hr6 (by omega)
      have Y6 := R3.out.1.far' hr6 (by omega)
      have G6 := R3.out.2.2.andThen hr6 (fun i e => by cases e; exact .inl (by omega))
      have S6 := R3.out.2.1.grown hr6 (by omega)
      have hg6 := hown'.lt g6 rfl
      have hg6B : g6 ≠ B := by
        rcases hat with h | h <;> simp [Value.ownBlock] at h <;> omega
      have O6 : w6.ownsRow (Q + 1) 9 1 (.slice (some ⟨g6, 0, none⟩) (ss ++ [ByteArray.mk #[120]]).length c6) (ss ++ [ByteArray.mk #[120]]).length ((ss ++ [ByteArray.mk #[120]]).map Value.string) := by
        have : (ss ++ [ByteArray.mk #[120]]).length = ss.length + 1 := by simp
        rw [this, List.map_append]
        exact hown'
      have HF : Hid _ := And.intro G6 (And.intro S6 O6)
      clear hown' hgrow hnil' hat x0 x1 f0 f1 y0 y1 q0 q1
      obtain ⟨x0, f0⟩ := X6 0 _ rfl
      obtain ⟨x1, f1⟩ := X6 1 _ rfl
      obtain ⟨y0, q0⟩ := Y6 0 _ rfl
      obtain ⟨y1, q1⟩ := Y6 1 _ rfl
      go_wp2
      refine bodyPost_ret (v := .agg #[.string t, .slice (some ⟨g6, 0, none⟩) (ss.length + 1) c6]) (by simp [results, Tryd.results41, go_sem, *]) rfl ?_
      have hln : ss.length + 1 = (ss ++ [ByteArray.mk #[120]]).length := by simp
      rw [hln]
      refine ThDrawn.fin (by omega) (by simp; omega) ?_ (HF.out.2.2.kept (rd_grown _ B 1 _) (.inr (by simp [Value.ownBlock]; omega))) (HF.out.2.1.grown (rd_grown _ B 1 _) (by omega)) (by omega) (by omega) (HF.out.1.andThen (rd_grown _ B 1 _) (fun i e => by cases e; exact .inl (by omega))) hQw hbl
      intro s hs'
      rcases List.mem_append.1 hs' with h | h
      · exact hs s h
      · simp at h
        subst h
        decide
    · have d1 : (r == 1) = false := by simpa using c1
      by_cases c2 : r = 2
      · subst c2
        by_cases hl0 : 0 < ss.length
        · have dl : decide ((0 : Int) < (ss.length : Int)) = true := decide_eq_true (by omega)
          have HX : Hid (ss[0]? = some ss[0]) := List.getElem?_eq_getElem hl0
          have hmX : ss[0] ∈ ss := List.getElem_mem hl0
          generalize ss[0] = X at *
          have cX : w3.cell? ⟨g, 0, none⟩ = some (.string X) := by
            have := SRow.own O3.out
            rcases this with h | ⟨b', off, e1, _, h3⟩
            · subst h; simp at hl0
            · cases e1
              simpa using h3 0 X HX.out
          have hg3 : g < w3.heap.size := (O3.out.lt g rfl).2
          have HL0 : Hid _ := hl0
          have hlI : (0 : Int) < (ss.length : Int) := by omega
          have hAl : Below w3.heap.size w3 (w3.alloc (.cells #[.string X] 9)) := (Below.refl _ _).alloc (Nat.le_refl _) _
          have oA : (w3.alloc (.cells #[.string X] 9)).drew.ownsRow (Q + 1) 9 1 (.slice (some ⟨g, 0, none⟩) ss.length gc) ss.length (ss.map Value.string) := O3.out.kept (grown_below none hAl.drew) (Classical.em _)
          have nA : ∀ A, (some ⟨w3.heap.size, 0, none⟩ : Option Addr) = some A → ∀ i s, [X][i]? = some s → (w3.alloc (.cells #[.string X] 9)).drew.cell? (A.add i) = some (.string s) := by
            intro A e i s hs
            injection e with e
            subst e
            cases i with
            | zero => simp at hs; subst hs; simp [Addr.add]
            | succ i => simp at hs
          have xa1 : (w3.alloc (.cells #[.string X] 9)).cell? ⟨B, 1, none⟩ = some (.slice (some ⟨g, 0, none⟩) ss.length gc) := (hAl.cell (p := ⟨B, 1, none⟩) hB3).trans x1
          clear hl0
          go_upto_region 10 with fail
          go_region_law (first
            | (refine step_append_rowO (w3.alloc (.cells #[.string X] 9)).drew rfl (.tmp 37) (.tmp 42) 22 rfl (Q + 1) 9 i0 (.string ⟨#[]⟩) 16 Tryd.underlying22 hi hz0 hz1 hz2 rfl g ss.length gc ss rfl oA (some ⟨w3.heap.size, 0, none⟩) 1 1 [X] rfl rfl (fun e => by cases e) nA (by unfold maxLen; omega) (by omega) (by simp; omega) ?_; intro g6 c6 w6 ho6 hgr hat6 hlt6; have hr6 : w3.grownBy w6 (some g) := (grown_below (some g) hAl.drew).trans hgr; have X6 := B3.out.far' hr6 (by omega); have Y6 := R3.out.1.far' hr6 (by omega); obtain ⟨x0', f0'⟩ := X6 0 _ rfl; obtain ⟨x1', f1'⟩ := X6 1 _ rfl; obtain ⟨y0', q0'⟩ := Y6 0 _ rfl; obtain ⟨y1', q1'⟩ := Y6 1 _ rfl))
          all_goals
            have hg6B : g6 ≠ B := by
              have := hB3
              rcases hat6 with h | h
              · omega
              · simp at h; omega
            have HF : Hid _ := And.intro (R3.out.2.2.andThen hr6 (fun i e => by cases e; exact .inl (by omega))) (And.intro (R3.out.2.1.grown hr6 (by omega)) ho6)
            have hgQ := (ho6.lt g6 rfl).1
            clear ho6 hgr hat6 X6 Y6 oA nA xa1 x0 x1 f0 f1 y0 y1 q0 q1 cX
            go_wp2
            refine bodyPost_ret (v := .agg #[.string t, .slice (some ⟨g6, 0, none⟩) (ss.length + 1) c6]) (by simp [results, Tryd.results41, go_sem, *]) rfl ?_
            have hln : ss.length + 1 = (ss ++ [X]).length := by simp
            rw [hln]
            refine ThDrawn.fin (by omega) (by simp; omega) ?_ (World.ownsRow.kept (by rw [← hln]; exact HF.out.2.2) (rd_grown _ B 1 _) (.inr (by simp [Value.ownBlock]; omega))) (HF.out.2.1.grown (rd_grown _ B 1 _) (by omega)) (by omega) (by omega) (HF.out.1.andThen (rd_grown _ B 1 _) (fun i e => by cases e; exact .inl (by omega))) hQw hbl
            intro s hs'
            rcases List.mem_append.1 hs' with h | h
            · exact hs s h
            · simp at h
              subst h
              exact hs _ hmX
        · have dl : decide ((0 : Int) < (ss.length : Int)) = false := decide_eq_false (by omega)
          have HL0 : Hid _ := hl0
          clear hl0
          go_wp2
          refine bodyPost_ret (v := .agg #[.string t, .slice (some ⟨g, 0, none⟩) ss.length gc]) (by simp [results, Tryd.results41, go_sem, *]) rfl ?_
          exact ThDrawn.fin (t' := t) (L := ss) (TX := 2001) (RF := 31) (by omega) (by omega) hs O3.out R3.out.2.1 (by omega) (by omega) R3.out.2.2 hQw hbl
      · have d2 : (r == 2) = false := by simpa using c2
        by_cases c3 : r = 3
        · subst c3
          have hA3 : Below w3.heap.size w3 (w3.alloc (.cells #[] 9)) := (Below.refl _ _).alloc (Nat.le_refl _) _
          obtain ⟨W4, hW4⟩ : ∃ W4, W4 = (w3.setCell ⟨B, 1, none⟩ (.slice (some ⟨w3.heap.size, 0, none⟩) 0 0)).alloc (.cells #[] 9) := ⟨_, rfl⟩
          have g34 : w3.grownBy W4 (some B) := by
            rw [hW4]
            exact (rd_grown _ B 1 _).trans (World.grownBy_alloc _ _ _)
          have X4 : CellsAt W4 B [.string t, .slice (some ⟨w3.heap.size, 0, none⟩) 0 0] := by
            rw [hW4]
            exact CellsAt.below (B3.out.set 1 _) ((Below.refl _ _).alloc (Nat.le_refl _) _)
          have o4 : W4.ownsRow (Q + 1) 9 1 (.slice (some ⟨w3.heap.size, 0, none⟩) 0 0) 0 (([] : List ByteArray).map Value.string) := by
            have := World.ownsRow_lit (base := Q + 1) (e := 9) (size := 1) (w3.setCell ⟨B, 1, none⟩ (.slice (some ⟨w3.heap.size, 0, none⟩) 0 0)) #[] 0 (by simp; omega) (by unfold maxLen; omega) rfl
            rw [World.size_setCell] at this
            rw [hW4]
            exact this
          have E4 : Hid (CellsAt W4 Q [.string ⟨#[]⟩, .slice none 0 0] ∧ RdSt W4 b a n c (p + 1) ∧ w.grownBy W4 (some b)) := ⟨R3.out.1.far' g34 (by omega), R3.out.2.1.grown g34 (by omega), R3.out.2.2.andThen g34 (fun i e => by cases e; exact .inl (by omega))⟩
          have HX4 : Hid _ := X4
          have HO4 : Hid (W4.ownsRow (Q + 1) 9 1 (.slice (some ⟨w3.heap.size, 0, none⟩) 0 0) 0 (([] : List ByteArray).map Value.string)) := o4
          have HW4 : Hid _ := hW4
          have hz34 := g34.size
          clear hW4 g34 X4 o4 hA3
          go_upto_region 13 with fail
          rw [← HW4.out]
          clear HW4 x0 x1 f0 f1 y0 y1 q0 q1
          go_wp2_with fail
          refine (pick_any b a n c (p + 1) 2 W4 E4.out.2.1 (by omega) (by omega) (by omega) (by omega)).mono ?_
          rintro e w5 ⟨r', rfl, r0', r1', s5, g5⟩
          obtain ⟨m, rfl⟩ : ∃ m : Nat, r' = m := ⟨r'.toNat, by omega⟩
          have X5 : Hid (CellsAt w5 B [.string t, .slice (some ⟨w3.heap.size, 0, none⟩) 0 0]) := CellsAt.far HX4.out g5 (by omega)
          have E5 : Hid (CellsAt w5 Q [.string ⟨#[]⟩, .slice none 0 0] ∧ RdSt w5 b a n c (p + 1 + 1) ∧ w.grownBy w5 (some b)) := ⟨E4.out.1.far g5 (by omega), s5, E4.out.2.2.trans g5⟩
          have O5 : Hid (w5.ownsRow (Q + 1) 9 1 (.slice (some ⟨w3.heap.size, 0, none⟩) 0 0) 0 (([] : List ByteArray).map Value.string)) := HO4.out.kept g5 (.inr (by simp [Value.ownBlock]; omega))
          clear s5 g5 HX4 E4 HO4
          go_wp2
          go_loopw [7] (fun i wr => ∃ (k gk ck : Nat) (L : List ByteArray), i = .int .i64 k ∧ k ≤ 30 + m ∧ L.length = k ∧ B ≠ gk ∧ Hid (CellsAt wr B [.string t, .slice (some ⟨gk, 0, none⟩) L.length ck]) ∧ Hid (∀ s ∈ L, s.size ≤ 8) ∧ Hid (wr.ownsRow (Q + 1) 9 1 (.slice (some ⟨gk, 0, none⟩) L.length ck) L.length (L.map Value.string)) ∧ Hid (CellsAt wr Q [.string ⟨#[]⟩, .slice none 0 0] ∧ RdSt wr b a n c (p + 1 + 1) ∧ w.grownBy wr (some b))) (fun i _ => 30 + m - (intOf i).toNat)
          case atStart => exact ⟨0, w3.heap.size, 0, [], rfl, by omega, rfl, by omega, X5.out, (fun s hs => by cases hs), O5.out, E5.out⟩
          case round =>
            obtain ⟨k, gk, ck, L, rfl, hk, hLk, hBg, X, HS, O, E⟩ := hrel
            have hBr : B < wr.heap.size := X.out.lt
            obtain ⟨x0, f0⟩ := X.out 0 _ rfl
            obtain ⟨x1, f1⟩ := X.out 1 _ rfl
            have hgl := O.out.lt gk rfl
            by_cases hlt : k < 30 + m
            · have dk : decide ((k : Int) < 30 + (m : Int)) = true := decide_eq_true (by omega)
              have hu8 : IntKind.u8.wrap (33 + (k : Int)) = 33 + (k : Int) := u8_wrap (by omega) (by omega)
              have hcv := run_convert_bytes_arg (P := Tryd.prog) (wr.alloc (.cells #[.int .u8 (33 + (k : Int))] 5)) 39 5 Tryd.underlying39 Tryd.underlying5 wr.heap.size 0 1 1 [33 + (k : Int)] rfl (fun i hi => by
                obtain rfl : i = 0 := by omega
                simp) 9 Tryd.underlying9
              have hss := strNums_size [33 + (k : Int)]
              generalize strOfNums [33 + (k : Int)] = T at *
              have hA6 : Below wr.heap.size wr (wr.alloc (.cells #[.int .u8 (33 + (k : Int))] 5)) := (Below.refl _ _).alloc (Nat.le_refl _) _
              have hA7 : Below wr.heap.size wr ((wr.alloc (.cells #[.int .u8 (33 + (k : Int))] 5)).alloc (.cells #[.string T] 9)) := hA6.alloc hA6.size _
              have HLk : Hid _ := hLk
              clear hLk
              go_wp2_with (first
                | (at_builtin; refine wpList_append_own_at _ rfl _ _ 22 rfl (Q + 1) 9 i0 (.string ⟨#[]⟩) 1 16 Tryd.underlying22 hi hz0 hz1 hz2 rfl (by decide) _ L.length (L.map Value.string) rfl ?d0 ⟨wr.heap.size + 1, 0, none⟩ 1 1 [.string T] rfl rfl ?d1 ?d2 ?d3 ?d4 ?d5 ?_))
              case d0 => exact O.out.kept (grown_below none hA7) (Classical.em _)
              case d1 =>
                intro j u hu
                cases j with
                | zero => simp at hu; subst hu; simp [Addr.add]
                | succ j => simp at hu
              case d2 => intro u hu; simp at hu; subst hu; rfl
              case d3 => have := HLk.out; unfold maxLen; omega
              case d4 => have := HLk.out; omega
              case d5 => simp; omega
              intro v' w6 hown' hgrow hnil' hat
              obtain ⟨g6, c6, hv'⟩ : ∃ g6 c6, v' = .slice (some ⟨g6, 0, none⟩) (L.length + 1) c6 := by
                rcases Joins.ownsRow_forms hown' with ⟨e1, _⟩ | hf
                · exact (hnil' e1).elim
                · exact hf
              subst hv'
              have hr6 : wr.grownBy w6 (some gk) := (grown_below (some gk) hA7).trans (by simpa [Value.ownBlock] using hgrow)
              have hg6B : B ≠ g6 := by
                rcases hat with h | h <;> simp [Value.ownBlock] at h <;> omega
              have X6 := X.out.far' hr6 (fun e => hBg e.symm)
              obtain ⟨x0', f0'⟩ := X6 0 _ rfl
              obtain ⟨x1', f1'⟩ := X6 1 _ rfl
              have hgQ := (hown'.lt g6 rfl).1
              have HN : Hid (w6.ownsRow (Q + 1) 9 1 (.slice (some ⟨g6, 0, none⟩) (L ++ [T]).length c6) (L ++ [T]).length ((L ++ [T]).map Value.string)) := by
                have : (L ++ [T]).length = L.length + 1 := by simp
                rw [this, List.map_append]
                exact hown'
              have HE : Hid (CellsAt w6 Q [.string ⟨#[]⟩, .slice none 0 0] ∧ RdSt w6 b a n c (p + 1 + 1) ∧ w.grownBy w6 (some b)) := ⟨E.out.1.far' hr6 (by omega), E.out.2.1.grown hr6 (by omega), E.out.2.2.andThen hr6 (fun i e => by cases e; exact .inl (by omega))⟩
              have HT : Hid (∀ s ∈ L ++ [T], s.size ≤ 8) := by
                intro s hs'
                rcases List.mem_append.1 hs' with h | h
                · exact HS.out s h
                · simp at h
                  subst h
                  simp at hss
                  omega
              have HX6 : Hid (CellsAt w6 B [.string t, .slice (some ⟨gk, 0, none⟩) L.length ck]) := X6
              clear hown' hgrow hnil' hat X6 hcv hss hA6 hA7 hr6 x0 x1 f0 f1
              go_wp2
              have hln : (L ++ [T]).length = L.length + 1 := by simp
              refine ⟨⟨k + 1, g6, c6, L ++ [T], by go_num, by omega, by rw [hln, HLk.out], hg6B, ?_, HT, ?_, ?_⟩, by simp [intOf]; omega⟩
              · rw [hln]
                exact HX6.out.set 1 _
              · exact HN.out.kept (rd_grown _ B 1 _) (.inr (by simp [Value.ownBlock]; omega))
              · exact ⟨HE.out.1.far' (rd_grown _ B 1 _) (by omega), HE.out.2.1.grown (rd_grown _ B 1 _) (by omega), HE.out.2.2.andThen (rd_grown _ B 1 _) (fun i e => by cases e; exact .inl (by omega))⟩
            · obtain rfl : k = 30 + m := by omega
              have dk : decide (((30 + m : Nat) : Int) < 30 + (m : Int)) = false := decide_eq_false (by omega)
              obtain ⟨y0, q0⟩ := E.out.1 0 _ rfl
              obtain ⟨y1, q1⟩ := E.out.1 1 _ rfl
              have HLk : Hid _ := hLk
              clear hLk
              go_wp2
              refine bodyPost_ret (v := .agg #[.string t, .slice (some ⟨gk, 0, none⟩) L.length ck]) (by simp [results, Tryd.results41, go_sem, *]) rfl ?_
              exact ThDrawn.fin (t' := t) (L := L) (TX := 2001) (RF := 31) (by omega) (by have := HLk.out; omega) HS.out O.out E.out.2.1 (by omega) (by omega) E.out.2.2 hQw hbl
        · have d3 : (r == 3) = false := by simpa using c3
          go_wp2
          refine bodyPost_ret (v := .agg #[.string (t ++ ⟨#[122]⟩), .slice (some ⟨g, 0, none⟩) ss.length gc]) (by simp [results, Tryd.results41, go_sem, *]) rfl ?_
          refine ThDrawn.fin (by rw [ByteArray.size_append]; show t.size + 1 ≤ 2001; omega) (by omega) hs (O3.out.kept (rd_grown _ B 0 _) (.inr (by simp [Value.ownBlock]; omega))) (R3.out.2.1.grown (rd_grown _ B 0 _) (by omega)) (by omega) (by omega) (R3.out.2.2.andThen (rd_grown _ B 0 _) (fun i e => by cases e; exact .inl (by omega))) hQw hbl
end Go.Proofs.YtdecihmplkgfkaaDoor
