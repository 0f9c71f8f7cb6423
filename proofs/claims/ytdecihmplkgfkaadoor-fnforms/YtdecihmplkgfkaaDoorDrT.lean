/-
  Things that are drawn: spec.l1DrawWidth, l1DrawThing.
-/
import Derived.Test.YtdecihmplkgfkaaDoorDr
import Derived.Test.YtdecihmplkgfkaaDoorSrt
import Derived.Test.YtdecihmplkgfkaaDoorCells
import Derived.Test.YtdecihmplkgfkaaDoorSumS
import Derived.Deep.DeepCutAuto
namespace Go.Proofs.YtdecihmplkgfkaaDoor
open Go.ChangeShapes Go.WideShapes Go.ChangeAt Go.RowKit

theorem drawWidth_any (b : Nat) (a : Option Addr) (n c : Nat) (p : Int) (w : World) (h : RdSt w b a n c p) (hp : 0 ≤ p) (hp2 : p ≤ 900000) :
    Calls Tryd.prog 38 #[.pointer (some ⟨b, 0, none⟩)] w fun e w' => ∃ wd, e = .returned (.int .i64 wd) ∧ (1 ≤ wd ∧ wd ≤ 8) ∧ RdSt w' b a n c (p + 1) ∧ w.grownBy w' (some b) := by
  go_enter Tryd.func38, Tryd.ntmps38
  go_wp2_with fail
  refine (pick_any b a n c p 8 w h hp (by omega) (by omega) (by omega)).mono ?_
  rintro e w1 ⟨r, rfl, r0, r1, h1, g1⟩
  have H : Hid _ := And.intro h1 g1
  clear h1 g1 h
  by_cases c1 : r < 2
  · go_wp2
    go_ret
    exact ⟨1, rfl, by omega, H.out⟩
  · by_cases c2 : r = 2
    · subst c2
      go_wp2
      go_ret
      exact ⟨2, rfl, by omega, H.out⟩
    · have c3 : (r == 2) = false := by simpa using c2
      go_wp2
      go_ret
      exact ⟨8, rfl, by omega, H.out⟩

theorem l1WidthD (n : Int) (w : World) :
    Calls Tryd.prog 31 #[.int .i64 n] w fun e w' => e = .returned (.bool (decide (1 ≤ n ∧ n ≤ 8))) ∧ w' = w := by
  by_cases h1 : 1 ≤ n
  · by_cases h2 : n ≤ 8
    · go_enter Tryd.func31, Tryd.ntmps31
      go_wp2
      go_ret
      exact ⟨ret_b (by simp [h1, h2]), rfl⟩
    · have h2' : decide (n ≤ 8) = false := by simpa using h2
      go_enter Tryd.func31, Tryd.ntmps31
      go_wp2
      go_ret
      exact ⟨rfl, rfl⟩
  · have h1' : decide (1 ≤ n) = false := by simpa using h1
    go_enter Tryd.func31, Tryd.ntmps31
    go_wp2
    go_ret
    exact ⟨rfl, rfl⟩

/-- A thing that was drawn: small, in memory of its own; the reader has gone on. -/
structure ThDrawn (w w' : World) (e : Ending) (b : Nat) (a : Option Addr) (n c : Nat) (p K : Int) (TX RF : Nat) : Prop where
  ex : ∃ (t : ByteArray) (ra : Option Addr) (rc : Nat) (ss : List ByteArray), e = .returned (.agg #[.string t, .slice ra ss.length rc]) ∧ t.size ≤ TX ∧ ss.length ≤ RF ∧ (∀ s ∈ ss, s.size ≤ 8) ∧
    w'.ownsRow w.heap.size 9 1 (.slice ra ss.length rc) ss.length (ss.map Value.string)
  dr : Drawn w w' b a n c p K

theorem sumText_size (l : List UInt8) (k : Nat) : (sumText l k).size = k := by
  unfold sumText
  rw [strNums_size, sumNums_length]

/-- The reader's way on. -/
theorem Drawn.mk' {w w' : World} {b : Nat} {a : Option Addr} {n c : Nat} {p p' k : Int} (h : RdSt w' b a n c p') (h1 : p ≤ p') (h2 : p' ≤ p + k) (hg : w.grownBy w' (some b)) : Drawn w w' b a n c p k := ⟨⟨p', h, h1, h2⟩, hg⟩

set_option maxRecDepth 20000 in
set_option maxHeartbeats 4000000 in
theorem drawThing_any (b : Nat) (a : Option Addr) (n c : Nat) (p wd : Int) (w : World) (h : RdSt w b a n c p) (hp : 0 ≤ p) (hp2 : p ≤ 800000) (h1 : 1 ≤ wd) (h2 : wd ≤ 8) :
    Calls Tryd.prog 39 #[.pointer (some ⟨b, 0, none⟩), .int .i64 wd] w fun e w' => ThDrawn w w' e b a n c p 60 16 3 := by
  obtain ⟨i0, hi, hz0, hz1, hz2⟩ := info_parts Tryd.infoStr
  have hbl := h.lt
  obtain ⟨W, hW⟩ : ∃ W, W = w.alloc (.cells #[.string ⟨#[]⟩, .slice none 0 0] 29) := ⟨_, rfl⟩
  have hwW : Below w.heap.size w W := by rw [hW]; exact (Below.refl _ _).alloc (Nat.le_refl _) _
  have R0 : CellsAt W w.heap.size [.string ⟨#[]⟩, .slice none 0 0] := by rw [hW]; exact CellsAt.new w _ _
  have s0 := h.below hwW
  have HW : Hid _ := hW
  have hwd : decide (1 ≤ wd ∧ wd ≤ 8) = true := by simp [h1, h2]
  clear hW h
  go_enter Tryd.func39, Tryd.ntmps39
  go_upto_region 1 with fail
  rw [← HW.out]
  clear HW
  go_wp2_with fail
  refine (l1Text_any b a n c p W s0 hp (by omega)).mono ?_
  rintro e w1 ⟨t, rfl, ht, ⟨⟨p1, s1, l1, u1⟩, g1⟩⟩
  obtain ⟨W2, hW2⟩ : ∃ W2, W2 = w1.alloc (.cells #[.string t, .slice none 0 0] 29) := ⟨_, rfl⟩
  have h12 : Below w1.heap.size w1 W2 := by rw [hW2]; exact (Below.refl _ _).alloc (Nat.le_refl _) _
  have hzA : w.heap.size < W.heap.size := R0.lt
  have hz1' := g1.size
  have B2 : CellsAt W2 w1.heap.size [.string t, .slice none 0 0] := by rw [hW2]; exact CellsAt.new w1 _ _
  have R2 := (R0.far g1 hbl).below h12
  have s2 := s1.below h12
  have g2 : w.grownBy W2 (some b) := ((grown_below (some b) hwW).trans g1).trans (grown_below (some b) h12)
  obtain ⟨B, hB⟩ : ∃ B, B = w1.heap.size := ⟨_, rfl⟩
  have hBw : w.heap.size < B := by omega
  rw [← hB] at B2
  have HW2 : Hid _ := hW2
  have HB : Hid _ := hB
  have HC : Hid _ := And.intro R2 (And.intro B2 (And.intro s2 g2))
  clear hW2 hB h12 R0 s0 s1 g1 R2 B2 s2 g2 hwW
  go_upto_region 2 with fail
  rw [← HW2.out, ← HB.out]
  clear HW2 HB
  have hAl : Below W2.heap.size W2 (W2.alloc (.cells #[] 9)) := (Below.refl _ _).alloc (Nat.le_refl _) _
  have hB2 : B < W2.heap.size := HC.out.2.1.lt
  have HD : Hid _ := And.intro (HC.out.1.below hAl) (And.intro (HC.out.2.1.below hAl) (And.intro (HC.out.2.2.1.below hAl) (HC.out.2.2.2.trans (grown_below (some b) hAl))))
  have oA : (W2.alloc (.cells #[] 9)).ownsRow (B + 1) 9 1 (.slice (some ⟨W2.heap.size, 0, none⟩) 0 0) 0 (([] : List ByteArray).map Value.string) := World.ownsRow_lit W2 #[] 0 (by omega) (by unfold maxLen; omega) rfl
  have HOA : Hid ((W2.alloc (.cells #[] 9)).ownsRow (B + 1) 9 1 (.slice (some ⟨W2.heap.size, 0, none⟩) 0 0) 0 (([] : List ByteArray).map Value.string)) := oA
  clear oA hAl HC
  go_wp2_with (first
    | (go_at_call 31; refine (l1WidthD wd _).mono ?_; rintro e w' ⟨rfl, hw'⟩; rw [hw']; clear hw' w'))
  refine (pick_any b a n c p1 4 _ HD.out.2.2.1 (by omega) (by omega) (by omega) (by omega)).mono ?_
  rintro e w3 ⟨r, rfl, r0, r1, s3, g3⟩
  have hz3 := g3.size
  simp at hz3
  have E3 : Hid (CellsAt w3 w.heap.size [.string ⟨#[]⟩, .slice none 0 0] ∧ CellsAt w3 B [.string t, .slice none 0 0] ∧ RdSt w3 b a n c (p1 + 1) ∧ w.grownBy w3 (some b)) := ⟨HD.out.1.far g3 hbl, HD.out.2.1.far g3 (by omega), s3, HD.out.2.2.2.trans g3⟩
  have O3 : Hid (w3.ownsRow (B + 1) 9 1 (.slice (some ⟨W2.heap.size, 0, none⟩) 0 0) 0 (([] : List ByteArray).map Value.string)) := World.ownsRow.kept HOA.out g3 (.inr (by simp [Value.ownBlock]; omega))
  have hB3 : B < w3.heap.size := by omega
  obtain ⟨m0, rfl⟩ : ∃ m0 : Nat, r = m0 := ⟨r.toNat, by omega⟩
  clear HD HOA s3 g3
  go_wp2
  go_loopw [6, 7] (fun v i wr => ∃ (m g' c' : Nat) (L : List ByteArray) (p' : Int), i = .int .i64 m ∧ v = .slice (some ⟨g', 0, none⟩) L.length c' ∧ L.length + m ≤ 3 ∧ p ≤ p' ∧ p' ≤ p + 11 + 10 * (3 - (m : Int)) ∧ Hid (∀ s ∈ L, s.size ≤ 8) ∧ Hid (wr.ownsRow (B + 1) 9 1 (.slice (some ⟨g', 0, none⟩) L.length c') L.length (L.map Value.string)) ∧ Hid (CellsAt wr w.heap.size [.string ⟨#[]⟩, .slice none 0 0] ∧ CellsAt wr B [.string t, .slice none 0 0] ∧ RdSt wr b a n c p' ∧ w.grownBy wr (some b))) (fun _ i _ => (intOf i).toNat)
  case atStart => exact ⟨m0, W2.heap.size, 0, [], p1 + 1, rfl, rfl, by simp; omega, by omega, by omega, (fun s hs => by cases hs), O3.out, E3.out⟩
  case round =>
    obtain ⟨m, g', c', L, p', rfl, rfl, hLm, hp3, hp4, HS, HO, HE⟩ := hrel
    have hBr : B < wr.heap.size := HE.out.2.1.lt
    by_cases hm : 0 < m
    · have d1 : decide ((0 : Int) < (m : Int)) = true := by simp; omega
      go_wp2_with fail
      refine (l1Text_any b a n c p' wr HE.out.2.2.1 (by omega) (by omega)).mono ?_
      rintro e w4 ⟨s4, rfl, hs4, ⟨⟨p4, s5, l5, u5⟩, g4⟩⟩
      go_wp2_with fail
      refine (ssum_any s4 wd w4 (by unfold maxLen; omega) h1 h2).mono ?_
      rintro e w5 ⟨rfl, hb5⟩
      have hx5 : (sumText s4.data.toList wd.toNat).size ≤ 8 := by rw [sumText_size]; omega
      generalize sumText s4.data.toList wd.toNat = x at *
      have g5 : wr.grownBy w5 (some b) := g4.trans (grown_below (some b) hb5)
      have hgb := (HO.out.lt g' rfl).1
      have O5 : w5.ownsRow (B + 1) 9 1 (.slice (some ⟨g', 0, none⟩) L.length c') L.length (L.map Value.string) := HO.out.kept g5 (.inr (by simp [Value.ownBlock]; omega))
      have hz5 := g5.size
      go_wp2_with (first
        | (at_builtin; refine wpList_append_own_at _ rfl _ _ 22 rfl (B + 1) 9 i0 (.string ⟨#[]⟩) 1 16 Tryd.underlying22 hi hz0 hz1 hz2 rfl (by decide) _ L.length (L.map Value.string) rfl ?d0 ⟨w5.heap.size, 0, none⟩ 1 1 [.string x] rfl rfl ?d1 ?d2 ?d3 ?d4 ?d5 ?_))
      case d0 => exact O5.alloc _
      case d1 =>
        intro j u hu
        cases j with
        | zero => simp at hu; subst hu; simp [Addr.add]
        | succ j => simp at hu
      case d2 => intro u hu; simp at hu; subst hu; rfl
      case d3 => unfold maxLen; omega
      case d4 => omega
      case d5 => simp; omega
      intro v' w6 hown' hgrow hnil hat
      obtain ⟨g6, c6, hv'⟩ : ∃ g6 c6, v' = .slice (some ⟨g6, 0, none⟩) (L.length + 1) c6 := by
        rcases Joins.ownsRow_forms hown' with ⟨e1, _⟩ | hf
        · exact (hnil e1).elim
        · exact hf
      subst hv'
      have b6 : Below (B + 1) w5 w6 := ((Below.refl _ _).alloc (by omega) _).grown hgrow (by simp; omega) (fun i hi => by simp [Value.ownBlock] at hi; omega)
      have hr6 : w5.grownBy w6 (some g') := ⟨b6.os, b6.tape, b6.output, b6.size, fun i hi hne => by
        have h1 := hgrow.block i (by simp; omega) (by simpa [Value.ownBlock] using hne)
        rw [h1]
        exact (grown_below none ((Below.refl w5.heap.size w5).alloc (Nat.le_refl _) _)).block i hi (by simp)⟩
      have hbg : b < g' := by omega
      have E6 : Hid (CellsAt w6 w.heap.size [.string ⟨#[]⟩, .slice none 0 0] ∧ CellsAt w6 B [.string t, .slice none 0 0] ∧ RdSt w6 b a n c p4 ∧ w.grownBy w6 (some b)) := ⟨(HE.out.1.far g5 hbl).far' hr6 (by omega), (HE.out.2.1.far g5 (by omega)).far' hr6 (by omega), (s5.below hb5).grown hr6 hbg, (HE.out.2.2.2.trans g5).andThen hr6 (fun i e => by cases e; exact .inl (by omega))⟩
      have O6 : Hid (w6.ownsRow (B + 1) 9 1 (.slice (some ⟨g6, 0, none⟩) (L ++ [x]).length c6) (L ++ [x]).length ((L ++ [x]).map Value.string)) := by
        have : (L ++ [x]).length = L.length + 1 := by simp
        rw [this, List.map_append]
        exact hown'
      have HS6 : Hid (∀ s ∈ L ++ [x], s.size ≤ 8) := by
        intro s hs
        rcases List.mem_append.1 hs with hs | hs
        · exact HS.out s hs
        · simp at hs; subst hs; exact hx5
      clear hown' hgrow hnil hat b6 hr6 O5 HO HE HS
      go_wp2
      refine ⟨⟨m - 1, g6, c6, L ++ [x], p4, ?_, by simp, by simp; omega, by omega, ?_, HS6, O6, E6⟩, ?_⟩
      · congr 1
        omega
      · have : ((m - 1 : Nat) : Int) = (m : Int) - 1 := by omega
        omega
      · simp [intOf]
        omega
    · obtain rfl : m = 0 := by omega
      go_wp2_with fail
      refine (sorted_any (some ⟨g', 0, none⟩) c' L wr (SRow.own HO.out) (by omega)).mono ?_
      rintro e w4 ⟨g4, c4, rfl, ho4, hb4⟩
      have hl4 := sortS_length L
      have HS4 : Hid (∀ s ∈ sortS L, s.size ≤ 8) := fun s hs => HS.out s (sortS_mem hs)
      generalize sortS L = L4 at *
      have R4 := HE.out.1.below hb4
      have B4 := HE.out.2.1.below hb4
      have s4 := HE.out.2.2.1.below hb4
      have g4' := HE.out.2.2.2.trans (grown_below (some b) hb4)
      obtain ⟨x0, f0⟩ := B4 0 _ rfl
      obtain ⟨x1, f1⟩ := B4 1 _ rfl
      obtain ⟨y0, q0⟩ := R4 0 _ rfl
      obtain ⟨y1, q1⟩ := R4 1 _ rfl
      have hne : ¬ B = w.heap.size := by omega
      have HF : Hid _ := And.intro s4 (And.intro g4' ho4)
      clear R4 B4 s4 g4' ho4 hb4 HO HE HS
      go_wp2
      refine bodyPost_ret (v := .agg #[.string t, .slice (some ⟨g4, 0, none⟩) L4.length c4]) (by simp [results, Tryd.results39, go_sem, *]) rfl ?_
      have hwr : w.heap.size < wr.heap.size := by omega
      refine ⟨⟨t, _, _, L4, rfl, ht, by omega, HS4.out, ?_⟩, ⟨p', ?_, by omega, by omega⟩, ?_⟩
      · exact (ownsRow_setCell_below (ownsRow_setCell_below (ownsRow_setCell_below HF.out.2.2 hBr _) hwr _) hwr _).mono (by omega)
      · exact ((HF.out.1.grown (rd_grown _ B 1 _) (by omega)).grown (rd_grown _ w.heap.size 0 _) (by omega)).grown (rd_grown _ w.heap.size 1 _) (by omega)
      · exact ((HF.out.2.1.andThen (rd_grown _ B 1 _) (fun i e => by cases e; exact .inl (by omega))).andThen (rd_grown _ w.heap.size 0 _) (fun i e => by cases e; exact .inl (by omega))).andThen (rd_grown _ w.heap.size 1 _) (fun i e => by cases e; exact .inl (by omega))
end Go.Proofs.YtdecihmplkgfkaaDoor
