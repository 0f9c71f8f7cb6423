import Derived.Test.YthkmpihfhkmaoaaGreatU20
/-
  spec.l6Unit: the units that sweep.
-/
namespace Go.Proofs.YthkmpihfhkmaoaaGreat
open Go.ChangeShapes Go.WideShapes Go.ChangeAt Go.RowKit

theorem ZRow.turn {w w' : World} {b off : Nat} {zs : List (Kd × Value)} (h : ZRow w b off zs) (hb : w'.heap[b]? = w.heap[b]?) (hs : ∀ z ∈ zs, ∃ ad rc, z.2 = .slice (some ad) z.1.refs.length rc ∧ SRow w' w'.heap.size (some ad) z.1.refs) : ZRow w' b off zs := by
  intro i z hz
  obtain ⟨⟨h0, h1, h2, h3⟩, _⟩ := h i z hz
  exact ⟨⟨(World.cell?_of_block hb).trans h0, (World.cell?_of_block hb).trans h1, (World.cell?_of_block hb).trans h2, (World.cell?_of_block hb).trans h3⟩, hs z (List.mem_of_getElem? hz)⟩

set_option maxRecDepth 20000 in
set_option maxHeartbeats 16000000 in
theorem l6Unit_sweep (wd now given births : Int) (b ac : Nat) (zs : List (Kd × Value)) (ps : List Pd) (ls : List Ld) (pa la : Option Addr) (pc lc : Nat) (ph top at_ ro : Int) (x y cx cy : Nat) (ms : List ByteArray) (w : World) (hp0 : ph ≠ 0) (hz : ZRow w b 0 zs) (hbl : b < w.heap.size) (hxl : x < w.heap.size) (hp : PRow w w.heap.size pa ps) (hl : LRow w w.heap.size la ls) (hm : SRow w w.heap.size (some ⟨y, 0, none⟩) ms) (hzl : zs.length ≤ 600) (hpl : ps.length ≤ 100) (hll : ls.length ≤ 200) (hr30 : ∀ z ∈ zs, z.1.refs.length ≤ 30) (hml : ms.length ≤ 100000) (hro0 : 0 ≤ ro) (hro1 : ro ≤ 1000000000) :
    Calls Tryz.prog 34 #[.agg #[.int .i64 wd, .int .i64 now, .int .i64 given, .int .i64 births, .slice (some ⟨b, 0, none⟩) zs.length ac, .slice pa ps.length pc, .slice la ls.length lc], .agg #[.int .i64 ph, .slice (some ⟨x, 0, none⟩) 0 cx, .slice (some ⟨y, 0, none⟩) ms.length cy, .int .i64 top, .int .i64 at_, .int .i64 ro]] w fun e w' => LU w w' e wd now given births (.slice pa ps.length pc) (.slice la ls.length lc) (zs.map (·.1)) ps ls ph top at_ ro [] ms b x y zs := by
  have hp0' : (ph == 0) = false := by simpa using hp0
  obtain ⟨W, hW⟩ : ∃ W, W = ((w.alloc (.cells #[.int .i64 wd, .int .i64 now, .int .i64 given, .int .i64 births, .slice (some ⟨b, 0, none⟩) zs.length ac, .slice pa ps.length pc, .slice la ls.length lc] 36)).alloc (.cells #[.int .i64 ph, .slice (some ⟨x, 0, none⟩) 0 cx, .slice (some ⟨y, 0, none⟩) ms.length cy, .int .i64 top, .int .i64 at_, .int .i64 ro] 37)).alloc (.cells #[.int .i64 0, .int .i64 0, .int .i64 0, .int .i64 0, .int .i64 0, .slice none 0 0, .slice none 0 0, .slice none 0 0, .int .i64 0, .slice none 0 0, .slice none 0 0, .int .i64 0, .int .i64 0, .int .i64 0, .slice none 0 0] 39) := ⟨_, rfl⟩
  have hbW : Below w.heap.size w W := by rw [hW]; exact (((Below.refl _ _).alloc (Nat.le_refl _) _).alloc (by simp) _).alloc (by simp; omega) _
  have hzW : W.heap.size = w.heap.size + 3 := by rw [hW]; simp
  have x2 : CellsAt W (w.heap.size + 2) z15 := by
    have h1 := CellsAt.new ((w.alloc (.cells #[.int .i64 wd, .int .i64 now, .int .i64 given, .int .i64 births, .slice (some ⟨b, 0, none⟩) zs.length ac, .slice pa ps.length pc, .slice la ls.length lc] 36)).alloc (.cells #[.int .i64 ph, .slice (some ⟨x, 0, none⟩) 0 cx, .slice (some ⟨y, 0, none⟩) ms.length cy, .int .i64 top, .int .i64 at_, .int .i64 ro] 37)) z15 39
    rw [hW]
    simpa [z15] using h1
  have x1 : CellsAt W (w.heap.size + 1) [.int .i64 ph, .slice (some ⟨x, 0, none⟩) 0 cx, .slice (some ⟨y, 0, none⟩) ms.length cy, .int .i64 top, .int .i64 at_, .int .i64 ro] := by
    have h1 := CellsAt.new (w.alloc (.cells #[.int .i64 wd, .int .i64 now, .int .i64 given, .int .i64 births, .slice (some ⟨b, 0, none⟩) zs.length ac, .slice pa ps.length pc, .slice la ls.length lc] 36)) [.int .i64 ph, .slice (some ⟨x, 0, none⟩) 0 cx, .slice (some ⟨y, 0, none⟩) ms.length cy, .int .i64 top, .int .i64 at_, .int .i64 ro] 37
    rw [World.size_alloc] at h1
    rw [hW]
    exact CellsAt.below h1 ((Below.refl _ _).alloc (Nat.le_refl _) _)
  have x0 : CellsAt W w.heap.size [.int .i64 wd, .int .i64 now, .int .i64 given, .int .i64 births, .slice (some ⟨b, 0, none⟩) zs.length ac, .slice pa ps.length pc, .slice la ls.length lc] := by
    have h1 := CellsAt.new w [.int .i64 wd, .int .i64 now, .int .i64 given, .int .i64 births, .slice (some ⟨b, 0, none⟩) zs.length ac, .slice pa ps.length pc, .slice la ls.length lc] 36
    rw [hW]
    exact CellsAt.below (CellsAt.below h1 ((Below.refl _ _).alloc (Nat.le_refl _) _)) ((Below.refl _ _).alloc (Nat.le_refl _) _)
  have HW : Hid _ := hW
  have HzW : Hid (W.heap.size = w.heap.size + 3) := hzW
  have hzW3 : w.heap.size + 3 ≤ W.heap.size := by omega
  clear hW hzW
  obtain ⟨W1, hW1⟩ : ∃ W1, W1 = W.setCell ⟨w.heap.size + 1, 0, none⟩ (.int .i64 2) := ⟨_, rfl⟩
  have hT1 : Tn [w.heap.size + 1] W W1 := by rw [hW1]; exact tn1 _ _ _ _
  have hz1 : W.heap.size ≤ W1.heap.size := hT1.size
  have hb1 : Below w.heap.size w W1 := hbW.trans (hT1.below hbW.size (by simp))
  have H1 : Hid (CellsAt W1 w.heap.size [.int .i64 wd, .int .i64 now, .int .i64 given, .int .i64 births, .slice (some ⟨b, 0, none⟩) zs.length ac, .slice pa ps.length pc, .slice la ls.length lc] ∧ CellsAt W1 (w.heap.size + 1) [.int .i64 2, .slice (some ⟨x, 0, none⟩) 0 cx, .slice (some ⟨y, 0, none⟩) ms.length cy, .int .i64 top, .int .i64 at_, .int .i64 ro] ∧ CellsAt W1 (w.heap.size + 2) z15) := ⟨CellsAt.same x0 (hT1.block _ (by omega) (by simp)), (by rw [hW1]; exact x1.set 0 _), CellsAt.same x2 (hT1.block _ (by omega) (by simp))⟩
  have HW1 : Hid _ := hW1
  have HIn : Hid (ZRow w b 0 zs ∧ PRow w w.heap.size pa ps ∧ LRow w w.heap.size la ls ∧ (∀ z ∈ zs, z.1.refs.length ≤ 30) ∧ SRow w w.heap.size (some ⟨y, 0, none⟩) ms) := ⟨hz, hp, hl, hr30, hm⟩
  have HXQ : Hid (SRow w w.heap.size (some ⟨x, 0, none⟩) []) := .inr ⟨x, 0, rfl, hxl, fun i s h => by simp at h⟩
  have HN := l6Next_any wd now given births at_ (some ⟨b, 0, none⟩) ac (.slice pa ps.length pc) (.slice la ls.length lc) (zs.map (·.1)) W1 (KRow.mono (KRow.below (hz.krow hbl) hb1) hb1.size) (by rw [List.length_map]; omega)
  rw [List.length_map] at HN
  have HNN : Hid _ := HN
  have H0 : (CellsAt W w.heap.size [.int .i64 wd, .int .i64 now, .int .i64 given, .int .i64 births, .slice (some ⟨b, 0, none⟩) zs.length ac, .slice pa ps.length pc, .slice la ls.length lc] ∧ CellsAt W (w.heap.size + 1) [.int .i64 ph, .slice (some ⟨x, 0, none⟩) 0 cx, .slice (some ⟨y, 0, none⟩) ms.length cy, .int .i64 top, .int .i64 at_, .int .i64 ro] ∧ CellsAt W (w.heap.size + 2) z15) := ⟨x0, x1, x2⟩
  obtain ⟨i0, i1, i2, i3, i4, i5, i6⟩ := sq7 (sbox_of H0.1)
  obtain ⟨⟨r0, f0⟩, ⟨r1, f1⟩, ⟨r2, f2⟩, ⟨r3, f3⟩, ⟨r4, f4⟩, ⟨r5, f5⟩⟩ := r6 H0.2.1
  obtain ⟨⟨y0, q0⟩, ⟨y1, q1⟩, ⟨y2, q2⟩, ⟨y3, q3⟩, ⟨y4, q4⟩, ⟨y5, q5⟩, ⟨y6, q6⟩, ⟨y7, q7⟩, ⟨y8, q8⟩, ⟨y9, q9⟩, ⟨y10, q10⟩, ⟨y11, q11⟩, ⟨y12, q12⟩, ⟨y13, q13⟩, y14, q14⟩ := c15 H0.2.2
  clear hW1 hz hp hl hm x0 x1 x2 hT1 hbW hr30 HN H0
  go_enter Tryz.func34, Tryz.ntmps34
  go_upto_region 1 with fail
  rw [← HW.out]
  clear HW
  go_upto_region 22 with fail
  rw [← HW1.out]
  clear HW1 i0 i1 i2 i3 i4 i5 i6 r0 r1 r2 r3 r4 r5 f0 f1 f2 f3 f4 f5 y0 q0 y1 q1 y2 q2 y3 q3 y4 q4 y5 q5 y6 q6 y7 q7 y8 q8 y9 q9 y10 q10 y11 q11 y12 q12 y13 q13 y14 q14
  obtain ⟨i0, i1, i2, i3, i4, i5, i6⟩ := sq7 (sbox_of H1.out.1)
  obtain ⟨⟨r0, f0⟩, ⟨r1, f1⟩, ⟨r2, f2⟩, ⟨r3, f3⟩, ⟨r4, f4⟩, ⟨r5, f5⟩⟩ := r6 H1.out.2.1
  obtain ⟨⟨y0, q0⟩, ⟨y1, q1⟩, ⟨y2, q2⟩, ⟨y3, q3⟩, ⟨y4, q4⟩, ⟨y5, q5⟩, ⟨y6, q6⟩, ⟨y7, q7⟩, ⟨y8, q8⟩, ⟨y9, q9⟩, ⟨y10, q10⟩, ⟨y11, q11⟩, ⟨y12, q12⟩, ⟨y13, q13⟩, y14, q14⟩ := c15 H1.out.2.2
  go_wp2_with fail
  refine Calls.mono HNN.out ?_
  rintro e w2 ⟨r, rfl, hnx, hb2⟩
  have H2 : Hid (CellsAt w2 w.heap.size [.int .i64 wd, .int .i64 now, .int .i64 given, .int .i64 births, .slice (some ⟨b, 0, none⟩) zs.length ac, .slice pa ps.length pc, .slice la ls.length lc] ∧ CellsAt w2 (w.heap.size + 1) [.int .i64 2, .slice (some ⟨x, 0, none⟩) 0 cx, .slice (some ⟨y, 0, none⟩) ms.length cy, .int .i64 top, .int .i64 at_, .int .i64 ro] ∧ CellsAt w2 (w.heap.size + 2) z15) := ⟨CellsAt.below H1.out.1 hb2, CellsAt.below H1.out.2.1 hb2, CellsAt.below H1.out.2.2 hb2⟩
  have HB2 : Hid (Below w.heap.size w w2) := hb1.trans (hb2.mono hb1.size)
  have hz2 : w.heap.size + 3 ≤ w2.heap.size := by have := hb2.size; omega
  have HNX : Hid (NextAt (zs.map (·.1)) at_ r) := hnx
  clear i0 i1 i2 i3 i4 i5 i6 r0 r1 r2 r3 r4 r5 f0 f1 f2 f3 f4 f5 y0 q0 y1 q1 y2 q2 y3 q3 y4 q4 y5 q5 y6 q6 y7 q7 y8 q8 y9 q9 y10 q10 y11 q11 y12 q12 y13 q13 y14 q14 H1 hb2 hnx hb1
  obtain ⟨i0, i1, i2, i3, i4, i5, i6⟩ := sq7 (sbox_of H2.out.1)
  obtain ⟨⟨r0, f0⟩, ⟨r1, f1⟩, ⟨r2, f2⟩, ⟨r3, f3⟩, ⟨r4, f4⟩, ⟨r5, f5⟩⟩ := r6 H2.out.2.1
  obtain ⟨⟨y0, q0⟩, ⟨y1, q1⟩, ⟨y2, q2⟩, ⟨y3, q3⟩, ⟨y4, q4⟩, ⟨y5, q5⟩, ⟨y6, q6⟩, ⟨y7, q7⟩, ⟨y8, q8⟩, ⟨y9, q9⟩, ⟨y10, q10⟩, ⟨y11, q11⟩, ⟨y12, q12⟩, ⟨y13, q13⟩, y14, q14⟩ := c15 H2.out.2.2
  rcases HNX.out with ⟨rfl, hno⟩ | ⟨i, k, rfl, hki, hka, hkm⟩
  · have HNO : Hid (∀ y ∈ zs.map (·.1), ¬ y.born < at_) := hno
    clear hno HNX
    go_wp2
    refine bodyPost_ret (v := .agg #[.int .i64 0, .int .i64 wd, .int .i64 now, .int .i64 given, .int .i64 births, .slice (some ⟨b, 0, none⟩) zs.length ac, .slice pa ps.length pc, .slice la ls.length lc, .int .i64 0, .slice none 0 0, .slice none 0 0, .int .i64 0, .int .i64 0, .int .i64 (ro + 1), .slice none 0 0]) (by simp [results, Tryz.results34, go_sem, y0, y1, y2, y3, y4, y5, y6, y7, y8, y9, y10, y11, y12, y13, y14]) rfl ?_
    refine LU.from (X := w2) [w.heap.size + 2] ?_ (tn15 w2 (w.heap.size + 2) _ _ _ _ _ _ _ _ _ _ _ _ _ _ _)
    intro wf hT2
    have hB3 := HB2.out.trans (hT2.below HB2.out.size (by simp))
    exact ⟨⟨⟨zs.map (·.1), 0, 0, 0, ro + 1, [], [], []⟩, b, ac, zs, _, _, none, _, _, 0, rfl, .rest hp0 rfl (fun y hy => Int.not_lt.2 (HNO.out y hy)), rfl, HIn.out.1.below hB3 hbl, Nat.lt_of_lt_of_le hbl hB3.size, .inl rfl, .inl rfl, .inl rfl, ⟨(fun p e => by cases e; exact .inl rfl), Far.no, Far.no, Far.no⟩, fun z hz => hz⟩, hB3⟩
  · obtain ⟨z, hzz, hzf⟩ : ∃ z, zs[i]? = some z ∧ z.1 = k := by
      rw [List.getElem?_map] at hki
      obtain ⟨z, h1, h2⟩ := Option.map_eq_some_iff.1 hki
      exact ⟨z, h1, h2⟩
    subst hzf
    have HY : Hid (Young (zs.map (·.1)) at_ z.1) := ⟨List.mem_of_getElem? hki, hka, hkm⟩
    have hil : i < zs.length := (List.getElem?_eq_some_iff.1 hzz).1
    have hneg : ¬ ((i : Int) < 0) := by omega
    obtain ⟨⟨d0, d1, _, _⟩, _⟩ := (HIn.out.1.below HB2.out hbl) i z hzz
    rw [Nat.zero_add] at d0 d1
    obtain ⟨W3, hW3⟩ : ∃ W3, W3 = w2.setCell ⟨w.heap.size + 1, 4, none⟩ (.int .i64 z.1.born) := ⟨_, rfl⟩
    have hT3 : Tn [w.heap.size + 1] w2 W3 := by rw [hW3]; exact tn1 _ _ _ _
    have hb3 : Below w.heap.size w W3 := HB2.out.trans (hT3.below HB2.out.size (by simp))
    have H3 : Hid (CellsAt W3 w.heap.size [.int .i64 wd, .int .i64 now, .int .i64 given, .int .i64 births, .slice (some ⟨b, 0, none⟩) zs.length ac, .slice pa ps.length pc, .slice la ls.length lc] ∧ CellsAt W3 (w.heap.size + 1) [.int .i64 2, .slice (some ⟨x, 0, none⟩) 0 cx, .slice (some ⟨y, 0, none⟩) ms.length cy, .int .i64 top, .int .i64 z.1.born, .int .i64 ro] ∧ CellsAt W3 (w.heap.size + 2) z15) := ⟨CellsAt.same H2.out.1 (hT3.block _ (by omega) (by simp)), (by rw [hW3]; exact H2.out.2.1.set 4 _), CellsAt.same H2.out.2.2 (hT3.block _ (by omega) (by simp))⟩
    have e0 : W3.cell? ⟨b, i * 4, none⟩ = some (.string z.1.sum) := (World.cell?_of_block (hT3.block b (by have := HB2.out.size; omega) (by simp; omega))).trans d0
    have HW3 : Hid _ := hW3
    have hz3 : w.heap.size + 3 ≤ W3.heap.size := by have := hT3.size; omega
    clear hW3 hT3 hki hka hkm HNX hzz
    go_upto_region 26 with fail
    rw [← HW3.out]
    clear HW3 d0 d1 i0 i1 i2 i3 i4 i5 i6 r0 r1 r2 r3 r4 r5 f0 f1 f2 f3 f4 f5 y0 q0 y1 q1 y2 q2 y3 q3 y4 q4 y5 q5 y6 q6 y7 q7 y8 q8 y9 q9 y10 q10 y11 q11 y12 q12 y13 q13 y14 q14
    obtain ⟨i0, i1, i2, i3, i4, i5, i6⟩ := sq7 (sbox_of H3.out.1)
    obtain ⟨⟨r0, f0⟩, ⟨r1, f1⟩, ⟨r2, f2⟩, ⟨r3, f3⟩, ⟨r4, f4⟩, ⟨r5, f5⟩⟩ := r6 H3.out.2.1
    obtain ⟨⟨y0, q0⟩, ⟨y1, q1⟩, ⟨y2, q2⟩, ⟨y3, q3⟩, ⟨y4, q4⟩, ⟨y5, q5⟩, ⟨y6, q6⟩, ⟨y7, q7⟩, ⟨y8, q8⟩, ⟨y9, q9⟩, ⟨y10, q10⟩, ⟨y11, q11⟩, ⟨y12, q12⟩, ⟨y13, q13⟩, y14, q14⟩ := c15 H3.out.2.2
    have HC : Hid _ := has_any (some ⟨y, 0, none⟩) cy ms z.1.sum W3 W3.heap.size (SRow.below' HIn.out.2.2.2.2 hb3) (by omega)
    have HB3 : Hid (Below w.heap.size w W3) := hb3
    go_wp2_with fail
    refine Calls.mono HC.out ?_
    rintro e w9 ⟨rfl, hw9⟩
    rw [hw9]
    clear hw9 HC w9 hb3 e0
    by_cases hin : z.1.sum ∈ ms
    · have hany : ms.any (fun x => decide (x = z.1.sum)) = true := List.any_eq_true.2 ⟨z.1.sum, hin, by simp⟩
      rw [hany]
      clear hany
      go_wp2
      refine bodyPost_ret (v := .agg #[.int .i64 0, .int .i64 wd, .int .i64 now, .int .i64 given, .int .i64 births, .slice (some ⟨b, 0, none⟩) zs.length ac, .slice pa ps.length pc, .slice la ls.length lc, .int .i64 2, .slice (some ⟨x, 0, none⟩) 0 cx, .slice (some ⟨y, 0, none⟩) ms.length cy, .int .i64 top, .int .i64 z.1.born, .int .i64 ro, .slice none 0 0]) (by simp [results, Tryz.results34, go_sem, y0, y1, y2, y3, y4, y5, y6, y7, y8, y9, y10, y11, y12, y13, y14]) rfl ?_
      refine LU.from (X := W3) [w.heap.size + 2] ?_ (tn15 W3 (w.heap.size + 2) _ _ _ _ _ _ _ _ _ _ _ _ _ _ _)
      intro wf hT2
      have hB3 := HB3.out.trans (hT2.below HB3.out.size (by simp))
      exact ⟨⟨⟨zs.map (·.1), 2, top, z.1.born, ro, [], ms, []⟩, b, ac, zs, _, _, none, _, _, 0, rfl, .keep hp0 rfl z.1 HY.out (.inl hin), rfl, HIn.out.1.below hB3 hbl, Nat.lt_of_lt_of_le hbl hB3.size, HXQ.out.below' hB3, HIn.out.2.2.2.2.below' hB3, .inl rfl, ⟨(fun p e => by cases e; exact .inl rfl), (fun p e => by cases e; exact .inr (.inl rfl)), (fun p e => by cases e; exact .inr (.inr (.inl rfl))), Far.no⟩, fun z hz => hz⟩, hB3⟩
    · have hany : ms.any (fun x => decide (x = z.1.sum)) = false := by simp; exact fun x hx e => hin (e ▸ hx)
      rw [hany]
      have Hnin : Hid (z.1.sum ∉ ms) := hin
      have HD := l4Drop_any wd now given births b 0 ac pc lc pa la zs ps ls z.1.sum W3 (HIn.out.1.below HB3.out hbl) (Nat.lt_of_lt_of_le hbl HB3.out.size) (PRow.mono (PRow.below HIn.out.2.1 HB3.out) HB3.out.size) (LRow.mono (LRow.below HIn.out.2.2.1 HB3.out) HB3.out.size) hzl hpl hll (fun z hz => Nat.le_trans (HIn.out.2.2.2.1 z hz) (by omega)) ⟨z.1, HY.out.1, rfl⟩
      have HDD : Hid _ := HD
      clear hany hin HD
      go_wp2_with fail
      refine Calls.mono HDD.out ?_
      rintro e w4 ⟨hb4, hres⟩
      have hB4 : Below w.heap.size w w4 := HB3.out.trans (hb4.mono HB3.out.size)
      have H4 : Hid (CellsAt w4 w.heap.size [.int .i64 wd, .int .i64 now, .int .i64 given, .int .i64 births, .slice (some ⟨b, 0, none⟩) zs.length ac, .slice pa ps.length pc, .slice la ls.length lc] ∧ CellsAt w4 (w.heap.size + 1) [.int .i64 2, .slice (some ⟨x, 0, none⟩) 0 cx, .slice (some ⟨y, 0, none⟩) ms.length cy, .int .i64 top, .int .i64 z.1.born, .int .i64 ro] ∧ CellsAt w4 (w.heap.size + 2) z15) := ⟨CellsAt.below H3.out.1 hb4, CellsAt.below H3.out.2.1 hb4, CellsAt.below H3.out.2.2 hb4⟩
      have hz4 : w.heap.size + 3 ≤ w4.heap.size := Nat.le_trans hz3 hb4.size
      clear i0 i1 i2 i3 i4 i5 i6 r0 r1 r2 r3 r4 r5 f0 f1 f2 f3 f4 f5 y0 q0 y1 q1 y2 q2 y3 q3 y4 q4 y5 q5 y6 q6 y7 q7 y8 q8 y9 q9 y10 q10 y11 q11 y12 q12 y13 q13 y14 q14 HDD H3
      rcases hres with ⟨huse, rfl⟩ | ⟨huse, g, c, rfl, hZ4, hg1, hg2⟩
      · have HUse : Hid (InUse ps ls (zs.map (·.1)) z.1.sum) := huse
        obtain ⟨W5, hW5⟩ : ∃ W5, W5 = w4.alloc (.cells #[.int .i64 6, .int .i64 0, .int .i64 0, .int .i64 0, .int .i64 0, .slice none 0 0, .slice none 0 0, .slice none 0 0, .string ⟨#[]⟩, .int .i64 0, .string ⟨#[]⟩, .string ⟨#[]⟩] 129) := ⟨_, rfl⟩
        have b5 : Below w4.heap.size w4 W5 := by rw [hW5]; exact (Below.refl _ _).alloc (Nat.le_refl _) _
        have H5 : (CellsAt W5 w.heap.size [.int .i64 wd, .int .i64 now, .int .i64 given, .int .i64 births, .slice (some ⟨b, 0, none⟩) zs.length ac, .slice pa ps.length pc, .slice la ls.length lc] ∧ CellsAt W5 (w.heap.size + 1) [.int .i64 2, .slice (some ⟨x, 0, none⟩) 0 cx, .slice (some ⟨y, 0, none⟩) ms.length cy, .int .i64 top, .int .i64 z.1.born, .int .i64 ro] ∧ CellsAt W5 (w.heap.size + 2) z15) := ⟨CellsAt.below H4.out.1 b5, CellsAt.below H4.out.2.1 b5, CellsAt.below H4.out.2.2 b5⟩
        have n0 : W5.cell? ⟨w4.heap.size, 0, none⟩ = some (.int .i64 6) := by rw [hW5]; simp [go_sem]
        have HB5 : Hid (Below w.heap.size w W5) := hB4.trans (b5.mono hB4.size)
        have HW5 : Hid _ := hW5
        clear hW5 huse hB4 hb4 b5
        go_upto_region 30 with fail
        rw [← HW5.out]
        clear HW5 H4
        obtain ⟨i0, i1, i2, i3, i4, i5, i6⟩ := sq7 (sbox_of H5.1)
        obtain ⟨⟨r0, f0⟩, ⟨r1, f1⟩, ⟨r2, f2⟩, ⟨r3, f3⟩, ⟨r4, f4⟩, ⟨r5, f5⟩⟩ := r6 H5.2.1
        obtain ⟨⟨y0, q0⟩, ⟨y1, q1⟩, ⟨y2, q2⟩, ⟨y3, q3⟩, ⟨y4, q4⟩, ⟨y5, q5⟩, ⟨y6, q6⟩, ⟨y7, q7⟩, ⟨y8, q8⟩, ⟨y9, q9⟩, ⟨y10, q10⟩, ⟨y11, q11⟩, ⟨y12, q12⟩, ⟨y13, q13⟩, y14, q14⟩ := c15 H5.2.2
        go_wp2
        refine bodyPost_ret (v := .agg #[.int .i64 0, .int .i64 wd, .int .i64 now, .int .i64 given, .int .i64 births, .slice (some ⟨b, 0, none⟩) zs.length ac, .slice pa ps.length pc, .slice la ls.length lc, .int .i64 2, .slice (some ⟨x, 0, none⟩) 0 cx, .slice (some ⟨y, 0, none⟩) ms.length cy, .int .i64 top, .int .i64 z.1.born, .int .i64 ro, .slice none 0 0]) (by simp [results, Tryz.results34, go_sem, y0, y1, y2, y3, y4, y5, y6, y7, y8, y9, y10, y11, y12, y13, y14]) rfl ?_
        refine LU.from (X := W5) [w.heap.size + 2] ?_ (tn15 W5 (w.heap.size + 2) _ _ _ _ _ _ _ _ _ _ _ _ _ _ _)
        intro wf hT2
        have hB3 := HB5.out.trans (hT2.below HB5.out.size (by simp))
        exact ⟨⟨⟨zs.map (·.1), 2, top, z.1.born, ro, [], ms, []⟩, b, ac, zs, _, _, none, _, _, 0, rfl, .keep hp0 rfl z.1 HY.out (.inr HUse.out), rfl, HIn.out.1.below hB3 hbl, Nat.lt_of_lt_of_le hbl hB3.size, HXQ.out.below' hB3, HIn.out.2.2.2.2.below' hB3, .inl rfl, ⟨(fun p e => by cases e; exact .inl rfl), (fun p e => by cases e; exact .inr (.inl rfl)), (fun p e => by cases e; exact .inr (.inr (.inl rfl))), Far.no⟩, fun z hz => hz⟩, hB3⟩
      · have HUse : Hid (¬ InUse ps ls (zs.map (·.1)) z.1.sum) := huse
        obtain ⟨W5, hW5⟩ : ∃ W5, W5 = w4.alloc (.cells #[.int .i64 0, .int .i64 wd, .int .i64 now, .int .i64 given, .int .i64 births, .slice (some ⟨g, 0, none⟩) (dropZ zs z.1.sum).length c, .slice pa ps.length pc, .slice la ls.length lc, .string ⟨#[]⟩, .int .i64 0, .string ⟨#[]⟩, .string ⟨#[]⟩] 129) := ⟨_, rfl⟩
        have b5 : Below w4.heap.size w4 W5 := by rw [hW5]; exact (Below.refl _ _).alloc (Nat.le_refl _) _
        have H5 : Hid (CellsAt W5 w.heap.size [.int .i64 wd, .int .i64 now, .int .i64 given, .int .i64 births, .slice (some ⟨b, 0, none⟩) zs.length ac, .slice pa ps.length pc, .slice la ls.length lc] ∧ CellsAt W5 (w.heap.size + 1) [.int .i64 2, .slice (some ⟨x, 0, none⟩) 0 cx, .slice (some ⟨y, 0, none⟩) ms.length cy, .int .i64 top, .int .i64 z.1.born, .int .i64 ro] ∧ CellsAt W5 (w.heap.size + 2) z15) := ⟨CellsAt.below H4.out.1 b5, CellsAt.below H4.out.2.1 b5, CellsAt.below H4.out.2.2 b5⟩
        have n : CellsAt W5 w4.heap.size [.int .i64 0, .int .i64 wd, .int .i64 now, .int .i64 given, .int .i64 births, .slice (some ⟨g, 0, none⟩) (dropZ zs z.1.sum).length c, .slice pa ps.length pc, .slice la ls.length lc, .string ⟨#[]⟩, .int .i64 0, .string ⟨#[]⟩, .string ⟨#[]⟩] := by rw [hW5]; exact CellsAt.new w4 _ _
        obtain ⟨n0, _⟩ := n 0 _ rfl
        obtain ⟨n1, _⟩ := n 1 _ rfl
        obtain ⟨n2, _⟩ := n 2 _ rfl
        obtain ⟨n3, _⟩ := n 3 _ rfl
        obtain ⟨n4, _⟩ := n 4 _ rfl
        obtain ⟨n5, _⟩ := n 5 _ rfl
        obtain ⟨n6, _⟩ := n 6 _ rfl
        obtain ⟨n7, _⟩ := n 7 _ rfl
        have HB5 : Hid (Below w.heap.size w W5) := hB4.trans (b5.mono hB4.size)
        have HZ5 : Hid (ZRow W5 g 0 (dropZ zs z.1.sum)) := hZ4.below b5 hg2
        have hg5 : w.heap.size + 3 ≤ g := Nat.le_trans hz3 hg1
        have hg6 : g < W5.heap.size := Nat.lt_of_lt_of_le hg2 b5.size
        have hz5 : w.heap.size + 3 ≤ W5.heap.size := Nat.le_trans hz4 b5.size
        have HW5 : Hid _ := hW5
        clear hW5 huse hB4 hb4 b5 n hZ4
        go_upto_region 30 with fail
        rw [← HW5.out]
        clear HW5 H4
        obtain ⟨i0, i1, i2, i3, i4, i5, i6⟩ := sq7 (sbox_of H5.out.1)
        obtain ⟨⟨r0, f0⟩, ⟨r1, f1⟩, ⟨r2, f2⟩, ⟨r3, f3⟩, ⟨r4, f4⟩, ⟨r5, f5⟩⟩ := r6 H5.out.2.1
        obtain ⟨W6, hW6⟩ : ∃ W6, W6 = W5.alloc (.cells #[.string z.1.sum] 9) := ⟨_, rfl⟩
        have b6 : Below W5.heap.size W5 W6 := by rw [hW6]; exact (Below.refl _ _).alloc (Nat.le_refl _) _
        have p0 : W6.cell? ⟨W5.heap.size, 0, none⟩ = some (.string z.1.sum) := by rw [hW6]; simp [go_sem]
        have hl6 : W5.heap.size < W6.heap.size := by rw [hW6]; simp
        have H6 : CellsAt (W5.alloc (.cells #[.string z.1.sum] 9)) (w.heap.size + 1 + 1) z15 := by rw [← hW6]; exact CellsAt.below (v := .int .i64 0) H5.out.2.2 b6
        have HW6 : Hid _ := hW6
        obtain ⟨⟨y0, q0⟩, ⟨y1, q1⟩, ⟨y2, q2⟩, ⟨y3, q3⟩, ⟨y4, q4⟩, ⟨y5, q5⟩, ⟨y6, q6⟩, ⟨y7, q7⟩, ⟨y8, q8⟩, ⟨y9, q9⟩, ⟨y10, q10⟩, ⟨y11, q11⟩, ⟨y12, q12⟩, ⟨y13, q13⟩, y14, q14⟩ := c15 H6
        have HH : Hid (Below W5.heap.size W5 W6 ∧ W6.cell? ⟨W5.heap.size, 0, none⟩ = some (.string z.1.sum)) := ⟨b6, p0⟩
        clear hW6 b6 p0
        go_wp2
        refine bodyPost_ret (v := .agg #[.int .i64 0, .int .i64 wd, .int .i64 now, .int .i64 given, .int .i64 births, .slice (some ⟨g, 0, none⟩) (dropZ zs z.1.sum).length c, .slice pa ps.length pc, .slice la ls.length lc, .int .i64 2, .slice (some ⟨x, 0, none⟩) 0 cx, .slice (some ⟨y, 0, none⟩) ms.length cy, .int .i64 top, .int .i64 z.1.born, .int .i64 ro, .slice (some ⟨W5.heap.size, 0, none⟩) 1 1]) (by simp [results, Tryz.results34, go_sem, y0, y1, y2, y3, y4, y5, y6, y7, y8, y9, y10, y11, y12, y13, y14]) rfl ?_
        rw [← HW6.out]
        refine LU.from (X := W6) [w.heap.size + 2] ?_ (tn15 W6 (w.heap.size + 2) _ _ _ _ _ _ _ _ _ _ _ _ _ _ _)
        intro wf hT2
        have hb6 := HB5.out.trans (HH.out.1.mono HB5.out.size)
        have hB3 := hb6.trans (hT2.below hb6.size (by simp))
        refine ⟨⟨⟨dropK (zs.map (·.1)) z.1.sum, 2, top, z.1.born, ro, [], ms, [z.1.sum]⟩, g, c, dropZ zs z.1.sum, _, _, _, _, _, 1, rfl, .drop hp0 rfl z.1 HY.out Hnin.out HUse.out, dropZ_map _ _, (HZ5.out.below HH.out.1 hg6).turn (hT2.block _ (by omega) (by simp; omega)) (fun v hv => ?_), by have := hT2.size; omega, HXQ.out.below' hB3, HIn.out.2.2.2.2.below' hB3, .inr ⟨_, 0, rfl, by have := hT2.size; omega, fun i s h => ?_⟩, ⟨Far.new (by omega), (fun p e => by cases e; exact .inr (.inl rfl)), (fun p e => by cases e; exact .inr (.inr (.inl rfl))), Far.new (by omega)⟩, fun v hv => (List.mem_filter.1 hv).1⟩, hB3⟩
        · obtain ⟨j, hj⟩ := List.getElem?_of_mem ((List.mem_filter.1 hv).1)
          obtain ⟨_, ad, rc, h1, h2⟩ := HIn.out.1 j v hj
          exact ⟨ad, rc, h1, h2.below' hB3⟩
        · match i, h with
          | 0, h =>
            cases h
            exact (World.cell?_of_block (hT2.block _ hl6 (by simp; omega))).trans HH.out.2

end Go.Proofs.YthkmpihfhkmaoaaGreat
