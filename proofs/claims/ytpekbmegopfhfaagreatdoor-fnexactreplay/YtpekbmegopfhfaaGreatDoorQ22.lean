import Derived.Test.YtpekbmegopfhfaaGreatDoorQ19
import Derived.Test.YtpekbmegopfhfaaGreatDoorQ13
import Derived.Test.YtpekbmegopfhfaaGreatDoorQ18
/-
  spec.l4Copy of the zero state; spec.l4Drop of a thing that is missing; a copy's parts.
-/
namespace Go.Proofs.YtpekbmegopfhfaaGreatDoor
open Go.ChangeShapes Go.WideShapes Go.ChangeAt Go.RowKit

set_option maxRecDepth 20000 in
set_option maxHeartbeats 4000000 in
theorem l4Copy_nil (w : World) :
    Calls Tryz.prog 43 #[.agg #[.int .i64 0, .int .i64 0, .int .i64 0, .int .i64 0, .slice none 0 0, .slice none 0 0, .slice none 0 0]] w fun e w' => ∃ ta tn tc pa pn pc la ln lc, e = .returned (.agg #[.int .i64 0, .int .i64 0, .int .i64 0, .int .i64 0, .slice ta tn tc, .slice pa pn pc, .slice la ln lc]) ∧ Below w.heap.size w w' := by
  obtain ⟨W, hW⟩ : ∃ W, W = (((w.alloc (.cells #[.int .i64 0, .int .i64 0, .int .i64 0, .int .i64 0, .slice none 0 0, .slice none 0 0, .slice none 0 0] 28)).alloc (.cells #[.int .i64 0, .int .i64 0, .int .i64 0, .int .i64 0, .slice none 0 0, .slice none 0 0, .slice none 0 0] 28)).alloc (.cells #[.int .i64 0, .int .i64 0, .int .i64 0, .int .i64 0, .slice (some ⟨w.heap.size + 1 + 1 + 1, 0, none⟩) 0 0, .slice none 0 0, .slice none 0 0] 28)).alloc (.cells #[] 114) := ⟨_, rfl⟩
  have bW : Below w.heap.size w W := by rw [hW]; exact ((((Below.refl _ _).alloc (Nat.le_refl _) _).alloc (by simp) _).alloc (by simp; omega) _).alloc (by simp; omega) _
  have hzW : W.heap.size = w.heap.size + 4 := by rw [hW]; simp
  have x0 : CellsAt W w.heap.size [.int .i64 0, .int .i64 0, .int .i64 0, .int .i64 0, .slice none 0 0, .slice none 0 0, .slice none 0 0] := by
    rw [hW]
    exact CellsAt.below (CellsAt.new w _ _) ((((Below.refl _ _).alloc (Nat.le_refl _) _).alloc (by simp) _).alloc (by simp <;> omega) _)
  have x1 : CellsAt W (w.heap.size + 1) z7 := by
    have h1 := CellsAt.new (w.alloc (.cells #[.int .i64 0, .int .i64 0, .int .i64 0, .int .i64 0, .slice none 0 0, .slice none 0 0, .slice none 0 0] 28)) z7 28
    rw [World.size_alloc] at h1
    rw [hW]
    exact CellsAt.below (v := .int .i64 0) (l := z7.tail) h1 (((Below.refl _ _).alloc (Nat.le_refl _) _).alloc (by simp) _)
  have x2 : CellsAt W (w.heap.size + 2) [.int .i64 0, .int .i64 0, .int .i64 0, .int .i64 0, .slice (some ⟨w.heap.size + 1 + 1 + 1, 0, none⟩) 0 0, .slice none 0 0, .slice none 0 0] := by
    have h1 := CellsAt.new ((w.alloc (.cells #[.int .i64 0, .int .i64 0, .int .i64 0, .int .i64 0, .slice none 0 0, .slice none 0 0, .slice none 0 0] 28)).alloc (.cells #[.int .i64 0, .int .i64 0, .int .i64 0, .int .i64 0, .slice none 0 0, .slice none 0 0, .slice none 0 0] 28)) [.int .i64 0, .int .i64 0, .int .i64 0, .int .i64 0, .slice (some ⟨w.heap.size + 1 + 1 + 1, 0, none⟩) 0 0, .slice none 0 0, .slice none 0 0] 28
    rw [World.size_alloc, World.size_alloc] at h1
    rw [hW]
    exact CellsAt.below h1 ((Below.refl _ _).alloc (Nat.le_refl _) _)
  obtain ⟨i0, hi, hz0, hz1, hz2⟩ := info_parts Tryz.infoPin
  obtain ⟨j0, hj, hy0, hy1, hy2⟩ := info_parts Tryz.infoLease
  have hrP : ∀ (g : Nat) (X : World) (ty : TypeId), (Builtin.append_ #[25, 25] ty #[.slice (some ⟨g, 0, none⟩) 0 0, .slice none 0 0]).run Tryz.prog X = .ok (.slice (some ⟨g, 0, none⟩) 0 0) X := fun g X ty => by
    simp [Builtin.append_, run_underlying Tryz.underlying25, sizeOf, typeInfo, hi, Builtin.lenOf, Builtin.firstCells, storeCells]
  have hrL : ∀ (g : Nat) (X : World) (ty : TypeId), (Builtin.append_ #[26, 26] ty #[.slice (some ⟨g, 0, none⟩) 0 0, .slice none 0 0]).run Tryz.prog X = .ok (.slice (some ⟨g, 0, none⟩) 0 0) X := fun g X ty => by
    simp [Builtin.append_, run_underlying Tryz.underlying26, sizeOf, typeInfo, hj, Builtin.lenOf, Builtin.firstCells, storeCells]
  have HW : Hid _ := hW
  obtain ⟨v0, _⟩ := x0 0 _ rfl
  obtain ⟨v1, _⟩ := x0 1 _ rfl
  obtain ⟨v2, _⟩ := x0 2 _ rfl
  obtain ⟨v3, _⟩ := x0 3 _ rfl
  obtain ⟨v4, _⟩ := x0 4 _ rfl
  obtain ⟨v5, _⟩ := x0 5 _ rfl
  obtain ⟨v6, _⟩ := x0 6 _ rfl
  obtain ⟨y0, q0⟩ := x1 0 _ rfl
  obtain ⟨y1, q1⟩ := x1 1 _ rfl
  obtain ⟨y2, q2⟩ := x1 2 _ rfl
  obtain ⟨y3, q3⟩ := x1 3 _ rfl
  obtain ⟨y4, q4⟩ := x1 4 _ rfl
  obtain ⟨y5, q5⟩ := x1 5 _ rfl
  obtain ⟨y6, q6⟩ := x1 6 _ rfl
  obtain ⟨p0, _⟩ := x2 0 _ rfl
  obtain ⟨p1, _⟩ := x2 1 _ rfl
  obtain ⟨p2, _⟩ := x2 2 _ rfl
  obtain ⟨p3, _⟩ := x2 3 _ rfl
  obtain ⟨p4, _⟩ := x2 4 _ rfl
  obtain ⟨p5, r5⟩ := x2 5 _ rfl
  obtain ⟨p6, r6⟩ := x2 6 _ rfl
  have h1 : w.heap.size < W.heap.size := by omega
  have h2 : w.heap.size + 1 < W.heap.size := by omega
  have h3 : w.heap.size + 2 < W.heap.size := by omega
  have HzW : Hid (W.heap.size = w.heap.size + 4) := hzW
  clear hW x0 x1 x2 hzW
  go_enter Tryz.func43, Tryz.ntmps43
  go_upto_region 3 with fail
  rw [← HW.out]
  clear HW
  go_wp2
  go_loopw [4] (fun i wr => i = .int .i64 0 ∧ wr = W) (fun _ _ => 0)
  case atStart => exact ⟨rfl, rfl⟩
  case round =>
    obtain ⟨rfl, rfl⟩ := hrel
    go_wp2_with (first | (at_builtin; refine wpList_append_run rfl _ _ 25 25 rfl rfl rfl (hrP _ _ _) ?_) | (at_builtin; refine wpList_append_run rfl _ _ 26 26 rfl rfl rfl (hrL _ _ _) ?_))
    have h2' : w.heap.size + 1 < wr.heap.size + 1 := by omega
    refine bodyPost_ret (v := .agg #[.int .i64 0, .int .i64 0, .int .i64 0, .int .i64 0, .slice (some ⟨w.heap.size + 1 + 1 + 1, 0, none⟩) 0 0, .slice (some ⟨wr.heap.size, 0, none⟩) 0 0, .slice (some ⟨wr.heap.size + 1, 0, none⟩) 0 0]) (by simp [results, Tryz.results43, go_sem, y0, y1, y2, y3, y4, y5, y6, h2, h2']) rfl ?_
    have hz := HzW.out
    have k1 : w.heap.size ≤ w.heap.size + 1 := by omega
    have k2 : w.heap.size ≤ w.heap.size + 1 + 1 := by omega
    have b9 := ((((((((bW.setCell (p := ⟨w.heap.size + 1 + 1, 5, none⟩) k2 (.slice (some ⟨wr.heap.size, 0, none⟩) 0 0)).setCell (p := ⟨w.heap.size + 1 + 1, 6, none⟩) k2 (.slice (some ⟨wr.heap.size + 1, 0, none⟩) 0 0)).setCell (p := ⟨w.heap.size + 1, 0, none⟩) k1 (.int .i64 0)).setCell (p := ⟨w.heap.size + 1, 1, none⟩) k1 (.int .i64 0)).setCell (p := ⟨w.heap.size + 1, 2, none⟩) k1 (.int .i64 0)).setCell (p := ⟨w.heap.size + 1, 3, none⟩) k1 (.int .i64 0)).setCell (p := ⟨w.heap.size + 1, 4, none⟩) k1 (.slice (some ⟨w.heap.size + 1 + 1 + 1, 0, none⟩) 0 0)).setCell (p := ⟨w.heap.size + 1, 5, none⟩) k1 (.slice (some ⟨wr.heap.size, 0, none⟩) 0 0)).setCell (p := ⟨w.heap.size + 1, 6, none⟩) k1 (.slice (some ⟨wr.heap.size + 1, 0, none⟩) 0 0)
    exact ⟨_, _, _, _, _, _, _, _, _, rfl, (b9.alloc (by simp; omega) _).alloc (by simp; omega) _⟩

set_option maxRecDepth 20000 in
set_option maxHeartbeats 4000000 in
theorem l4Drop_missing (wd now given births : Int) (a p l : Option Addr) (tc pn pc ln lc : Nat) (ks : List Kd) (s : ByteArray) (w : World) (hks : KRow w w.heap.size a ks) (hkl : ks.length ≤ 1000) (hth : ¬ There ks s) :
    Calls Tryz.prog 91 #[.agg #[.int .i64 wd, .int .i64 now, .int .i64 given, .int .i64 births, .slice a ks.length tc, .slice p pn pc, .slice l ln lc], .string s] w fun e w' => e = .returned (.agg (refC 2 ⟨#[]⟩ ⟨#[]⟩).toArray) ∧ Below w.heap.size w w' := by
  obtain ⟨W, hW⟩ : ∃ W, W = (w.alloc (.cells #[.int .i64 wd, .int .i64 now, .int .i64 given, .int .i64 births, .slice a ks.length tc, .slice p pn pc, .slice l ln lc] 28)).alloc (.cells #[.int .i64 0, .int .i64 0, .int .i64 0, .int .i64 0, .int .i64 0, .slice none 0 0, .slice none 0 0, .slice none 0 0, .string ⟨#[]⟩, .int .i64 0, .string ⟨#[]⟩, .string ⟨#[]⟩] 30) := ⟨_, rfl⟩
  have bW : Below w.heap.size w W := by rw [hW]; exact ((Below.refl _ _).alloc (Nat.le_refl _) _).alloc (by simp) _
  have x0 : CellsAt W w.heap.size [.int .i64 wd, .int .i64 now, .int .i64 given, .int .i64 births, .slice a ks.length tc, .slice p pn pc, .slice l ln lc] := by rw [hW]; exact CellsAt.below (CellsAt.new w _ _) ((Below.refl _ _).alloc (Nat.le_refl _) _)
  have x1 : CellsAt W (w.heap.size + 1) z12 := by
    have h1 := CellsAt.new (w.alloc (.cells #[.int .i64 wd, .int .i64 now, .int .i64 given, .int .i64 births, .slice a ks.length tc, .slice p pn pc, .slice l ln lc] 28)) z12 30
    rw [World.size_alloc] at h1
    rw [hW]
    exact h1
  have HF : Hid _ := find_any wd now given births a tc (.slice p pn pc) (.slice l ln lc) ks s W w.heap.size (KRow.below hks bW) bW.size (by omega)
  have hfl := find_lt hth
  have HW : Hid _ := hW
  have HX1 : Hid (CellsAt W (w.heap.size + 1) z12) := x1
  obtain ⟨v0, v1, v2, v3, v4, v5, v6, v7⟩ := sbox_of x0
  clear hW x0 x1 hks hth
  go_enter Tryz.func91, Tryz.ntmps91
  go_upto_region 1 with fail
  rw [← HW.out]
  clear HW
  go_wp2_with fail
  refine Calls.mono HF.out ?_
  rintro e w1 ⟨rfl, hb1⟩
  obtain ⟨⟨y0, q0⟩, ⟨y1, q1⟩, ⟨y2, q2⟩, ⟨y3, q3⟩, ⟨y4, q4⟩, ⟨y5, q5⟩, ⟨y6, q6⟩, ⟨y7, q7⟩, ⟨y8, q8⟩, ⟨y9, q9⟩, ⟨y10, q10⟩, y11, q11⟩ := z12at (CellsAt.below (v := .int .i64 0) HX1.out hb1)
  have hB : Below w.heap.size w w1 := bW.trans (hb1.mono bW.size)
  generalize findI ks s = fi at *
  clear v0 v1 v2 v3 v4 v5 v6 v7 HF
  go_wp2
  refine bodyPost_ret (v := .agg (refC 2 ⟨#[]⟩ ⟨#[]⟩).toArray) (by simp [results, Tryz.results91, go_sem, y0, y1, y2, y3, y4, y5, y6, y7, y8, y9, y10, y11, refC]) rfl ?_
  exact ⟨rfl, hB.trans (Tn.below (tn12 w1 (w.heap.size + 1) _ _ _ _ _ _ _ _ _ _ _ _) hB.size (by intro v hv; simp at hv; omega))⟩

end Go.Proofs.YtpekbmegopfhfaaGreatDoor

/-
  spec.l4Apply: what it hands on.
-/
namespace Go.Proofs.YtpekbmegopfhfaaGreatDoor
open Go.ChangeShapes Go.WideShapes Go.ChangeAt Go.RowKit

set_option maxRecDepth 20000 in
set_option maxHeartbeats 4000000 in
theorem l4Apply_put (wd now given births : Int) (ta pa la : Option Addr) (tn tc pn pc ln lc : Nat) (s nm text : ByteArray) (num : Int) (ra : Option Addr) (rn rc : Nat) (w : World) (V : List Nat) (Q : World → Ending → World → Prop) (Q' : Ending → World → Prop) (hV : ∀ b ∈ V, b < w.heap.size)
    (hc : ∀ X, Below w.heap.size w X → w.heap.size + 3 ≤ X.heap.size → Calls Tryz.prog 85 #[.agg #[.int .i64 wd, .int .i64 now, .int .i64 given, .int .i64 births, .slice ta tn tc, .slice pa pn pc, .slice la ln lc], .agg #[.int .i64 1, .string s, .string nm, .int .i64 num, .string text, .slice ra rn rc]] X (Q X))
    (hf : ∀ X e w', Q X e w' → Tn V X w' ∧ ∃ (c0 c1 c2 c3 c4 : Int) (ta' : Option Addr) (tn' tc' : Nat) (pa' : Option Addr) (pn' pc' : Nat) (la' : Option Addr) (ln' lc' : Nat) (sm' : ByteArray) (le' : Int) (a' b' : ByteArray), e = .returned (.agg #[.int .i64 c0, .int .i64 c1, .int .i64 c2, .int .i64 c3, .int .i64 c4, .slice ta' tn' tc', .slice pa' pn' pc', .slice la' ln' lc', .string sm', .int .i64 le', .string a', .string b']))
    (hq : ∀ X e w' w'', Below w.heap.size w X → w.heap.size + 3 ≤ X.heap.size → Q X e w' → Tn [w.heap.size + 2] w' w'' → Q' e w'') :
    Calls Tryz.prog 42 #[.agg #[.int .i64 wd, .int .i64 now, .int .i64 given, .int .i64 births, .slice ta tn tc, .slice pa pn pc, .slice la ln lc], .agg #[.int .i64 1, .string s, .string nm, .int .i64 num, .string text, .slice ra rn rc]] w Q' := by
  obtain ⟨W, hW⟩ : ∃ W, W = ((w.alloc (.cells #[.int .i64 wd, .int .i64 now, .int .i64 given, .int .i64 births, .slice ta tn tc, .slice pa pn pc, .slice la ln lc] 28)).alloc (.cells #[.int .i64 1, .string s, .string nm, .int .i64 num, .string text, .slice ra rn rc] 77)).alloc (.cells #[.int .i64 0, .int .i64 0, .int .i64 0, .int .i64 0, .int .i64 0, .slice none 0 0, .slice none 0 0, .slice none 0 0, .string ⟨#[]⟩, .int .i64 0, .string ⟨#[]⟩, .string ⟨#[]⟩] 30) := ⟨_, rfl⟩
  have bW : Below w.heap.size w W := by rw [hW]; exact (((Below.refl _ _).alloc (Nat.le_refl _) _).alloc (by simp) _).alloc (by simp; omega) _
  have hzW : W.heap.size = w.heap.size + 3 := by rw [hW]; simp
  have x0 : CellsAt W w.heap.size [.int .i64 wd, .int .i64 now, .int .i64 given, .int .i64 births, .slice ta tn tc, .slice pa pn pc, .slice la ln lc] := by
    rw [hW]
    exact CellsAt.below (CellsAt.new w _ 28) (((Below.refl _ _).alloc (Nat.le_refl _) _).alloc (by simp) _)
  have xe : CellsAt W (w.heap.size + 1) [.int .i64 1, .string s, .string nm, .int .i64 num, .string text, .slice ra rn rc] := by
    have h1 := CellsAt.new (w.alloc (.cells #[.int .i64 wd, .int .i64 now, .int .i64 given, .int .i64 births, .slice ta tn tc, .slice pa pn pc, .slice la ln lc] 28)) [.int .i64 1, .string s, .string nm, .int .i64 num, .string text, .slice ra rn rc] 77
    rw [World.size_alloc] at h1
    rw [hW]
    exact CellsAt.below h1 ((Below.refl _ _).alloc (Nat.le_refl _) _)
  have x1 : CellsAt W (w.heap.size + 2) z12 := by
    have h1 := CellsAt.new ((w.alloc (.cells #[.int .i64 wd, .int .i64 now, .int .i64 given, .int .i64 births, .slice ta tn tc, .slice pa pn pc, .slice la ln lc] 28)).alloc (.cells #[.int .i64 1, .string s, .string nm, .int .i64 num, .string text, .slice ra rn rc] 77)) z12 30
    rw [World.size_alloc, World.size_alloc] at h1
    rw [hW]
    exact h1
  have HC : Hid _ := hc W bW (by omega)
  have HQ : Hid (∀ e w' w'', Q W e w' → Tn [w.heap.size + 2] w' w'' → Q' e w'') := fun e w' w'' h1 h2 => hq W e w' w'' bW (by omega) h1 h2
  have HF : Hid (∀ e w', Q W e w' → Tn V W w' ∧ ∃ (c0 c1 c2 c3 c4 : Int) (ta' : Option Addr) (tn' tc' : Nat) (pa' : Option Addr) (pn' pc' : Nat) (la' : Option Addr) (ln' lc' : Nat) (sm' : ByteArray) (le' : Int) (a' b' : ByteArray), e = .returned (.agg #[.int .i64 c0, .int .i64 c1, .int .i64 c2, .int .i64 c3, .int .i64 c4, .slice ta' tn' tc', .slice pa' pn' pc', .slice la' ln' lc', .string sm', .int .i64 le', .string a', .string b'])) := hf W
  have HX1 : Hid (CellsAt W (w.heap.size + 2) z12) := x1
  have HV : Hid (∀ b ∈ V, b < w.heap.size) := hV
  have HW : Hid _ := hW
  obtain ⟨v0, _⟩ := x0 0 _ rfl
  obtain ⟨v1, _⟩ := x0 1 _ rfl
  obtain ⟨v2, _⟩ := x0 2 _ rfl
  obtain ⟨v3, _⟩ := x0 3 _ rfl
  obtain ⟨v4, _⟩ := x0 4 _ rfl
  obtain ⟨v5, _⟩ := x0 5 _ rfl
  obtain ⟨v6, _⟩ := x0 6 _ rfl
  obtain ⟨e0, _⟩ := xe 0 _ rfl
  obtain ⟨e1, _⟩ := xe 1 _ rfl
  obtain ⟨e2, _⟩ := xe 2 _ rfl
  obtain ⟨e3, _⟩ := xe 3 _ rfl
  obtain ⟨e4, _⟩ := xe 4 _ rfl
  obtain ⟨e5, _⟩ := xe 5 _ rfl
  clear hW x0 xe x1 hc hq hf hV bW
  go_enter Tryz.func42, Tryz.ntmps42
  go_upto_region 1 with fail
  rw [← HW.out]
  clear HW
  go_wp2_with fail
  refine Calls.mono HC.out ?_
  intro e w1 hQ1
  obtain ⟨ht1, c0, c1, c2, c3, c4, ta', tn', tc', pa', pn', pc', la', ln', lc', sm', le', a', b', rfl⟩ := HF.out e w1 hQ1
  have x11 : CellsAt w1 (w.heap.size + 2) z12 := CellsAt.same HX1.out (ht1.block _ HX1.out.lt (fun h => by have := HV.out _ h; omega))
  obtain ⟨⟨y0, q0⟩, ⟨y1, q1⟩, ⟨y2, q2⟩, ⟨y3, q3⟩, ⟨y4, q4⟩, ⟨y5, q5⟩, ⟨y6, q6⟩, ⟨y7, q7⟩, ⟨y8, q8⟩, ⟨y9, q9⟩, ⟨y10, q10⟩, y11, q11⟩ := z12at x11
  have HQ1 : Hid _ := hQ1
  clear hQ1 x11 ht1 v0 v1 v2 v3 v4 v5 v6 e0 e1 e2 e3 e4 e5 HC HF
  go_wp2
  refine bodyPost_ret (v := .agg #[.int .i64 c0, .int .i64 c1, .int .i64 c2, .int .i64 c3, .int .i64 c4, .slice ta' tn' tc', .slice pa' pn' pc', .slice la' ln' lc', .string sm', .int .i64 le', .string a', .string b']) (by simp [results, Tryz.results42, go_sem, y0, y1, y2, y3, y4, y5, y6, y7, y8, y9, y10, y11]) rfl ?_
  exact HQ.out _ _ _ HQ1.out (tn12 w1 (w.heap.size + 2) _ _ _ _ _ _ _ _ _ _ _ _)

set_option maxRecDepth 20000 in
set_option maxHeartbeats 4000000 in
theorem l4Apply_pin (wd now given births : Int) (ta pa la : Option Addr) (tn tc pn pc ln lc : Nat) (s nm text : ByteArray) (num : Int) (ra : Option Addr) (rn rc : Nat) (w : World) (V : List Nat) (Q : World → Ending → World → Prop) (Q' : Ending → World → Prop) (hV : ∀ b ∈ V, b < w.heap.size)
    (hc : ∀ X, Below w.heap.size w X → w.heap.size + 3 ≤ X.heap.size → Calls Tryz.prog 86 #[.agg #[.int .i64 wd, .int .i64 now, .int .i64 given, .int .i64 births, .slice ta tn tc, .slice pa pn pc, .slice la ln lc], .agg #[.int .i64 2, .string s, .string nm, .int .i64 num, .string text, .slice ra rn rc]] X (Q X))
    (hf : ∀ X e w', Q X e w' → Tn V X w' ∧ ∃ (c0 c1 c2 c3 c4 : Int) (ta' : Option Addr) (tn' tc' : Nat) (pa' : Option Addr) (pn' pc' : Nat) (la' : Option Addr) (ln' lc' : Nat) (sm' : ByteArray) (le' : Int) (a' b' : ByteArray), e = .returned (.agg #[.int .i64 c0, .int .i64 c1, .int .i64 c2, .int .i64 c3, .int .i64 c4, .slice ta' tn' tc', .slice pa' pn' pc', .slice la' ln' lc', .string sm', .int .i64 le', .string a', .string b']))
    (hq : ∀ X e w' w'', Below w.heap.size w X → w.heap.size + 3 ≤ X.heap.size → Q X e w' → Tn [w.heap.size + 2] w' w'' → Q' e w'') :
    Calls Tryz.prog 42 #[.agg #[.int .i64 wd, .int .i64 now, .int .i64 given, .int .i64 births, .slice ta tn tc, .slice pa pn pc, .slice la ln lc], .agg #[.int .i64 2, .string s, .string nm, .int .i64 num, .string text, .slice ra rn rc]] w Q' := by
  obtain ⟨W, hW⟩ : ∃ W, W = ((w.alloc (.cells #[.int .i64 wd, .int .i64 now, .int .i64 given, .int .i64 births, .slice ta tn tc, .slice pa pn pc, .slice la ln lc] 28)).alloc (.cells #[.int .i64 2, .string s, .string nm, .int .i64 num, .string text, .slice ra rn rc] 77)).alloc (.cells #[.int .i64 0, .int .i64 0, .int .i64 0, .int .i64 0, .int .i64 0, .slice none 0 0, .slice none 0 0, .slice none 0 0, .string ⟨#[]⟩, .int .i64 0, .string ⟨#[]⟩, .string ⟨#[]⟩] 30) := ⟨_, rfl⟩
  have bW : Below w.heap.size w W := by rw [hW]; exact (((Below.refl _ _).alloc (Nat.le_refl _) _).alloc (by simp) _).alloc (by simp; omega) _
  have hzW : W.heap.size = w.heap.size + 3 := by rw [hW]; simp
  have x0 : CellsAt W w.heap.size [.int .i64 wd, .int .i64 now, .int .i64 given, .int .i64 births, .slice ta tn tc, .slice pa pn pc, .slice la ln lc] := by
    rw [hW]
    exact CellsAt.below (CellsAt.new w _ 28) (((Below.refl _ _).alloc (Nat.le_refl _) _).alloc (by simp) _)
  have xe : CellsAt W (w.heap.size + 1) [.int .i64 2, .string s, .string nm, .int .i64 num, .string text, .slice ra rn rc] := by
    have h1 := CellsAt.new (w.alloc (.cells #[.int .i64 wd, .int .i64 now, .int .i64 given, .int .i64 births, .slice ta tn tc, .slice pa pn pc, .slice la ln lc] 28)) [.int .i64 2, .string s, .string nm, .int .i64 num, .string text, .slice ra rn rc] 77
    rw [World.size_alloc] at h1
    rw [hW]
    exact CellsAt.below h1 ((Below.refl _ _).alloc (Nat.le_refl _) _)
  have x1 : CellsAt W (w.heap.size + 2) z12 := by
    have h1 := CellsAt.new ((w.alloc (.cells #[.int .i64 wd, .int .i64 now, .int .i64 given, .int .i64 births, .slice ta tn tc, .slice pa pn pc, .slice la ln lc] 28)).alloc (.cells #[.int .i64 2, .string s, .string nm, .int .i64 num, .string text, .slice ra rn rc] 77)) z12 30
    rw [World.size_alloc, World.size_alloc] at h1
    rw [hW]
    exact h1
  have HC : Hid _ := hc W bW (by omega)
  have HQ : Hid (∀ e w' w'', Q W e w' → Tn [w.heap.size + 2] w' w'' → Q' e w'') := fun e w' w'' h1 h2 => hq W e w' w'' bW (by omega) h1 h2
  have HF : Hid (∀ e w', Q W e w' → Tn V W w' ∧ ∃ (c0 c1 c2 c3 c4 : Int) (ta' : Option Addr) (tn' tc' : Nat) (pa' : Option Addr) (pn' pc' : Nat) (la' : Option Addr) (ln' lc' : Nat) (sm' : ByteArray) (le' : Int) (a' b' : ByteArray), e = .returned (.agg #[.int .i64 c0, .int .i64 c1, .int .i64 c2, .int .i64 c3, .int .i64 c4, .slice ta' tn' tc', .slice pa' pn' pc', .slice la' ln' lc', .string sm', .int .i64 le', .string a', .string b'])) := hf W
  have HX1 : Hid (CellsAt W (w.heap.size + 2) z12) := x1
  have HV : Hid (∀ b ∈ V, b < w.heap.size) := hV
  have HW : Hid _ := hW
  obtain ⟨v0, _⟩ := x0 0 _ rfl
  obtain ⟨v1, _⟩ := x0 1 _ rfl
  obtain ⟨v2, _⟩ := x0 2 _ rfl
  obtain ⟨v3, _⟩ := x0 3 _ rfl
  obtain ⟨v4, _⟩ := x0 4 _ rfl
  obtain ⟨v5, _⟩ := x0 5 _ rfl
  obtain ⟨v6, _⟩ := x0 6 _ rfl
  obtain ⟨e0, _⟩ := xe 0 _ rfl
  obtain ⟨e1, _⟩ := xe 1 _ rfl
  obtain ⟨e2, _⟩ := xe 2 _ rfl
  obtain ⟨e3, _⟩ := xe 3 _ rfl
  obtain ⟨e4, _⟩ := xe 4 _ rfl
  obtain ⟨e5, _⟩ := xe 5 _ rfl
  clear hW x0 xe x1 hc hq hf hV bW
  go_enter Tryz.func42, Tryz.ntmps42
  go_upto_region 1 with fail
  rw [← HW.out]
  clear HW
  go_wp2_with fail
  refine Calls.mono HC.out ?_
  intro e w1 hQ1
  obtain ⟨ht1, c0, c1, c2, c3, c4, ta', tn', tc', pa', pn', pc', la', ln', lc', sm', le', a', b', rfl⟩ := HF.out e w1 hQ1
  have x11 : CellsAt w1 (w.heap.size + 2) z12 := CellsAt.same HX1.out (ht1.block _ HX1.out.lt (fun h => by have := HV.out _ h; omega))
  obtain ⟨⟨y0, q0⟩, ⟨y1, q1⟩, ⟨y2, q2⟩, ⟨y3, q3⟩, ⟨y4, q4⟩, ⟨y5, q5⟩, ⟨y6, q6⟩, ⟨y7, q7⟩, ⟨y8, q8⟩, ⟨y9, q9⟩, ⟨y10, q10⟩, y11, q11⟩ := z12at x11
  have HQ1 : Hid _ := hQ1
  clear hQ1 x11 ht1 v0 v1 v2 v3 v4 v5 v6 e0 e1 e2 e3 e4 e5 HC HF
  go_wp2
  refine bodyPost_ret (v := .agg #[.int .i64 c0, .int .i64 c1, .int .i64 c2, .int .i64 c3, .int .i64 c4, .slice ta' tn' tc', .slice pa' pn' pc', .slice la' ln' lc', .string sm', .int .i64 le', .string a', .string b']) (by simp [results, Tryz.results42, go_sem, y0, y1, y2, y3, y4, y5, y6, y7, y8, y9, y10, y11]) rfl ?_
  exact HQ.out _ _ _ HQ1.out (tn12 w1 (w.heap.size + 2) _ _ _ _ _ _ _ _ _ _ _ _)

set_option maxRecDepth 20000 in
set_option maxHeartbeats 4000000 in
theorem l4Apply_unpin (wd now given births : Int) (ta pa la : Option Addr) (tn tc pn pc ln lc : Nat) (s nm text : ByteArray) (num : Int) (ra : Option Addr) (rn rc : Nat) (w : World) (V : List Nat) (Q : World → Ending → World → Prop) (Q' : Ending → World → Prop) (hV : ∀ b ∈ V, b < w.heap.size)
    (hc : ∀ X, Below w.heap.size w X → w.heap.size + 3 ≤ X.heap.size → Calls Tryz.prog 87 #[.agg #[.int .i64 wd, .int .i64 now, .int .i64 given, .int .i64 births, .slice ta tn tc, .slice pa pn pc, .slice la ln lc], .string nm] X (Q X))
    (hf : ∀ X e w', Q X e w' → Tn V X w' ∧ ∃ (c0 c1 c2 c3 c4 : Int) (ta' : Option Addr) (tn' tc' : Nat) (pa' : Option Addr) (pn' pc' : Nat) (la' : Option Addr) (ln' lc' : Nat) (sm' : ByteArray) (le' : Int) (a' b' : ByteArray), e = .returned (.agg #[.int .i64 c0, .int .i64 c1, .int .i64 c2, .int .i64 c3, .int .i64 c4, .slice ta' tn' tc', .slice pa' pn' pc', .slice la' ln' lc', .string sm', .int .i64 le', .string a', .string b']))
    (hq : ∀ X e w' w'', Below w.heap.size w X → w.heap.size + 3 ≤ X.heap.size → Q X e w' → Tn [w.heap.size + 2] w' w'' → Q' e w'') :
    Calls Tryz.prog 42 #[.agg #[.int .i64 wd, .int .i64 now, .int .i64 given, .int .i64 births, .slice ta tn tc, .slice pa pn pc, .slice la ln lc], .agg #[.int .i64 3, .string s, .string nm, .int .i64 num, .string text, .slice ra rn rc]] w Q' := by
  obtain ⟨W, hW⟩ : ∃ W, W = ((w.alloc (.cells #[.int .i64 wd, .int .i64 now, .int .i64 given, .int .i64 births, .slice ta tn tc, .slice pa pn pc, .slice la ln lc] 28)).alloc (.cells #[.int .i64 3, .string s, .string nm, .int .i64 num, .string text, .slice ra rn rc] 77)).alloc (.cells #[.int .i64 0, .int .i64 0, .int .i64 0, .int .i64 0, .int .i64 0, .slice none 0 0, .slice none 0 0, .slice none 0 0, .string ⟨#[]⟩, .int .i64 0, .string ⟨#[]⟩, .string ⟨#[]⟩] 30) := ⟨_, rfl⟩
  have bW : Below w.heap.size w W := by rw [hW]; exact (((Below.refl _ _).alloc (Nat.le_refl _) _).alloc (by simp) _).alloc (by simp; omega) _
  have hzW : W.heap.size = w.heap.size + 3 := by rw [hW]; simp
  have x0 : CellsAt W w.heap.size [.int .i64 wd, .int .i64 now, .int .i64 given, .int .i64 births, .slice ta tn tc, .slice pa pn pc, .slice la ln lc] := by
    rw [hW]
    exact CellsAt.below (CellsAt.new w _ 28) (((Below.refl _ _).alloc (Nat.le_refl _) _).alloc (by simp) _)
  have xe : CellsAt W (w.heap.size + 1) [.int .i64 3, .string s, .string nm, .int .i64 num, .string text, .slice ra rn rc] := by
    have h1 := CellsAt.new (w.alloc (.cells #[.int .i64 wd, .int .i64 now, .int .i64 given, .int .i64 births, .slice ta tn tc, .slice pa pn pc, .slice la ln lc] 28)) [.int .i64 3, .string s, .string nm, .int .i64 num, .string text, .slice ra rn rc] 77
    rw [World.size_alloc] at h1
    rw [hW]
    exact CellsAt.below h1 ((Below.refl _ _).alloc (Nat.le_refl _) _)
  have x1 : CellsAt W (w.heap.size + 2) z12 := by
    have h1 := CellsAt.new ((w.alloc (.cells #[.int .i64 wd, .int .i64 now, .int .i64 given, .int .i64 births, .slice ta tn tc, .slice pa pn pc, .slice la ln lc] 28)).alloc (.cells #[.int .i64 3, .string s, .string nm, .int .i64 num, .string text, .slice ra rn rc] 77)) z12 30
    rw [World.size_alloc, World.size_alloc] at h1
    rw [hW]
    exact h1
  have HC : Hid _ := hc W bW (by omega)
  have HQ : Hid (∀ e w' w'', Q W e w' → Tn [w.heap.size + 2] w' w'' → Q' e w'') := fun e w' w'' h1 h2 => hq W e w' w'' bW (by omega) h1 h2
  have HF : Hid (∀ e w', Q W e w' → Tn V W w' ∧ ∃ (c0 c1 c2 c3 c4 : Int) (ta' : Option Addr) (tn' tc' : Nat) (pa' : Option Addr) (pn' pc' : Nat) (la' : Option Addr) (ln' lc' : Nat) (sm' : ByteArray) (le' : Int) (a' b' : ByteArray), e = .returned (.agg #[.int .i64 c0, .int .i64 c1, .int .i64 c2, .int .i64 c3, .int .i64 c4, .slice ta' tn' tc', .slice pa' pn' pc', .slice la' ln' lc', .string sm', .int .i64 le', .string a', .string b'])) := hf W
  have HX1 : Hid (CellsAt W (w.heap.size + 2) z12) := x1
  have HV : Hid (∀ b ∈ V, b < w.heap.size) := hV
  have HW : Hid _ := hW
  obtain ⟨v0, _⟩ := x0 0 _ rfl
  obtain ⟨v1, _⟩ := x0 1 _ rfl
  obtain ⟨v2, _⟩ := x0 2 _ rfl
  obtain ⟨v3, _⟩ := x0 3 _ rfl
  obtain ⟨v4, _⟩ := x0 4 _ rfl
  obtain ⟨v5, _⟩ := x0 5 _ rfl
  obtain ⟨v6, _⟩ := x0 6 _ rfl
  obtain ⟨e0, _⟩ := xe 0 _ rfl
  obtain ⟨e1, _⟩ := xe 1 _ rfl
  obtain ⟨e2, _⟩ := xe 2 _ rfl
  obtain ⟨e3, _⟩ := xe 3 _ rfl
  obtain ⟨e4, _⟩ := xe 4 _ rfl
  obtain ⟨e5, _⟩ := xe 5 _ rfl
  clear hW x0 xe x1 hc hq hf hV bW
  go_enter Tryz.func42, Tryz.ntmps42
  go_upto_region 1 with fail
  rw [← HW.out]
  clear HW
  go_wp2_with fail
  refine Calls.mono HC.out ?_
  intro e w1 hQ1
  obtain ⟨ht1, c0, c1, c2, c3, c4, ta', tn', tc', pa', pn', pc', la', ln', lc', sm', le', a', b', rfl⟩ := HF.out e w1 hQ1
  have x11 : CellsAt w1 (w.heap.size + 2) z12 := CellsAt.same HX1.out (ht1.block _ HX1.out.lt (fun h => by have := HV.out _ h; omega))
  obtain ⟨⟨y0, q0⟩, ⟨y1, q1⟩, ⟨y2, q2⟩, ⟨y3, q3⟩, ⟨y4, q4⟩, ⟨y5, q5⟩, ⟨y6, q6⟩, ⟨y7, q7⟩, ⟨y8, q8⟩, ⟨y9, q9⟩, ⟨y10, q10⟩, y11, q11⟩ := z12at x11
  have HQ1 : Hid _ := hQ1
  clear hQ1 x11 ht1 v0 v1 v2 v3 v4 v5 v6 e0 e1 e2 e3 e4 e5 HC HF
  go_wp2
  refine bodyPost_ret (v := .agg #[.int .i64 c0, .int .i64 c1, .int .i64 c2, .int .i64 c3, .int .i64 c4, .slice ta' tn' tc', .slice pa' pn' pc', .slice la' ln' lc', .string sm', .int .i64 le', .string a', .string b']) (by simp [results, Tryz.results42, go_sem, y0, y1, y2, y3, y4, y5, y6, y7, y8, y9, y10, y11]) rfl ?_
  exact HQ.out _ _ _ HQ1.out (tn12 w1 (w.heap.size + 2) _ _ _ _ _ _ _ _ _ _ _ _)

set_option maxRecDepth 20000 in
set_option maxHeartbeats 4000000 in
theorem l4Apply_give (wd now given births : Int) (ta pa la : Option Addr) (tn tc pn pc ln lc : Nat) (s nm text : ByteArray) (num : Int) (ra : Option Addr) (rn rc : Nat) (w : World) (V : List Nat) (Q : World → Ending → World → Prop) (Q' : Ending → World → Prop) (hV : ∀ b ∈ V, b < w.heap.size)
    (hc : ∀ X, Below w.heap.size w X → w.heap.size + 3 ≤ X.heap.size → Calls Tryz.prog 89 #[.agg #[.int .i64 wd, .int .i64 now, .int .i64 given, .int .i64 births, .slice ta tn tc, .slice pa pn pc, .slice la ln lc], .int .i64 num] X (Q X))
    (hf : ∀ X e w', Q X e w' → Tn V X w' ∧ ∃ (c0 c1 c2 c3 c4 : Int) (ta' : Option Addr) (tn' tc' : Nat) (pa' : Option Addr) (pn' pc' : Nat) (la' : Option Addr) (ln' lc' : Nat) (sm' : ByteArray) (le' : Int) (a' b' : ByteArray), e = .returned (.agg #[.int .i64 c0, .int .i64 c1, .int .i64 c2, .int .i64 c3, .int .i64 c4, .slice ta' tn' tc', .slice pa' pn' pc', .slice la' ln' lc', .string sm', .int .i64 le', .string a', .string b']))
    (hq : ∀ X e w' w'', Below w.heap.size w X → w.heap.size + 3 ≤ X.heap.size → Q X e w' → Tn [w.heap.size + 2] w' w'' → Q' e w'') :
    Calls Tryz.prog 42 #[.agg #[.int .i64 wd, .int .i64 now, .int .i64 given, .int .i64 births, .slice ta tn tc, .slice pa pn pc, .slice la ln lc], .agg #[.int .i64 5, .string s, .string nm, .int .i64 num, .string text, .slice ra rn rc]] w Q' := by
  obtain ⟨W, hW⟩ : ∃ W, W = ((w.alloc (.cells #[.int .i64 wd, .int .i64 now, .int .i64 given, .int .i64 births, .slice ta tn tc, .slice pa pn pc, .slice la ln lc] 28)).alloc (.cells #[.int .i64 5, .string s, .string nm, .int .i64 num, .string text, .slice ra rn rc] 77)).alloc (.cells #[.int .i64 0, .int .i64 0, .int .i64 0, .int .i64 0, .int .i64 0, .slice none 0 0, .slice none 0 0, .slice none 0 0, .string ⟨#[]⟩, .int .i64 0, .string ⟨#[]⟩, .string ⟨#[]⟩] 30) := ⟨_, rfl⟩
  have bW : Below w.heap.size w W := by rw [hW]; exact (((Below.refl _ _).alloc (Nat.le_refl _) _).alloc (by simp) _).alloc (by simp; omega) _
  have hzW : W.heap.size = w.heap.size + 3 := by rw [hW]; simp
  have x0 : CellsAt W w.heap.size [.int .i64 wd, .int .i64 now, .int .i64 given, .int .i64 births, .slice ta tn tc, .slice pa pn pc, .slice la ln lc] := by
    rw [hW]
    exact CellsAt.below (CellsAt.new w _ 28) (((Below.refl _ _).alloc (Nat.le_refl _) _).alloc (by simp) _)
  have xe : CellsAt W (w.heap.size + 1) [.int .i64 5, .string s, .string nm, .int .i64 num, .string text, .slice ra rn rc] := by
    have h1 := CellsAt.new (w.alloc (.cells #[.int .i64 wd, .int .i64 now, .int .i64 given, .int .i64 births, .slice ta tn tc, .slice pa pn pc, .slice la ln lc] 28)) [.int .i64 5, .string s, .string nm, .int .i64 num, .string text, .slice ra rn rc] 77
    rw [World.size_alloc] at h1
    rw [hW]
    exact CellsAt.below h1 ((Below.refl _ _).alloc (Nat.le_refl _) _)
  have x1 : CellsAt W (w.heap.size + 2) z12 := by
    have h1 := CellsAt.new ((w.alloc (.cells #[.int .i64 wd, .int .i64 now, .int .i64 given, .int .i64 births, .slice ta tn tc, .slice pa pn pc, .slice la ln lc] 28)).alloc (.cells #[.int .i64 5, .string s, .string nm, .int .i64 num, .string text, .slice ra rn rc] 77)) z12 30
    rw [World.size_alloc, World.size_alloc] at h1
    rw [hW]
    exact h1
  have HC : Hid _ := hc W bW (by omega)
  have HQ : Hid (∀ e w' w'', Q W e w' → Tn [w.heap.size + 2] w' w'' → Q' e w'') := fun e w' w'' h1 h2 => hq W e w' w'' bW (by omega) h1 h2
  have HF : Hid (∀ e w', Q W e w' → Tn V W w' ∧ ∃ (c0 c1 c2 c3 c4 : Int) (ta' : Option Addr) (tn' tc' : Nat) (pa' : Option Addr) (pn' pc' : Nat) (la' : Option Addr) (ln' lc' : Nat) (sm' : ByteArray) (le' : Int) (a' b' : ByteArray), e = .returned (.agg #[.int .i64 c0, .int .i64 c1, .int .i64 c2, .int .i64 c3, .int .i64 c4, .slice ta' tn' tc', .slice pa' pn' pc', .slice la' ln' lc', .string sm', .int .i64 le', .string a', .string b'])) := hf W
  have HX1 : Hid (CellsAt W (w.heap.size + 2) z12) := x1
  have HV : Hid (∀ b ∈ V, b < w.heap.size) := hV
  have HW : Hid _ := hW
  obtain ⟨v0, _⟩ := x0 0 _ rfl
  obtain ⟨v1, _⟩ := x0 1 _ rfl
  obtain ⟨v2, _⟩ := x0 2 _ rfl
  obtain ⟨v3, _⟩ := x0 3 _ rfl
  obtain ⟨v4, _⟩ := x0 4 _ rfl
  obtain ⟨v5, _⟩ := x0 5 _ rfl
  obtain ⟨v6, _⟩ := x0 6 _ rfl
  obtain ⟨e0, _⟩ := xe 0 _ rfl
  obtain ⟨e1, _⟩ := xe 1 _ rfl
  obtain ⟨e2, _⟩ := xe 2 _ rfl
  obtain ⟨e3, _⟩ := xe 3 _ rfl
  obtain ⟨e4, _⟩ := xe 4 _ rfl
  obtain ⟨e5, _⟩ := xe 5 _ rfl
  clear hW x0 xe x1 hc hq hf hV bW
  go_enter Tryz.func42, Tryz.ntmps42
  go_upto_region 1 with fail
  rw [← HW.out]
  clear HW
  go_wp2_with fail
  refine Calls.mono HC.out ?_
  intro e w1 hQ1
  obtain ⟨ht1, c0, c1, c2, c3, c4, ta', tn', tc', pa', pn', pc', la', ln', lc', sm', le', a', b', rfl⟩ := HF.out e w1 hQ1
  have x11 : CellsAt w1 (w.heap.size + 2) z12 := CellsAt.same HX1.out (ht1.block _ HX1.out.lt (fun h => by have := HV.out _ h; omega))
  obtain ⟨⟨y0, q0⟩, ⟨y1, q1⟩, ⟨y2, q2⟩, ⟨y3, q3⟩, ⟨y4, q4⟩, ⟨y5, q5⟩, ⟨y6, q6⟩, ⟨y7, q7⟩, ⟨y8, q8⟩, ⟨y9, q9⟩, ⟨y10, q10⟩, y11, q11⟩ := z12at x11
  have HQ1 : Hid _ := hQ1
  clear hQ1 x11 ht1 v0 v1 v2 v3 v4 v5 v6 e0 e1 e2 e3 e4 e5 HC HF
  go_wp2
  refine bodyPost_ret (v := .agg #[.int .i64 c0, .int .i64 c1, .int .i64 c2, .int .i64 c3, .int .i64 c4, .slice ta' tn' tc', .slice pa' pn' pc', .slice la' ln' lc', .string sm', .int .i64 le', .string a', .string b']) (by simp [results, Tryz.results42, go_sem, y0, y1, y2, y3, y4, y5, y6, y7, y8, y9, y10, y11]) rfl ?_
  exact HQ.out _ _ _ HQ1.out (tn12 w1 (w.heap.size + 2) _ _ _ _ _ _ _ _ _ _ _ _)

set_option maxRecDepth 20000 in
set_option maxHeartbeats 4000000 in
theorem l4Apply_wait (wd now given births : Int) (ta pa la : Option Addr) (tn tc pn pc ln lc : Nat) (s nm text : ByteArray) (num : Int) (ra : Option Addr) (rn rc : Nat) (w : World) (V : List Nat) (Q : World → Ending → World → Prop) (Q' : Ending → World → Prop) (hV : ∀ b ∈ V, b < w.heap.size)
    (hc : ∀ X, Below w.heap.size w X → w.heap.size + 3 ≤ X.heap.size → Calls Tryz.prog 90 #[.agg #[.int .i64 wd, .int .i64 now, .int .i64 given, .int .i64 births, .slice ta tn tc, .slice pa pn pc, .slice la ln lc], .int .i64 num] X (Q X))
    (hf : ∀ X e w', Q X e w' → Tn V X w' ∧ ∃ (c0 c1 c2 c3 c4 : Int) (ta' : Option Addr) (tn' tc' : Nat) (pa' : Option Addr) (pn' pc' : Nat) (la' : Option Addr) (ln' lc' : Nat) (sm' : ByteArray) (le' : Int) (a' b' : ByteArray), e = .returned (.agg #[.int .i64 c0, .int .i64 c1, .int .i64 c2, .int .i64 c3, .int .i64 c4, .slice ta' tn' tc', .slice pa' pn' pc', .slice la' ln' lc', .string sm', .int .i64 le', .string a', .string b']))
    (hq : ∀ X e w' w'', Below w.heap.size w X → w.heap.size + 3 ≤ X.heap.size → Q X e w' → Tn [w.heap.size + 2] w' w'' → Q' e w'') :
    Calls Tryz.prog 42 #[.agg #[.int .i64 wd, .int .i64 now, .int .i64 given, .int .i64 births, .slice ta tn tc, .slice pa pn pc, .slice la ln lc], .agg #[.int .i64 6, .string s, .string nm, .int .i64 num, .string text, .slice ra rn rc]] w Q' := by
  obtain ⟨W, hW⟩ : ∃ W, W = ((w.alloc (.cells #[.int .i64 wd, .int .i64 now, .int .i64 given, .int .i64 births, .slice ta tn tc, .slice pa pn pc, .slice la ln lc] 28)).alloc (.cells #[.int .i64 6, .string s, .string nm, .int .i64 num, .string text, .slice ra rn rc] 77)).alloc (.cells #[.int .i64 0, .int .i64 0, .int .i64 0, .int .i64 0, .int .i64 0, .slice none 0 0, .slice none 0 0, .slice none 0 0, .string ⟨#[]⟩, .int .i64 0, .string ⟨#[]⟩, .string ⟨#[]⟩] 30) := ⟨_, rfl⟩
  have bW : Below w.heap.size w W := by rw [hW]; exact (((Below.refl _ _).alloc (Nat.le_refl _) _).alloc (by simp) _).alloc (by simp; omega) _
  have hzW : W.heap.size = w.heap.size + 3 := by rw [hW]; simp
  have x0 : CellsAt W w.heap.size [.int .i64 wd, .int .i64 now, .int .i64 given, .int .i64 births, .slice ta tn tc, .slice pa pn pc, .slice la ln lc] := by
    rw [hW]
    exact CellsAt.below (CellsAt.new w _ 28) (((Below.refl _ _).alloc (Nat.le_refl _) _).alloc (by simp) _)
  have xe : CellsAt W (w.heap.size + 1) [.int .i64 6, .string s, .string nm, .int .i64 num, .string text, .slice ra rn rc] := by
    have h1 := CellsAt.new (w.alloc (.cells #[.int .i64 wd, .int .i64 now, .int .i64 given, .int .i64 births, .slice ta tn tc, .slice pa pn pc, .slice la ln lc] 28)) [.int .i64 6, .string s, .string nm, .int .i64 num, .string text, .slice ra rn rc] 77
    rw [World.size_alloc] at h1
    rw [hW]
    exact CellsAt.below h1 ((Below.refl _ _).alloc (Nat.le_refl _) _)
  have x1 : CellsAt W (w.heap.size + 2) z12 := by
    have h1 := CellsAt.new ((w.alloc (.cells #[.int .i64 wd, .int .i64 now, .int .i64 given, .int .i64 births, .slice ta tn tc, .slice pa pn pc, .slice la ln lc] 28)).alloc (.cells #[.int .i64 6, .string s, .string nm, .int .i64 num, .string text, .slice ra rn rc] 77)) z12 30
    rw [World.size_alloc, World.size_alloc] at h1
    rw [hW]
    exact h1
  have HC : Hid _ := hc W bW (by omega)
  have HQ : Hid (∀ e w' w'', Q W e w' → Tn [w.heap.size + 2] w' w'' → Q' e w'') := fun e w' w'' h1 h2 => hq W e w' w'' bW (by omega) h1 h2
  have HF : Hid (∀ e w', Q W e w' → Tn V W w' ∧ ∃ (c0 c1 c2 c3 c4 : Int) (ta' : Option Addr) (tn' tc' : Nat) (pa' : Option Addr) (pn' pc' : Nat) (la' : Option Addr) (ln' lc' : Nat) (sm' : ByteArray) (le' : Int) (a' b' : ByteArray), e = .returned (.agg #[.int .i64 c0, .int .i64 c1, .int .i64 c2, .int .i64 c3, .int .i64 c4, .slice ta' tn' tc', .slice pa' pn' pc', .slice la' ln' lc', .string sm', .int .i64 le', .string a', .string b'])) := hf W
  have HX1 : Hid (CellsAt W (w.heap.size + 2) z12) := x1
  have HV : Hid (∀ b ∈ V, b < w.heap.size) := hV
  have HW : Hid _ := hW
  obtain ⟨v0, _⟩ := x0 0 _ rfl
  obtain ⟨v1, _⟩ := x0 1 _ rfl
  obtain ⟨v2, _⟩ := x0 2 _ rfl
  obtain ⟨v3, _⟩ := x0 3 _ rfl
  obtain ⟨v4, _⟩ := x0 4 _ rfl
  obtain ⟨v5, _⟩ := x0 5 _ rfl
  obtain ⟨v6, _⟩ := x0 6 _ rfl
  obtain ⟨e0, _⟩ := xe 0 _ rfl
  obtain ⟨e1, _⟩ := xe 1 _ rfl
  obtain ⟨e2, _⟩ := xe 2 _ rfl
  obtain ⟨e3, _⟩ := xe 3 _ rfl
  obtain ⟨e4, _⟩ := xe 4 _ rfl
  obtain ⟨e5, _⟩ := xe 5 _ rfl
  clear hW x0 xe x1 hc hq hf hV bW
  go_enter Tryz.func42, Tryz.ntmps42
  go_upto_region 1 with fail
  rw [← HW.out]
  clear HW
  go_wp2_with fail
  refine Calls.mono HC.out ?_
  intro e w1 hQ1
  obtain ⟨ht1, c0, c1, c2, c3, c4, ta', tn', tc', pa', pn', pc', la', ln', lc', sm', le', a', b', rfl⟩ := HF.out e w1 hQ1
  have x11 : CellsAt w1 (w.heap.size + 2) z12 := CellsAt.same HX1.out (ht1.block _ HX1.out.lt (fun h => by have := HV.out _ h; omega))
  obtain ⟨⟨y0, q0⟩, ⟨y1, q1⟩, ⟨y2, q2⟩, ⟨y3, q3⟩, ⟨y4, q4⟩, ⟨y5, q5⟩, ⟨y6, q6⟩, ⟨y7, q7⟩, ⟨y8, q8⟩, ⟨y9, q9⟩, ⟨y10, q10⟩, y11, q11⟩ := z12at x11
  have HQ1 : Hid _ := hQ1
  clear hQ1 x11 ht1 v0 v1 v2 v3 v4 v5 v6 e0 e1 e2 e3 e4 e5 HC HF
  go_wp2
  refine bodyPost_ret (v := .agg #[.int .i64 c0, .int .i64 c1, .int .i64 c2, .int .i64 c3, .int .i64 c4, .slice ta' tn' tc', .slice pa' pn' pc', .slice la' ln' lc', .string sm', .int .i64 le', .string a', .string b']) (by simp [results, Tryz.results42, go_sem, y0, y1, y2, y3, y4, y5, y6, y7, y8, y9, y10, y11]) rfl ?_
  exact HQ.out _ _ _ HQ1.out (tn12 w1 (w.heap.size + 2) _ _ _ _ _ _ _ _ _ _ _ _)

set_option maxRecDepth 20000 in
set_option maxHeartbeats 4000000 in
theorem l4Apply_drop (wd now given births : Int) (ta pa la : Option Addr) (tn tc pn pc ln lc : Nat) (s nm text : ByteArray) (num : Int) (ra : Option Addr) (rn rc : Nat) (w : World) (V : List Nat) (Q : World → Ending → World → Prop) (Q' : Ending → World → Prop) (hV : ∀ b ∈ V, b < w.heap.size)
    (hc : ∀ X, Below w.heap.size w X → w.heap.size + 3 ≤ X.heap.size → Calls Tryz.prog 91 #[.agg #[.int .i64 wd, .int .i64 now, .int .i64 given, .int .i64 births, .slice ta tn tc, .slice pa pn pc, .slice la ln lc], .string s] X (Q X))
    (hf : ∀ X e w', Q X e w' → Tn V X w' ∧ ∃ (c0 c1 c2 c3 c4 : Int) (ta' : Option Addr) (tn' tc' : Nat) (pa' : Option Addr) (pn' pc' : Nat) (la' : Option Addr) (ln' lc' : Nat) (sm' : ByteArray) (le' : Int) (a' b' : ByteArray), e = .returned (.agg #[.int .i64 c0, .int .i64 c1, .int .i64 c2, .int .i64 c3, .int .i64 c4, .slice ta' tn' tc', .slice pa' pn' pc', .slice la' ln' lc', .string sm', .int .i64 le', .string a', .string b']))
    (hq : ∀ X e w' w'', Below w.heap.size w X → w.heap.size + 3 ≤ X.heap.size → Q X e w' → Tn [w.heap.size + 2] w' w'' → Q' e w'') :
    Calls Tryz.prog 42 #[.agg #[.int .i64 wd, .int .i64 now, .int .i64 given, .int .i64 births, .slice ta tn tc, .slice pa pn pc, .slice la ln lc], .agg #[.int .i64 7, .string s, .string nm, .int .i64 num, .string text, .slice ra rn rc]] w Q' := by
  obtain ⟨W, hW⟩ : ∃ W, W = ((w.alloc (.cells #[.int .i64 wd, .int .i64 now, .int .i64 given, .int .i64 births, .slice ta tn tc, .slice pa pn pc, .slice la ln lc] 28)).alloc (.cells #[.int .i64 7, .string s, .string nm, .int .i64 num, .string text, .slice ra rn rc] 77)).alloc (.cells #[.int .i64 0, .int .i64 0, .int .i64 0, .int .i64 0, .int .i64 0, .slice none 0 0, .slice none 0 0, .slice none 0 0, .string ⟨#[]⟩, .int .i64 0, .string ⟨#[]⟩, .string ⟨#[]⟩] 30) := ⟨_, rfl⟩
  have bW : Below w.heap.size w W := by rw [hW]; exact (((Below.refl _ _).alloc (Nat.le_refl _) _).alloc (by simp) _).alloc (by simp; omega) _
  have hzW : W.heap.size = w.heap.size + 3 := by rw [hW]; simp
  have x0 : CellsAt W w.heap.size [.int .i64 wd, .int .i64 now, .int .i64 given, .int .i64 births, .slice ta tn tc, .slice pa pn pc, .slice la ln lc] := by
    rw [hW]
    exact CellsAt.below (CellsAt.new w _ 28) (((Below.refl _ _).alloc (Nat.le_refl _) _).alloc (by simp) _)
  have xe : CellsAt W (w.heap.size + 1) [.int .i64 7, .string s, .string nm, .int .i64 num, .string text, .slice ra rn rc] := by
    have h1 := CellsAt.new (w.alloc (.cells #[.int .i64 wd, .int .i64 now, .int .i64 given, .int .i64 births, .slice ta tn tc, .slice pa pn pc, .slice la ln lc] 28)) [.int .i64 7, .string s, .string nm, .int .i64 num, .string text, .slice ra rn rc] 77
    rw [World.size_alloc] at h1
    rw [hW]
    exact CellsAt.below h1 ((Below.refl _ _).alloc (Nat.le_refl _) _)
  have x1 : CellsAt W (w.heap.size + 2) z12 := by
    have h1 := CellsAt.new ((w.alloc (.cells #[.int .i64 wd, .int .i64 now, .int .i64 given, .int .i64 births, .slice ta tn tc, .slice pa pn pc, .slice la ln lc] 28)).alloc (.cells #[.int .i64 7, .string s, .string nm, .int .i64 num, .string text, .slice ra rn rc] 77)) z12 30
    rw [World.size_alloc, World.size_alloc] at h1
    rw [hW]
    exact h1
  have HC : Hid _ := hc W bW (by omega)
  have HQ : Hid (∀ e w' w'', Q W e w' → Tn [w.heap.size + 2] w' w'' → Q' e w'') := fun e w' w'' h1 h2 => hq W e w' w'' bW (by omega) h1 h2
  have HF : Hid (∀ e w', Q W e w' → Tn V W w' ∧ ∃ (c0 c1 c2 c3 c4 : Int) (ta' : Option Addr) (tn' tc' : Nat) (pa' : Option Addr) (pn' pc' : Nat) (la' : Option Addr) (ln' lc' : Nat) (sm' : ByteArray) (le' : Int) (a' b' : ByteArray), e = .returned (.agg #[.int .i64 c0, .int .i64 c1, .int .i64 c2, .int .i64 c3, .int .i64 c4, .slice ta' tn' tc', .slice pa' pn' pc', .slice la' ln' lc', .string sm', .int .i64 le', .string a', .string b'])) := hf W
  have HX1 : Hid (CellsAt W (w.heap.size + 2) z12) := x1
  have HV : Hid (∀ b ∈ V, b < w.heap.size) := hV
  have HW : Hid _ := hW
  obtain ⟨v0, _⟩ := x0 0 _ rfl
  obtain ⟨v1, _⟩ := x0 1 _ rfl
  obtain ⟨v2, _⟩ := x0 2 _ rfl
  obtain ⟨v3, _⟩ := x0 3 _ rfl
  obtain ⟨v4, _⟩ := x0 4 _ rfl
  obtain ⟨v5, _⟩ := x0 5 _ rfl
  obtain ⟨v6, _⟩ := x0 6 _ rfl
  obtain ⟨e0, _⟩ := xe 0 _ rfl
  obtain ⟨e1, _⟩ := xe 1 _ rfl
  obtain ⟨e2, _⟩ := xe 2 _ rfl
  obtain ⟨e3, _⟩ := xe 3 _ rfl
  obtain ⟨e4, _⟩ := xe 4 _ rfl
  obtain ⟨e5, _⟩ := xe 5 _ rfl
  clear hW x0 xe x1 hc hq hf hV bW
  go_enter Tryz.func42, Tryz.ntmps42
  go_upto_region 1 with fail
  rw [← HW.out]
  clear HW
  go_wp2_with fail
  refine Calls.mono HC.out ?_
  intro e w1 hQ1
  obtain ⟨ht1, c0, c1, c2, c3, c4, ta', tn', tc', pa', pn', pc', la', ln', lc', sm', le', a', b', rfl⟩ := HF.out e w1 hQ1
  have x11 : CellsAt w1 (w.heap.size + 2) z12 := CellsAt.same HX1.out (ht1.block _ HX1.out.lt (fun h => by have := HV.out _ h; omega))
  obtain ⟨⟨y0, q0⟩, ⟨y1, q1⟩, ⟨y2, q2⟩, ⟨y3, q3⟩, ⟨y4, q4⟩, ⟨y5, q5⟩, ⟨y6, q6⟩, ⟨y7, q7⟩, ⟨y8, q8⟩, ⟨y9, q9⟩, ⟨y10, q10⟩, y11, q11⟩ := z12at x11
  have HQ1 : Hid _ := hQ1
  clear hQ1 x11 ht1 v0 v1 v2 v3 v4 v5 v6 e0 e1 e2 e3 e4 e5 HC HF
  go_wp2
  refine bodyPost_ret (v := .agg #[.int .i64 c0, .int .i64 c1, .int .i64 c2, .int .i64 c3, .int .i64 c4, .slice ta' tn' tc', .slice pa' pn' pc', .slice la' ln' lc', .string sm', .int .i64 le', .string a', .string b']) (by simp [results, Tryz.results42, go_sem, y0, y1, y2, y3, y4, y5, y6, y7, y8, y9, y10, y11]) rfl ?_
  exact HQ.out _ _ _ HQ1.out (tn12 w1 (w.heap.size + 2) _ _ _ _ _ _ _ _ _ _ _ _)

set_option maxRecDepth 20000 in
set_option maxHeartbeats 4000000 in
theorem l4Apply_lease (wd now given births : Int) (ta pa la : Option Addr) (tn tc pn pc ln lc : Nat) (s nm text : ByteArray) (num : Int) (ra : Option Addr) (rn rc : Nat) (w : World) (fi : Int) (Q : World → Ending → World → Prop) (Q' : Ending → World → Prop)
    (hfi : ∀ X, Below w.heap.size w X → Calls Tryz.prog 72 #[.agg #[.int .i64 wd, .int .i64 now, .int .i64 given, .int .i64 births, .slice ta tn tc, .slice pa pn pc, .slice la ln lc], .string s] X fun e w' => e = .returned (.int .i64 fi) ∧ Below X.heap.size X w')
    (hcp : 0 ≤ fi → ∀ X, Below w.heap.size w X → w.heap.size + 3 ≤ X.heap.size → Calls Tryz.prog 43 #[.agg #[.int .i64 wd, .int .i64 now, .int .i64 given, .int .i64 births, .slice ta tn tc, .slice pa pn pc, .slice la ln lc]] X fun e w' => (∃ ta' tn' tc' pa' pn' pc' la' ln' lc', e = .returned (.agg #[.int .i64 wd, .int .i64 now, .int .i64 given, .int .i64 births, .slice ta' tn' tc', .slice pa' pn' pc', .slice la' ln' lc']) ∧ ∀ Y, Below w'.heap.size w' Y → Calls Tryz.prog 88 #[.agg #[.int .i64 wd, .int .i64 now, .int .i64 given, .int .i64 births, .slice ta' tn' tc', .slice pa' pn' pc', .slice la' ln' lc'], .string s, .int .i64 num] Y (Q X)) ∧ Below X.heap.size X w')
    (hf : ∀ X e w', Below w.heap.size w X → Q X e w' → Below X.heap.size X w' ∧ ∃ (c0 c1 c2 c3 c4 : Int) (ta' : Option Addr) (tn' tc' : Nat) (pa' : Option Addr) (pn' pc' : Nat) (la' : Option Addr) (ln' lc' : Nat) (sm' : ByteArray) (le' : Int) (a' b' : ByteArray), e = .returned (.agg #[.int .i64 c0, .int .i64 c1, .int .i64 c2, .int .i64 c3, .int .i64 c4, .slice ta' tn' tc', .slice pa' pn' pc', .slice la' ln' lc', .string sm', .int .i64 le', .string a', .string b']))
    (hq0 : fi < 0 → ∀ w', Below w.heap.size w w' → Q' (.returned (.agg (refC 2 ⟨#[]⟩ ⟨#[]⟩).toArray)) w')
    (hq : 0 ≤ fi → ∀ X e w' w'', Below w.heap.size w X → w.heap.size + 3 ≤ X.heap.size → Q X e w' → Tn [w.heap.size + 2] w' w'' → Q' e w'') :
    Calls Tryz.prog 42 #[.agg #[.int .i64 wd, .int .i64 now, .int .i64 given, .int .i64 births, .slice ta tn tc, .slice pa pn pc, .slice la ln lc], .agg #[.int .i64 4, .string s, .string nm, .int .i64 num, .string text, .slice ra rn rc]] w Q' := by
  obtain ⟨W, hW⟩ : ∃ W, W = ((w.alloc (.cells #[.int .i64 wd, .int .i64 now, .int .i64 given, .int .i64 births, .slice ta tn tc, .slice pa pn pc, .slice la ln lc] 28)).alloc (.cells #[.int .i64 4, .string s, .string nm, .int .i64 num, .string text, .slice ra rn rc] 77)).alloc (.cells #[.int .i64 0, .int .i64 0, .int .i64 0, .int .i64 0, .int .i64 0, .slice none 0 0, .slice none 0 0, .slice none 0 0, .string ⟨#[]⟩, .int .i64 0, .string ⟨#[]⟩, .string ⟨#[]⟩] 30) := ⟨_, rfl⟩
  have bW : Below w.heap.size w W := by rw [hW]; exact (((Below.refl _ _).alloc (Nat.le_refl _) _).alloc (by simp) _).alloc (by simp; omega) _
  have hzW : W.heap.size = w.heap.size + 3 := by rw [hW]; simp
  have x0 : CellsAt W w.heap.size [.int .i64 wd, .int .i64 now, .int .i64 given, .int .i64 births, .slice ta tn tc, .slice pa pn pc, .slice la ln lc] := by
    rw [hW]
    exact CellsAt.below (CellsAt.new w _ 28) (((Below.refl _ _).alloc (Nat.le_refl _) _).alloc (by simp) _)
  have xe : CellsAt W (w.heap.size + 1) [.int .i64 4, .string s, .string nm, .int .i64 num, .string text, .slice ra rn rc] := by
    have h1 := CellsAt.new (w.alloc (.cells #[.int .i64 wd, .int .i64 now, .int .i64 given, .int .i64 births, .slice ta tn tc, .slice pa pn pc, .slice la ln lc] 28)) [.int .i64 4, .string s, .string nm, .int .i64 num, .string text, .slice ra rn rc] 77
    rw [World.size_alloc] at h1
    rw [hW]
    exact CellsAt.below h1 ((Below.refl _ _).alloc (Nat.le_refl _) _)
  have x1 : CellsAt W (w.heap.size + 2) z12 := by
    have h1 := CellsAt.new ((w.alloc (.cells #[.int .i64 wd, .int .i64 now, .int .i64 given, .int .i64 births, .slice ta tn tc, .slice pa pn pc, .slice la ln lc] 28)).alloc (.cells #[.int .i64 4, .string s, .string nm, .int .i64 num, .string text, .slice ra rn rc] 77)) z12 30
    rw [World.size_alloc, World.size_alloc] at h1
    rw [hW]
    exact h1
  have HFi : Hid _ := hfi W bW
  have HX : Hid (∀ X, Below W.heap.size W X → CellsAt X w.heap.size [.int .i64 wd, .int .i64 now, .int .i64 given, .int .i64 births, .slice ta tn tc, .slice pa pn pc, .slice la ln lc] ∧ CellsAt X (w.heap.size + 1) [.int .i64 4, .string s, .string nm, .int .i64 num, .string text, .slice ra rn rc] ∧ CellsAt X (w.heap.size + 2) z12 ∧ Below w.heap.size w X) := fun X hX => ⟨CellsAt.below x0 hX, CellsAt.below xe hX, CellsAt.below (v := .int .i64 0) x1 hX, bW.trans (hX.mono bW.size)⟩
  have HW : Hid _ := hW
  have HCp : Hid _ := hcp
  have HF : Hid _ := hf
  have HQ0 : Hid _ := hq0
  have HQ : Hid _ := hq
  obtain ⟨v0, _⟩ := x0 0 _ rfl
  obtain ⟨v1, _⟩ := x0 1 _ rfl
  obtain ⟨v2, _⟩ := x0 2 _ rfl
  obtain ⟨v3, _⟩ := x0 3 _ rfl
  obtain ⟨v4, _⟩ := x0 4 _ rfl
  obtain ⟨v5, _⟩ := x0 5 _ rfl
  obtain ⟨v6, _⟩ := x0 6 _ rfl
  obtain ⟨e0, _⟩ := xe 0 _ rfl
  obtain ⟨e1, _⟩ := xe 1 _ rfl
  obtain ⟨e2, _⟩ := xe 2 _ rfl
  obtain ⟨e3, _⟩ := xe 3 _ rfl
  obtain ⟨e4, _⟩ := xe 4 _ rfl
  obtain ⟨e5, _⟩ := xe 5 _ rfl
  clear hW x0 xe x1 hfi hcp hf hq0 hq bW
  go_enter Tryz.func42, Tryz.ntmps42
  go_upto_region 1 with fail
  rw [← HW.out]
  clear HW
  go_wp2_with fail
  refine Calls.mono HFi.out ?_
  rintro e w1 ⟨rfl, hb1⟩
  have HB1 : Hid (Below W.heap.size W w1) := hb1
  clear v0 v1 v2 v3 v4 v5 v6 e0 e1 e2 e3 e4 e5 HFi hb1
  obtain ⟨x0, xe, x1, hbw⟩ := HX.out w1 HB1.out
  by_cases hneg : fi < 0
  · obtain ⟨⟨y0, q0⟩, ⟨y1, q1⟩, ⟨y2, q2⟩, ⟨y3, q3⟩, ⟨y4, q4⟩, ⟨y5, q5⟩, ⟨y6, q6⟩, ⟨y7, q7⟩, ⟨y8, q8⟩, ⟨y9, q9⟩, ⟨y10, q10⟩, y11, q11⟩ := z12at x1
    have HBw : Hid (Below w.heap.size w w1) := hbw
    clear x0 xe x1 hbw HX
    go_wp2
    refine bodyPost_ret (v := .agg (refC 2 ⟨#[]⟩ ⟨#[]⟩).toArray) (by simp [results, Tryz.results42, go_sem, y0, y1, y2, y3, y4, y5, y6, y7, y8, y9, y10, y11, refC]) rfl ?_
    exact HQ0.out hneg _ (HBw.out.trans (Tn.below (tn12 w1 (w.heap.size + 2) _ _ _ _ _ _ _ _ _ _ _ _) HBw.out.size (by intro v hv; simp at hv; omega)))
  · have h0 : 0 ≤ fi := by omega
    have D1 : Below w1.heap.size w1 w1.drew := (Below.refl _ _).drew
    have bd : Below W.heap.size W w1.drew := HB1.out.trans (D1.mono HB1.out.size)
    have hbwd : Below w.heap.size w w1.drew := (HX.out _ bd).2.2.2
    have hzd : w.heap.size + 3 ≤ w1.drew.heap.size := by have := bd.size; omega
    have HC1 : Hid _ := HCp.out h0 w1.drew hbwd hzd
    have HBd : Hid (Below W.heap.size W w1.drew) := bd
    have P1 : w1.drew.cell? ⟨w.heap.size, 0, none⟩ = some (.int .i64 wd) ∧ w1.drew.cell? ⟨w.heap.size, 1, none⟩ = some (.int .i64 now) ∧ w1.drew.cell? ⟨w.heap.size, 2, none⟩ = some (.int .i64 given) ∧ w1.drew.cell? ⟨w.heap.size, 3, none⟩ = some (.int .i64 births) ∧ w1.drew.cell? ⟨w.heap.size, 4, none⟩ = some (.slice ta tn tc) ∧ w1.drew.cell? ⟨w.heap.size, 5, none⟩ = some (.slice pa pn pc) ∧ w1.drew.cell? ⟨w.heap.size, 6, none⟩ = some (.slice la ln lc) ∧ w1.drew.cell? ⟨w.heap.size + 1, 1, none⟩ = some (.string s) ∧ w1.drew.cell? ⟨w.heap.size + 1, 3, none⟩ = some (.int .i64 num) := ⟨(x0 0 _ rfl).1, (x0 1 _ rfl).1, (x0 2 _ rfl).1, (x0 3 _ rfl).1, (x0 4 _ rfl).1, (x0 5 _ rfl).1, (x0 6 _ rfl).1, (xe 1 _ rfl).1, (xe 3 _ rfl).1⟩
    have HS : Hid (∀ X, Below W.heap.size W X → X.cell? ⟨w.heap.size, 0, none⟩ = some (.int .i64 wd) ∧ X.cell? ⟨w.heap.size, 1, none⟩ = some (.int .i64 now) ∧ X.cell? ⟨w.heap.size, 2, none⟩ = some (.int .i64 given) ∧ X.cell? ⟨w.heap.size, 3, none⟩ = some (.int .i64 births) ∧ X.cell? ⟨w.heap.size, 4, none⟩ = some (.slice ta tn tc) ∧ X.cell? ⟨w.heap.size, 5, none⟩ = some (.slice pa pn pc) ∧ X.cell? ⟨w.heap.size, 6, none⟩ = some (.slice la ln lc) ∧ X.cell? ⟨w.heap.size + 1, 1, none⟩ = some (.string s) ∧ X.cell? ⟨w.heap.size + 1, 3, none⟩ = some (.int .i64 num)) := fun X hX => by
      obtain ⟨a0, a1, _⟩ := HX.out X hX
      exact ⟨(a0 0 _ rfl).1, (a0 1 _ rfl).1, (a0 2 _ rfl).1, (a0 3 _ rfl).1, (a0 4 _ rfl).1, (a0 5 _ rfl).1, (a0 6 _ rfl).1, (a1 1 _ rfl).1, (a1 3 _ rfl).1⟩
    have HSb : Hid (∀ X Y, Below W.heap.size W X → Tn [w.heap.size + 1 + 1] X Y → Y.cell? ⟨w.heap.size, 0, none⟩ = some (.int .i64 wd) ∧ Y.cell? ⟨w.heap.size, 1, none⟩ = some (.int .i64 now) ∧ Y.cell? ⟨w.heap.size, 2, none⟩ = some (.int .i64 given) ∧ Y.cell? ⟨w.heap.size, 3, none⟩ = some (.int .i64 births) ∧ Y.cell? ⟨w.heap.size, 4, none⟩ = some (.slice ta tn tc) ∧ Y.cell? ⟨w.heap.size, 5, none⟩ = some (.slice pa pn pc) ∧ Y.cell? ⟨w.heap.size, 6, none⟩ = some (.slice la ln lc) ∧ Y.cell? ⟨w.heap.size + 1, 1, none⟩ = some (.string s) ∧ Y.cell? ⟨w.heap.size + 1, 3, none⟩ = some (.int .i64 num)) := fun X Y hX hY => by
      obtain ⟨z0, z1, _⟩ := HX.out X hX
      have a0 := CellsAt.same z0 (hY.block _ z0.lt (by simp; omega))
      have a1 := CellsAt.same z1 (hY.block _ z1.lt (by simp))
      exact ⟨(a0 0 _ rfl).1, (a0 1 _ rfl).1, (a0 2 _ rfl).1, (a0 3 _ rfl).1, (a0 4 _ rfl).1, (a0 5 _ rfl).1, (a0 6 _ rfl).1, (a1 1 _ rfl).1, (a1 3 _ rfl).1⟩
    have hneg' : ¬ fi < 0 := hneg
    clear x0 xe x1 hbw bd P1
    go_upto_region 11 with fail
    go_region_held3 (fun X => X.cell? ⟨w.heap.size, 0, none⟩ = some (.int .i64 wd) ∧ X.cell? ⟨w.heap.size, 1, none⟩ = some (.int .i64 now) ∧ X.cell? ⟨w.heap.size, 2, none⟩ = some (.int .i64 given) ∧ X.cell? ⟨w.heap.size, 3, none⟩ = some (.int .i64 births) ∧ X.cell? ⟨w.heap.size, 4, none⟩ = some (.slice ta tn tc) ∧ X.cell? ⟨w.heap.size, 5, none⟩ = some (.slice pa pn pc) ∧ X.cell? ⟨w.heap.size, 6, none⟩ = some (.slice la ln lc) ∧ X.cell? ⟨w.heap.size + 1, 1, none⟩ = some (.string s) ∧ X.cell? ⟨w.heap.size + 1, 3, none⟩ = some (.int .i64 num))
      (first | with_reducible exact HS.out _ HBd.out | with_reducible exact HS.out _ B2 | with_reducible exact HS.out _ B3 | with_reducible exact HSb.out _ _ B3 (tn12 _ _ _ _ _ _ _ _ _ _ _ _ _ _))
      (first
        | (go_at_call 43; refine Calls.mono HC1.out ?_; rintro e w2 ⟨⟨ta', tn', tc', pa', pn', pc', la', ln', lc', rfl, hle⟩, hb2⟩; have B2 : Below W.heap.size W w2 := HBd.out.trans (hb2.mono HBd.out.size); have HLe : Hid _ := hle w2 (Below.refl _ _); clear hle hb2)
        | (go_at_call 88; refine Calls.mono HLe.out ?_; intro e w3 hQ3; obtain ⟨hb3, c0, c1, c2, c3, c4, ua', un', uc', va', vn', vc', xa', xn', xc', sm', le', a', b', rfl⟩ := HF.out w1.drew e w3 hbwd hQ3; have B3 : Below W.heap.size W w3 := HBd.out.trans (hb3.mono HBd.out.size); have HQ3 : Hid _ := hQ3; obtain ⟨_, _, zz1, _⟩ := HX.out w3 B3; obtain ⟨⟨y0, q0⟩, ⟨y1, q1⟩, ⟨y2, q2⟩, ⟨y3, q3⟩, ⟨y4, q4⟩, ⟨y5, q5⟩, ⟨y6, q6⟩, ⟨y7, q7⟩, ⟨y8, q8⟩, ⟨y9, q9⟩, ⟨y10, q10⟩, y11, q11⟩ := z12at zz1; clear hQ3 hb3 zz1))
    clear HLe HC1 HS HSb HCp HF
    go_wp2
    refine bodyPost_ret (v := .agg #[.int .i64 c0, .int .i64 c1, .int .i64 c2, .int .i64 c3, .int .i64 c4, .slice ua' un' uc', .slice va' vn' vc', .slice xa' xn' xc', .string sm', .int .i64 le', .string a', .string b']) (by simp [results, Tryz.results42, go_sem, y0, y1, y2, y3, y4, y5, y6, y7, y8, y9, y10, y11]) rfl ?_
    exact HQ.out h0 w1.drew _ _ _ hbwd hzd HQ3.out (tn12 w3 (w.heap.size + 2) _ _ _ _ _ _ _ _ _ _ _ _)

end Go.Proofs.YtpekbmegopfhfaaGreatDoor
