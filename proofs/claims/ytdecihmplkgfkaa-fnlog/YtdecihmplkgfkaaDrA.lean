/-
  spec.DrawAppend, spec.DrawCrash.
-/
import Derived.Test.YtdecihmplkgfkaaDrL
import Derived.Deep.DeepCutAuto
import Derived.Deep.RegionLaw
namespace Go.Proofs.Ytdecihmplkgfkaa
open Go.ChangeShapes Go.WideShapes Go.ChangeAt Go.RowKit

theorem dr_wrap' {a : Int} (h0 : -10 ≤ a) (h1 : a ≤ 2000000000) : IntKind.i64.wrap a = a := by
  unfold IntKind.wrap
  simp [IntKind.signed, IntKind.bits]
  omega

/-- What was drawn: a log and another value X. -/
structure PairDrawn (w w' : World) (e : Ending) (X : Value → Prop) : Prop where
  ex : ∃ (v u x : Value) (ss tt : List ByteArray), e = .returned (.tuple #[.agg #[v, u], x]) ∧ w'.ownsRow w.heap.size 9 1 v ss.length (ss.map Value.string) ∧ w'.ownsRow w.heap.size 9 1 u tt.length (tt.map Value.string) ∧
      ss.length + tt.length ≤ 4020 ∧ (∀ s ∈ ss ++ tt, s.size ≤ 5001) ∧ X x ∧ Below w.heap.size w w'

set_option maxRecDepth 20000 in
set_option maxHeartbeats 4000000 in
theorem drawCrash_any (a : Option Addr) (n c : Nat) (w : World) (hn : n ≤ maxLen) (hb : n = 0 ∨ ∃ q off, a = some ⟨q, off, none⟩ ∧ q < w.heap.size ∧ ∀ j, j < n → ∃ x : Int, w.cell? ⟨q, off + j, none⟩ = some (.int .u8 x) ∧ 0 ≤ x ∧ x < 256) (hc : n ≤ c) :
    Calls Try.prog 42 #[.slice a n c] w fun e w' => PairDrawn w w' e (fun x => ∃ k : Int, x = .int .i64 k ∧ -1 ≤ k ∧ k ≤ 7) := by
  obtain ⟨W, hW⟩ : ∃ W, W = w.alloc (.cells #[.slice none 0 0, .slice none 0 0] 40) := ⟨_, rfl⟩
  have hbW : Below w.heap.size w W := by rw [hW]; exact (Below.refl _ _).alloc (Nat.le_refl _) _
  have hzW : W.heap.size = w.heap.size + 1 := by rw [hW]; simp
  have r0 : W.cell? ⟨w.heap.size, 0, none⟩ = some (.slice none 0 0) := by rw [hW]; simp [go_sem]
  have r1 : W.cell? ⟨w.heap.size, 1, none⟩ = some (.slice none 0 0) := by rw [hW]; simp [go_sem]
  have rf : ∀ o, W.frozen? ⟨w.heap.size, o, none⟩ = false := fun o => by rw [hW]; simp [go_sem]
  have hb' : n = 0 ∨ ∃ q off, a = some ⟨q, off, none⟩ ∧ q < W.heap.size ∧ ∀ j, j < n → ∃ x : Int, W.cell? ⟨q, off + j, none⟩ = some (.int .u8 x) ∧ 0 ≤ x ∧ x < 256 := by
    rcases hb with h | ⟨q, off, ha, hq, hx⟩
    · exact .inl h
    · refine .inr ⟨q, off, ha, by omega, fun j hj => ?_⟩
      obtain ⟨x, h1, h2⟩ := hx j hj
      exact ⟨x, (hbW.cell (p := ⟨q, off + j, none⟩) hq).trans h1, h2⟩
  have HW : Hid _ := hW
  clear hW hb
  go_enter Try.func42, Try.ntmps42
  go_wp2_with fail
  rw [← HW.out]
  refine (l1Open_any a n c W hn hb' hc).mono ?_
  rintro e w1 ⟨n', c', rfl, hst1, hw1⟩
  have hz1 := hst1.lt
  replace r0 := (hw1.cell (p := ⟨w.heap.size, 0, none⟩) (by simp; omega)).trans r0
  replace r1 := (hw1.cell (p := ⟨w.heap.size, 1, none⟩) (by simp; omega)).trans r1
  replace rf : ∀ o, w1.frozen? ⟨w.heap.size, o, none⟩ = false := fun o => (hw1.frozen (p := ⟨w.heap.size, o, none⟩) (by simp; omega)).trans (rf o)
  have hB1 : Below w.heap.size w w1 := hbW.trans (hw1.mono (by omega))
  rw [hzW] at hst1 hz1 ⊢
  clear hw1 HW hbW hb' hzW
  go_wp2_with fail
  refine (l2Draw_any (w.heap.size + 1) a n' c' 0 w1 hst1 (by omega) (by omega)).mono ?_
  rintro e w2 ⟨v, u, ss, tt, rfl, ov, ou, hlen, hsz, hD⟩
  obtain ⟨av, cv, rfl, _⟩ := own_slice ov
  obtain ⟨au, cu, rfl, _⟩ := own_slice ou
  have hz2 := hD.gr.size
  have n0 : some w.heap.size ≠ some (w.heap.size + 1) := by simp
  replace r0 := hD.gr.cell r0 n0
  replace r1 := hD.gr.cell r1 n0
  replace rf : ∀ o, w2.frozen? ⟨w.heap.size, o, none⟩ = false := fun o => (hD.gr.frozen_far ⟨w.heap.size, o, none⟩ (by simp; omega) n0).trans (rf o)
  have hB2 : Below w.heap.size w w2 := hB1.grown hD.gr (by omega) (fun j hj => by cases hj; omega)
  obtain ⟨p2, hst2, hp2, hp2'⟩ := hD.st
  obtain ⟨V, hV⟩ : ∃ V, V = w2.alloc (.cells #[.slice av ss.length cv, .slice au tt.length cu] 40) := ⟨_, rfl⟩
  have hA : Below w2.heap.size w2 V := by rw [hV]; exact (Below.refl _ _).alloc (Nat.le_refl _) _
  have hzV : w2.heap.size < V.heap.size := by rw [hV]; simp
  have t0 : V.cell? ⟨w2.heap.size, 0, none⟩ = some (.slice av ss.length cv) := by rw [hV]; simp [go_sem]
  have t1 : V.cell? ⟨w2.heap.size, 1, none⟩ = some (.slice au tt.length cu) := by rw [hV]; simp [go_sem]
  have s0 := (hA.cell (p := ⟨w.heap.size, 0, none⟩) (by simp; omega)).trans r0
  have s1 := (hA.cell (p := ⟨w.heap.size, 1, none⟩) (by simp; omega)).trans r1
  have sf : ∀ o, V.frozen? ⟨w.heap.size, o, none⟩ = false := fun o => (hA.frozen (p := ⟨w.heap.size, o, none⟩) (by simp; omega)).trans (rf o)
  have hst3 := hst2.below hA
  have hBV : Below w.heap.size w V := hB2.trans (hA.mono hB2.size)
  have ovV := own_keep ov hA
  have ouV := own_keep ou hA
  clear r0 r1 rf ov ou hD hst1 hst2 hB1 hB2 hA
  go_upto_region 3 with fail
  rw [← hV]
  clear hV
  generalize w2.heap.size = B5 at *
  go_region_law (first
    | (refine step_call (by rfl) 91 #[.pointer (some ⟨w.heap.size + 1, 0, none⟩), .int .i64 9] (by first | rfl | kernel_rfl) (pick_any (w.heap.size + 1) a n' c' p2 9 V.drew hst3.drew (by omega) (by omega) (by omega) (by omega)) ?_; rintro e w4 ⟨r, rfl, q0, q1, hst4, hg4⟩; refine ⟨_, rfl, ?_⟩; have hgp : V.grownBy w4 (some (w.heap.size + 1)) := ⟨hg4.os, hg4.tape, hg4.output, hg4.size, hg4.block⟩; have m0 : some w.heap.size ≠ some (w.heap.size + 1) := (by simp); have m5 : some B5 ≠ some (w.heap.size + 1) := (by simp; omega); have e0 := hgp.cell t0 m5; have e1 := hgp.cell t1 m5; have z0 := hgp.cell s0 m0; have z1 := hgp.cell s1 m0; have zf : ∀ o, w4.frozen? ⟨w.heap.size, o, none⟩ = false := (fun o => (hgp.frozen_far ⟨w.heap.size, o, none⟩ (by simp; omega) m0).trans (sf o)); have hwr : IntKind.i64.wrap (r - 1) = r - 1 := dr_wrap' (by omega) (by omega)))
  all_goals
    have hB4 : Below w.heap.size w w4 := hBV.grown hgp (by omega) (fun j hj => by cases hj; omega)
    have ov4 := ovV.kept hgp (by cases hv : (Value.slice av ss.length cv).ownBlock with | none => exact .inl rfl | some j => exact .inr (by have := (ovV.lt j hv).1; simp; omega))
    have ou4 := ouV.kept hgp (by cases hv : (Value.slice au tt.length cu).ownBlock with | none => exact .inl rfl | some j => exact .inr (by have := (ouV.lt j hv).1; simp; omega))
    have HF : Hid _ := And.intro ov4 (And.intro ou4 hB4)
    clear ov4 ou4 hB4 hgp hg4 hst4 ovV ouV hBV hst3
    go_wp2
    refine bodyPost_ret (v := .tuple #[.agg #[.slice av ss.length cv, .slice au tt.length cu], .int .i64 (r - 1)]) (by simp [results, Try.results42, go_sem, z0, z1]) rfl (PairDrawn.mk ⟨_, _, _, ss, tt, rfl, ?_, ?_, hlen, hsz, ⟨r - 1, rfl, by omega, by omega⟩, ?_⟩)
    · exact (ownsRow_setCell_below (ownsRow_setCell_below HF.out.1 (a := ⟨w.heap.size, 0, none⟩) (by simp; omega) _) (a := ⟨w.heap.size, 1, none⟩) (by simp; omega) _).mono (by omega)
    · exact (ownsRow_setCell_below (ownsRow_setCell_below HF.out.2.1 (a := ⟨w.heap.size, 0, none⟩) (by simp; omega) _) (a := ⟨w.heap.size, 1, none⟩) (by simp; omega) _).mono (by omega)
    · exact (HF.out.2.2.setCell (p := ⟨w.heap.size, 0, none⟩) (by simp) _).setCell (p := ⟨w.heap.size, 1, none⟩) (by simp) _

set_option maxRecDepth 20000 in
set_option maxHeartbeats 4000000 in
theorem drawAppend_any (a : Option Addr) (n c : Nat) (w : World) (hn : n ≤ maxLen) (hb : n = 0 ∨ ∃ q off, a = some ⟨q, off, none⟩ ∧ q < w.heap.size ∧ ∀ j, j < n → ∃ x : Int, w.cell? ⟨q, off + j, none⟩ = some (.int .u8 x) ∧ 0 ≤ x ∧ x < 256) (hc : n ≤ c) :
    Calls Try.prog 41 #[.slice a n c] w fun e w' => PairDrawn w w' e (fun x => ∃ s : ByteArray, x = .string s ∧ s.size ≤ 5001) := by
  obtain ⟨W, hW⟩ : ∃ W, W = w.alloc (.cells #[.slice none 0 0, .slice none 0 0] 40) := ⟨_, rfl⟩
  have hbW : Below w.heap.size w W := by rw [hW]; exact (Below.refl _ _).alloc (Nat.le_refl _) _
  have hzW : W.heap.size = w.heap.size + 1 := by rw [hW]; simp
  have r0 : W.cell? ⟨w.heap.size, 0, none⟩ = some (.slice none 0 0) := by rw [hW]; simp [go_sem]
  have r1 : W.cell? ⟨w.heap.size, 1, none⟩ = some (.slice none 0 0) := by rw [hW]; simp [go_sem]
  have rf : ∀ o, W.frozen? ⟨w.heap.size, o, none⟩ = false := fun o => by rw [hW]; simp [go_sem]
  have hb' : n = 0 ∨ ∃ q off, a = some ⟨q, off, none⟩ ∧ q < W.heap.size ∧ ∀ j, j < n → ∃ x : Int, W.cell? ⟨q, off + j, none⟩ = some (.int .u8 x) ∧ 0 ≤ x ∧ x < 256 := by
    rcases hb with h | ⟨q, off, ha, hq, hx⟩
    · exact .inl h
    · refine .inr ⟨q, off, ha, by omega, fun j hj => ?_⟩
      obtain ⟨x, h1, h2⟩ := hx j hj
      exact ⟨x, (hbW.cell (p := ⟨q, off + j, none⟩) hq).trans h1, h2⟩
  have HW : Hid _ := hW
  clear hW hb
  go_enter Try.func41, Try.ntmps41
  go_wp2_with fail
  rw [← HW.out]
  refine (l1Open_any a n c W hn hb' hc).mono ?_
  rintro e w1 ⟨n', c', rfl, hst1, hw1⟩
  have hz1 := hst1.lt
  replace r0 := (hw1.cell (p := ⟨w.heap.size, 0, none⟩) (by simp; omega)).trans r0
  replace r1 := (hw1.cell (p := ⟨w.heap.size, 1, none⟩) (by simp; omega)).trans r1
  replace rf : ∀ o, w1.frozen? ⟨w.heap.size, o, none⟩ = false := fun o => (hw1.frozen (p := ⟨w.heap.size, o, none⟩) (by simp; omega)).trans (rf o)
  have hB1 : Below w.heap.size w w1 := hbW.trans (hw1.mono (by omega))
  rw [hzW] at hst1 hz1 ⊢
  clear hw1 HW hbW hb' hzW
  go_wp2_with fail
  refine (l2Draw_any (w.heap.size + 1) a n' c' 0 w1 hst1 (by omega) (by omega)).mono ?_
  rintro e w2 ⟨v, u, ss, tt, rfl, ov, ou, hlen, hsz, hD⟩
  obtain ⟨av, cv, rfl, _⟩ := own_slice ov
  obtain ⟨au, cu, rfl, _⟩ := own_slice ou
  have hz2 := hD.gr.size
  have n0 : some w.heap.size ≠ some (w.heap.size + 1) := by simp
  replace r0 := hD.gr.cell r0 n0
  replace r1 := hD.gr.cell r1 n0
  replace rf : ∀ o, w2.frozen? ⟨w.heap.size, o, none⟩ = false := fun o => (hD.gr.frozen_far ⟨w.heap.size, o, none⟩ (by simp; omega) n0).trans (rf o)
  have hB2 : Below w.heap.size w w2 := hB1.grown hD.gr (by omega) (fun j hj => by cases hj; omega)
  obtain ⟨p2, hst2, hp2, hp2'⟩ := hD.st
  obtain ⟨V, hV⟩ : ∃ V, V = w2.alloc (.cells #[.slice av ss.length cv, .slice au tt.length cu] 40) := ⟨_, rfl⟩
  have hA : Below w2.heap.size w2 V := by rw [hV]; exact (Below.refl _ _).alloc (Nat.le_refl _) _
  have hzV : w2.heap.size < V.heap.size := by rw [hV]; simp
  have t0 : V.cell? ⟨w2.heap.size, 0, none⟩ = some (.slice av ss.length cv) := by rw [hV]; simp [go_sem]
  have t1 : V.cell? ⟨w2.heap.size, 1, none⟩ = some (.slice au tt.length cu) := by rw [hV]; simp [go_sem]
  have s0 := (hA.cell (p := ⟨w.heap.size, 0, none⟩) (by simp; omega)).trans r0
  have s1 := (hA.cell (p := ⟨w.heap.size, 1, none⟩) (by simp; omega)).trans r1
  have sf : ∀ o, V.frozen? ⟨w.heap.size, o, none⟩ = false := fun o => (hA.frozen (p := ⟨w.heap.size, o, none⟩) (by simp; omega)).trans (rf o)
  have hst3 := hst2.below hA
  have hBV : Below w.heap.size w V := hB2.trans (hA.mono hB2.size)
  have ovV := own_keep ov hA
  have ouV := own_keep ou hA
  clear r0 r1 rf ov ou hD hst1 hst2 hB1 hB2 hA
  go_upto_region 3 with fail
  rw [← hV]
  clear hV
  generalize w2.heap.size = B5 at *
  go_wp2_with fail
  refine (pick_any (w.heap.size + 1) a n' c' p2 10 V hst3 (by omega) (by omega) (by omega) (by omega)).mono ?_
  rintro e V4 ⟨r, rfl, q0, q1, hst4, hgq⟩
  have m0' : some w.heap.size ≠ some (w.heap.size + 1) := by simp
  have m5' : some B5 ≠ some (w.heap.size + 1) := by simp; omega
  have hzq := hgq.size
  replace t0 := hgq.cell t0 m5'
  replace t1 := hgq.cell t1 m5'
  replace s0 := hgq.cell s0 m0'
  replace s1 := hgq.cell s1 m0'
  replace sf : ∀ o, V4.frozen? ⟨w.heap.size, o, none⟩ = false := fun o => (hgq.frozen_far ⟨w.heap.size, o, none⟩ (by simp; omega) m0').trans (sf o)
  have hB4' : Below w.heap.size w V4 := hBV.grown hgq (by omega) (fun j hj => by cases hj; omega)
  have ov3 := ovV.kept hgq (by cases hv : (Value.slice av ss.length cv).ownBlock with | none => exact .inl rfl | some j => exact .inr (by have := (ovV.lt j hv).1; simp; omega))
  have ou3 := ouV.kept hgq (by cases hv : (Value.slice au tt.length cu).ownBlock with | none => exact .inl rfl | some j => exact .inr (by have := (ouV.lt j hv).1; simp; omega))
  clear hgq hst3 hBV ovV ouV m0' m5'
  by_cases hr : r = 0
  · have hr' : (r == 0) = true := by simpa using hr
    clear hr
    go_wp2
    go_region_law (first
      | (refine step_call (by rfl) 91 #[.pointer (some ⟨w.heap.size + 1, 0, none⟩), .int .i64 2] (by first | rfl | kernel_rfl) (pick_any (w.heap.size + 1) a n' c' (p2 + 1) 2 V4.drew hst4.drew (by omega) (by omega) (by omega) (by omega)) ?_; rintro e w5 ⟨r2, rfl, y0, y1, hst5, hg4⟩; refine ⟨_, rfl, ?_⟩; have hgp : V4.grownBy w5 (some (w.heap.size + 1)) := ⟨hg4.os, hg4.tape, hg4.output, hg4.size, hg4.block⟩; have m0 : some w.heap.size ≠ some (w.heap.size + 1) := (by simp); have m5 : some B5 ≠ some (w.heap.size + 1) := (by simp; omega); have e0 := hgp.cell t0 m5; have e1 := hgp.cell t1 m5; have z0 := hgp.cell s0 m0; have z1 := hgp.cell s1 m0; have zf : ∀ o, w5.frozen? ⟨w.heap.size, o, none⟩ = false := (fun o => (hgp.frozen_far ⟨w.heap.size, o, none⟩ (by simp; omega) m0).trans (sf o)); obtain ⟨m, rfl⟩ : ∃ m : Nat, r2 = m := ⟨r2.toNat, by omega⟩; have hwm : IntKind.i64.wrap (5000 + (m : Int)) = 5000 + (m : Int) := dr_wrap (by omega) (by omega); have hMany : ∀ W, Calls Try.prog 92 #[.string ⟨#[101]⟩, .int .i64 (5000 + (m : Int))] W fun e w' => ∃ T : ByteArray, e = .returned (.string T) ∧ T.size = 1 * (5000 + m) ∧ w' = W := (fun W => by have h9 := l1Many_any ⟨#[101]⟩ (5000 + m) W (by decide) (by show 1 * (5000 + m) ≤ 100000; omega); rw [show ((5000 + m : Nat) : Int) = 5000 + (m : Int) by omega] at h9; exact h9))
      | (refine step_call (by rfl) 92 #[.string ⟨#[101]⟩, .int .i64 (5000 + (m : Int))] (by first | rfl | kernel_rfl) (hMany _) ?_; rintro e w9 ⟨s, rfl, hs, hw9⟩; refine ⟨_, rfl, ?_⟩; rw [hw9]))
    all_goals
      have hB4 : Below w.heap.size w w5 := hB4'.grown hgp (by omega) (fun j hj => by cases hj; omega)
      have ov4 := ov3.kept hgp (by cases hv : (Value.slice av ss.length cv).ownBlock with | none => exact .inl rfl | some j => exact .inr (by have := (ov3.lt j hv).1; simp; omega))
      have ou4 := ou3.kept hgp (by cases hv : (Value.slice au tt.length cu).ownBlock with | none => exact .inl rfl | some j => exact .inr (by have := (ou3.lt j hv).1; simp; omega))
      have HF : Hid _ := And.intro ov4 (And.intro ou4 hB4)
      clear ov4 ou4 hB4 hgp hg4 ov3 ou3 hB4' hst4
      go_wp2
      refine bodyPost_ret (v := .tuple #[.agg #[.slice av ss.length cv, .slice au tt.length cu], .string s]) (by simp [results, Try.results41, go_sem, z0, z1]) rfl (PairDrawn.mk ⟨_, _, _, ss, tt, rfl, ?_, ?_, hlen, hsz, ⟨s, rfl, by omega⟩, ?_⟩)
      · exact (ownsRow_setCell_below (ownsRow_setCell_below HF.out.1 (a := ⟨w.heap.size, 0, none⟩) (by simp; omega) _) (a := ⟨w.heap.size, 1, none⟩) (by simp; omega) _).mono (by omega)
      · exact (ownsRow_setCell_below (ownsRow_setCell_below HF.out.2.1 (a := ⟨w.heap.size, 0, none⟩) (by simp; omega) _) (a := ⟨w.heap.size, 1, none⟩) (by simp; omega) _).mono (by omega)
      · exact (HF.out.2.2.setCell (p := ⟨w.heap.size, 0, none⟩) (by simp) _).setCell (p := ⟨w.heap.size, 1, none⟩) (by simp) _
  have hr' : (r == 0) = false := by simpa using hr
  clear hr
  go_wp2
  go_region_law (first
    | (refine step_call (by rfl) 93 #[.pointer (some ⟨w.heap.size + 1, 0, none⟩)] (by first | rfl | kernel_rfl) (l1Text_any (w.heap.size + 1) a n' c' (p2 + 1) V4.drew hst4.drew (by omega) (by omega)) ?_; rintro e w5 ⟨s, rfl, hs, hd5⟩; refine ⟨_, rfl, ?_⟩; have hg4 := hd5.gr; have hgp : V4.grownBy w5 (some (w.heap.size + 1)) := ⟨hg4.os, hg4.tape, hg4.output, hg4.size, hg4.block⟩; have m0 : some w.heap.size ≠ some (w.heap.size + 1) := (by simp); have m5 : some B5 ≠ some (w.heap.size + 1) := (by simp; omega); have e0 := hgp.cell t0 m5; have e1 := hgp.cell t1 m5; have z0 := hgp.cell s0 m0; have z1 := hgp.cell s1 m0; have zf : ∀ o, w5.frozen? ⟨w.heap.size, o, none⟩ = false := (fun o => (hgp.frozen_far ⟨w.heap.size, o, none⟩ (by simp; omega) m0).trans (sf o))))
  all_goals
    have hB4 : Below w.heap.size w w5 := hB4'.grown hgp (by omega) (fun j hj => by cases hj; omega)
    have ov4 := ov3.kept hgp (by cases hv : (Value.slice av ss.length cv).ownBlock with | none => exact .inl rfl | some j => exact .inr (by have := (ov3.lt j hv).1; simp; omega))
    have ou4 := ou3.kept hgp (by cases hv : (Value.slice au tt.length cu).ownBlock with | none => exact .inl rfl | some j => exact .inr (by have := (ou3.lt j hv).1; simp; omega))
    have HF : Hid _ := And.intro ov4 (And.intro ou4 hB4)
    clear ov4 ou4 hB4 hgp hg4 ov3 ou3 hB4' hst4
    go_wp2
    refine bodyPost_ret (v := .tuple #[.agg #[.slice av ss.length cv, .slice au tt.length cu], .string s]) (by simp [results, Try.results41, go_sem, z0, z1]) rfl (PairDrawn.mk ⟨_, _, _, ss, tt, rfl, ?_, ?_, hlen, hsz, ⟨s, rfl, by omega⟩, ?_⟩)
    · exact (ownsRow_setCell_below (ownsRow_setCell_below HF.out.1 (a := ⟨w.heap.size, 0, none⟩) (by simp; omega) _) (a := ⟨w.heap.size, 1, none⟩) (by simp; omega) _).mono (by omega)
    · exact (ownsRow_setCell_below (ownsRow_setCell_below HF.out.2.1 (a := ⟨w.heap.size, 0, none⟩) (by simp; omega) _) (a := ⟨w.heap.size, 1, none⟩) (by simp; omega) _).mono (by omega)
    · exact (HF.out.2.2.setCell (p := ⟨w.heap.size, 0, none⟩) (by simp) _).setCell (p := ⟨w.heap.size, 1, none⟩) (by simp) _

end Go.Proofs.Ytdecihmplkgfkaa
