/-
  impl.ReadEntry.
-/
import Derived.Test.YtdecihmplkgfkaaDoorEntV
import Derived.Test.YtdecihmplkgfkaaDoorEntP
namespace Go.Proofs.YtdecihmplkgfkaaDoor
open Go.ChangeShapes Go.WideShapes Go.ChangeAt Go.RowKit

/-- ReadEntry's answer, in memory. -/
def ReadEPost (s : ByteArray) (wd : Int) (w : World) (e : Ending) (w' : World) : Prop :=
  ∃ v, e = .returned (.tuple #[.agg #[.int .i64 (rdE s wd).k, .string (rdE s wd).sum, .string (rdE s wd).name, .int .i64 (rdE s wd).n, .string (rdE s wd).t, v], .bool (rdE s wd).ok]) ∧
    w'.ownsRow w.heap.size 9 1 v (rdE s wd).ss.length ((rdE s wd).ss.map Value.string) ∧ Below w.heap.size w w'

theorem below_but {w w' : World} {b : Nat} (h : w.grownBy w' (some b)) (hb : w.heap.size ≤ b) : Below w.heap.size w w' :=
  ⟨h.os, h.tape, h.output, h.size, fun k hk => h.block k hk (fun e => by have := Option.some.inj e; omega)⟩

set_option maxRecDepth 20000 in
set_option maxHeartbeats 4000000 in
theorem iReadE_any (s : ByteArray) (wd : Int) (w : World) (hs : s.size ≤ 1048576) (he : Env w) :
    Calls Tryd.prog 12 #[.string s, .int .i64 wd] w (ReadEPost s wd w) := by
  obtain ⟨W0, hW0⟩ : ∃ W0, W0 = w.alloc (.cells #[.int .i64 0, .string ⟨#[]⟩, .string ⟨#[]⟩, .int .i64 0, .string ⟨#[]⟩, .slice none 0 0] 31) := ⟨_, rfl⟩
  have h00 : Below w.heap.size w W0 := by rw [hW0]; exact (Below.refl _ _).alloc (Nat.le_refl _) _
  have hz0 : W0.heap.size = w.heap.size + 1 := by rw [hW0]; simp
  have R0 : CellsAt W0 w.heap.size [.int .i64 0, .string ⟨#[]⟩, .string ⟨#[]⟩, .int .i64 0, .string ⟨#[]⟩, .slice none 0 0] := by rw [hW0]; exact CellsAt.new w _ _
  obtain ⟨W1, hW1⟩ : ∃ W1, W1 = W0.alloc (.cells #[.string s, .int .i64 0, .nilIface] 65) := ⟨_, rfl⟩
  have h01 : Below W0.heap.size W0 W1 := by rw [hW1]; exact (Below.refl _ _).alloc (Nat.le_refl _) _
  have hz1 : W0.heap.size < W1.heap.size := by rw [hW1]; simp
  have R1 : Hid (CellsAt W1 w.heap.size [.int .i64 0, .string ⟨#[]⟩, .string ⟨#[]⟩, .int .i64 0, .string ⟨#[]⟩, .slice none 0 0]) := R0.below h01
  have hB1 : Below w.heap.size w W1 := h00.trans (h01.mono h00.size)
  have e1 : Hid (Env W1) := he.below hB1
  have ha : Hid (Above W0.heap.size) := fun g hg => by have := he.lt g hg; omega
  have x1 : Hid (RSt W1 W0.heap.size s 0 false) := by
    refine ⟨none, rfl, ?_⟩
    have := CellsAt.new W0 [.string s, .int .i64 0, .nilIface] 65
    rw [← hW1] at this
    exact ⟨(this 0 _ rfl).1, (this 1 _ rfl).1, (this 2 _ rfl).1, (this 0 _ rfl).2, (this 1 _ rfl).2, (this 2 _ rfl).2⟩
  have HW0 : Hid _ := hW0
  have HW1 : Hid _ := hW1
  obtain ⟨b, hb⟩ : ∃ b, b = W0.heap.size := ⟨_, rfl⟩
  have hbw : w.heap.size < b := by omega
  have HB : Hid _ := hb
  rw [← hb] at ha x1 hz1
  clear hW0 hW1 he R0 hb h00 h01
  go_enter Tryd.func12, Tryd.ntmps12
  go_upto_region 2 with fail
  rw [← HW0.out, ← HW1.out, ← hz0, ← HB.out]
  clear HW0 HW1 HB hz0
  go_wp2_with fail
  refine (entry_any b s wd W1 x1.out e1.out ha.out hs).mono ?_
  rintro e w2 ⟨v, rfl, ho, hr2, g2⟩
  obtain ⟨ra, rc, hv, _⟩ := own_form ho
  subst hv
  have hz2 := g2.size
  obtain ⟨W3, hW3⟩ : ∃ W3, W3 = w2.alloc (.cells #[.int .i64 (e_k s wd), .string (e_t5 s wd).1, .string (e_t4 s wd).1, .int .i64 (e_n s wd), .string (e_th s wd).1, .slice ra (e_th s wd).2.length rc] 31) := ⟨_, rfl⟩
  have h23 : Below w2.heap.size w2 W3 := by rw [hW3]; exact (Below.refl _ _).alloc (Nat.le_refl _) _
  have hz3 : w2.heap.size + 1 = W3.heap.size := by rw [hW3]; simp
  have Z3 : CellsAt W3 w2.heap.size [.int .i64 (e_k s wd), .string (e_t5 s wd).1, .string (e_t4 s wd).1, .int .i64 (e_n s wd), .string (e_th s wd).1, .slice ra (e_th s wd).2.length rc] := by rw [hW3]; exact CellsAt.new w2 _ _
  obtain ⟨W4, hW4⟩ : ∃ W4, W4 = W3.alloc (.cells #[.pointer none] 67) := ⟨_, rfl⟩
  have h34 : Below W3.heap.size W3 W4 := by rw [hW4]; exact (Below.refl _ _).alloc (Nat.le_refl _) _
  have hz4 : W3.heap.size < W4.heap.size := by rw [hW4]; simp
  have P4 : CellsAt W4 W3.heap.size [.pointer none] := by rw [hW4]; exact CellsAt.new W3 _ _
  have Z4 := Z3.below h34
  have h24 : Below w2.heap.size w2 W4 := h23.trans (h34.mono h23.size)
  have R4 := (R1.out.far' g2 (show b ≠ w.heap.size by omega)).below h24
  have e4 := (e1.out.but g2 ha.out).below h24
  have r4 := hr2.below h24
  have o4 := (ho.kept (grown_below none h24) (Classical.em _))
  have B4 : Below w.heap.size w W4 := hB1.trans (Below.trans (B := w.heap.size) ⟨g2.os, g2.tape, g2.output, g2.size, fun k hk => g2.block k (by omega) (fun e => by have := Option.some.inj e; omega)⟩ (h24.mono (by omega)))
  have HW3 : Hid _ := hW3
  have HW4 : Hid _ := hW4
  have HC : Hid _ := And.intro e4 (And.intro o4 B4)
  obtain ⟨tb, htb⟩ : ∃ tb, tb = W3.heap.size := ⟨_, rfl⟩
  rw [← htb] at P4
  have HTB : Hid (tb = W3.heap.size) := htb
  have hwt : w2.heap.size < tb := by omega
  clear htb
  clear hW3 hW4 h23 h34 h24 Z3 ho hr2 g2 e4 o4 B4 R1 e1 x1
  go_upto_region 4 with fail
  rw [← HW3.out, ← HW4.out, ← HTB.out]
  clear HW3 HW4 HTB hz3 hz4
  have hbt : b < tb := by omega
  have hrt : w.heap.size < tb := by omega
  obtain ⟨er, her, y0, y1, y2, _, _, _⟩ := r4
  cases er with
  | none =>
    have hb9 : Hid (e_b9 s wd = false) := her.symm
    simp only [errV] at y2
    go_wp2_with fail
    refine (as_nil _ W4).mono ?_
    rintro e w5 ⟨rfl, hw5⟩
    rw [hw5]
    clear hw5 w5
    obtain ⟨z0, _⟩ := Z4 0 _ rfl
    obtain ⟨z1, _⟩ := Z4 1 _ rfl
    obtain ⟨z2, _⟩ := Z4 2 _ rfl
    obtain ⟨z3, _⟩ := Z4 3 _ rfl
    obtain ⟨z4, _⟩ := Z4 4 _ rfl
    obtain ⟨z5, _⟩ := Z4 5 _ rfl
    obtain ⟨r0, q0⟩ := R4 0 _ rfl
    obtain ⟨r1, q1⟩ := R4 1 _ rfl
    obtain ⟨r2, q2⟩ := R4 2 _ rfl
    obtain ⟨r3, q3⟩ := R4 3 _ rfl
    obtain ⟨r4, q4⟩ := R4 4 _ rfl
    obtain ⟨r5, q5⟩ := R4 5 _ rfl
    clear Z4 R4 P4 y0 y1 y2 her
    go_wp2
    refine bodyPost_ret (v := .tuple #[.agg #[.int .i64 (e_k s wd), .string (e_t5 s wd).1, .string (e_t4 s wd).1, .int .i64 (e_n s wd), .string (e_th s wd).1, .slice ra (e_th s wd).2.length rc], .bool true]) (by simp [results, Tryd.results12, go_sem, *]) rfl ?_
    have hE : rdE s wd = ⟨e_k s wd, (e_t5 s wd).1, (e_t4 s wd).1, e_n s wd, (e_th s wd).1, (e_th s wd).2, true⟩ := by
      unfold rdE
      rw [if_neg (by rw [hb9.out]; decide)]
    unfold ReadEPost
    rw [hE]
    have hlt : w.heap.size < W1.heap.size := by omega
    refine ⟨_, rfl, ?_, ?_⟩
    · refine World.ownsRow.mono ?_ (Nat.le_of_lt hlt)
      iterate 6 (refine ownsRow_setCell_below ?_ hlt _)
      exact HC.out.2.1
    · iterate 6 (refine Below.setCell ?_ (show w.heap.size ≤ w.heap.size from Nat.le_refl _) _)
      exact HC.out.2.2
  | some q =>
    have hb9 : Hid (e_b9 s wd = true) := her.symm
    simp only [errV] at y2
    go_wp2_with fail
    refine (as_hit q tb (.pointer none) W4 HC.out.1.ety (P4 0 _ rfl).1 (P4 0 _ rfl).2).mono ?_
    rintro e w5 ⟨rfl, hb5⟩
    have h0 : ∀ j v, W4.cell? ⟨w.heap.size, j, none⟩ = some v → w5.cell? ⟨w.heap.size, j, none⟩ = some v := fun j v h => (hb5.cell (p := ⟨w.heap.size, j, none⟩) hrt).trans h
    have h1 : ∀ j, W4.frozen? ⟨w.heap.size, j, none⟩ = false → w5.frozen? ⟨w.heap.size, j, none⟩ = false := fun j h => (hb5.frozen (p := ⟨w.heap.size, j, none⟩) hrt).trans h
    have r0 := h0 0 _ (R4 0 _ rfl).1
    have r1 := h0 1 _ (R4 1 _ rfl).1
    have r2 := h0 2 _ (R4 2 _ rfl).1
    have r3 := h0 3 _ (R4 3 _ rfl).1
    have r4 := h0 4 _ (R4 4 _ rfl).1
    have r5 := h0 5 _ (R4 5 _ rfl).1
    have q0 := h1 0 (R4 0 _ rfl).2
    have q1 := h1 1 (R4 1 _ rfl).2
    have q2 := h1 2 (R4 2 _ rfl).2
    have q3 := h1 3 (R4 3 _ rfl).2
    have q4 := h1 4 (R4 4 _ rfl).2
    have q5 := h1 5 (R4 5 _ rfl).2
    have B5 : Hid _ := HC.out.2.2.trans (hb5.mono (Nat.le_of_lt hrt))
    clear h0 h1 Z4 R4 P4 y0 y1 y2 her hb5
    go_wp2
    refine bodyPost_ret (v := .tuple #[.agg #[.int .i64 0, .string ⟨#[]⟩, .string ⟨#[]⟩, .int .i64 0, .string ⟨#[]⟩, .slice none 0 0], .bool false]) (by simp [results, Tryd.results12, go_sem, *]) rfl ?_
    have hE : rdE s wd = erNo := by
      unfold rdE
      rw [if_pos hb9.out]
    unfold ReadEPost
    rw [hE]
    refine ⟨.slice none 0 0, rfl, World.ownsRow_nil _ _ _ _, ?_⟩
    iterate 6 (refine Below.setCell ?_ (show w.heap.size ≤ w.heap.size from Nat.le_refl _) _)
    exact B5.out
end Go.Proofs.YtdecihmplkgfkaaDoor
