/-
  laws.FnExactFormEntry: the walk.
-/
import Derived.Test.YtdecihmplkgfkaaDoorEntTab
import Derived.Deep.RegionWith
namespace Go.Proofs.YtdecihmplkgfkaaDoor
namespace ExactFormEntry
open Go.ChangeShapes Go.WideShapes Go.ChangeAt Go.RowKit

/-- The six cells of an entry's box. -/
structure Box (W : World) (B : Nat) (k : Int) (sum name : ByteArray) (n : Int) (t : ByteArray) (v : Value) : Prop where
  x0 : W.cell? ⟨B, 0, none⟩ = some (.int .i64 k)
  x1 : W.cell? ⟨B, 1, none⟩ = some (.string sum)
  x2 : W.cell? ⟨B, 2, none⟩ = some (.string name)
  x3 : W.cell? ⟨B, 3, none⟩ = some (.int .i64 n)
  x4 : W.cell? ⟨B, 4, none⟩ = some (.string t)
  x5 : W.cell? ⟨B, 5, none⟩ = some v

theorem Box.below {W W' : World} {B : Nat} {k : Int} {sum name : ByteArray} {n : Int} {t : ByteArray} {v : Value} (h : Box W B k sum name n t v) (hb : Below W.heap.size W W') : Box W' B k sum name n t v := by
  have hl : B < W.heap.size := World.block_lt_of_cell? W _ h.x0
  exact ⟨(hb.cell (p := ⟨B, 0, none⟩) hl).trans h.x0, (hb.cell (p := ⟨B, 1, none⟩) hl).trans h.x1, (hb.cell (p := ⟨B, 2, none⟩) hl).trans h.x2, (hb.cell (p := ⟨B, 3, none⟩) hl).trans h.x3, (hb.cell (p := ⟨B, 4, none⟩) hl).trans h.x4, (hb.cell (p := ⟨B, 5, none⟩) hl).trans h.x5⟩

theorem Box.lt {W : World} {B : Nat} {k : Int} {sum name : ByteArray} {n : Int} {t : ByteArray} {v : Value} (h : Box W B k sum name n t v) : B < W.heap.size := World.block_lt_of_cell? W _ h.x0

theorem Box.new (w : World) (k : Int) (sum name : ByteArray) (n : Int) (t : ByteArray) (v : Value) (T : TypeId) : Box (w.alloc (.cells #[.int .i64 k, .string sum, .string name, .int .i64 n, .string t, v] T)) w.heap.size k sum name n t v := by
  constructor <;> simp

set_option maxHeartbeats 2000000 in
theorem walk (k : Int) (sum name : ByteArray) (n : Int) (t : ByteArray) (a : Option Addr) (cap : Nat) (ss : List ByteArray) (wd : Int) (w : World) (hT : Tab w) (hrow : SRow w w.heap.size a ss)
    (hsu : sum.size ≤ maxLen) (hna : name.size ≤ maxLen) (ht : t.size ≤ maxLen) (hl : ss.length ≤ maxLen) (hs : ∀ s ∈ ss, s.size ≤ maxLen) :
    Calls Tryd.prog 3 #[.agg (entV k sum name n t a ss.length cap), .int .i64 wd] w fun e w' => e = .returned (.bool true) ∧ Below w.heap.size w w' := by
  have hb0 : Below w.heap.size w (w.alloc (.cells (entV k sum name n t a ss.length cap) 26)) := (Below.refl _ _).alloc (Nat.le_refl _) _
  by_cases hfit : (sum.size : Int) + name.size + t.size + ss.length + bulk ss ≤ 1048576
  · go_enter Tryd.func3, Tryd.ntmps3
    go_wp2_with fail
    refine (szEntry_yes k sum name n t a cap ss _ (hrow.below' hb0) hfit).mono ?_
    rintro e w1 ⟨rfl, hb1⟩
    have hB1 := hb0.trans (hb1.mono (by simp))
    have hX1 := (Box.new w k sum name n t (.slice a ss.length cap) 26).below hb1
    have hnn : 0 ≤ 1048576 - (sum.size : Int) - name.size - t.size - ss.length - bulk ss := by omega
    generalize 1048576 - (sum.size : Int) - name.size - t.size - ss.length - bulk ss = L at *
    obtain ⟨x0, x1, x2, x3, x4, x5⟩ := hX1
    go_wp2_with fail
    refine (toEntry_any k sum name n t a cap ss _ (hrow.below' hB1) (by omega)).mono ?_
    rintro e w2 ⟨g, rfl, hg, hown, hb2⟩
    have hrow2 := SRow.own hown
    have hB2 := hB1.trans (hb2.mono hB1.size)
    have hX2 := (Box.mk x0 x1 x2 x3 x4 x5).below hb2
    clear x0 x1 x2 x3 x4 x5 hown
    go_wp2_with fail
    refine (sFormE k sum name n t _ _ ss wd _ hrow2 (by omega) ht hna).mono ?_
    rintro e w3 ⟨rfl, hb3⟩
    have hB3 := hB2.trans (hb3.mono hB2.size)
    have hX3 := hX2.below hb3
    obtain ⟨T, hT0⟩ : ∃ T, T = entTxt k sum name n t ss wd := ⟨_, rfl⟩
    rw [← hT0]
    have HT : Hid _ := hT0
    obtain ⟨x0, x1, x2, x3, x4, x5⟩ := hX3
    clear hT0 hX2 hrow2 hb2 hb3 hg
    go_wp2_with fail
    refine (toEntry_any k sum name n t a cap ss _ (hrow.below' hB3) (by omega)).mono ?_
    rintro e w4 ⟨g4, rfl, hg4, hown4, hb4⟩
    have hrow4 := SRow.own hown4
    have hB4 := hB3.trans (hb4.mono hB3.size)
    have hX4 := (Box.mk x0 x1 x2 x3 x4 x5).below hb4
    clear x0 x1 x2 x3 x4 x5 hown4
    obtain ⟨W5, hW5⟩ : ∃ W, W = w4.alloc (.cells (entV k sum name n t (some ⟨g4, 0, none⟩) ss.length ss.length) 31) := ⟨_, rfl⟩
    have hb5 : Below w4.heap.size w4 W5 := by rw [hW5]; exact (Below.refl _ _).alloc (Nat.le_refl _) _
    have hY5 : Box W5 w4.heap.size k sum name n t (.slice (some ⟨g4, 0, none⟩) ss.length ss.length) := by rw [hW5]; exact Box.new _ _ _ _ _ _ _ _
    have hX5 := hX4.below hb5
    have hB5 := hB4.trans (hb5.mono hB4.size)
    have hrow5 := hrow4.below' hb5
    have HW5 : Hid _ := hW5
    clear hW5
    go_wp2_with fail
    rw [← HW5.out]
    refine (iFormE k sum name n t _ _ ss wd W5 (hT.below hB5) hrow5 (by omega) ht hna).mono ?_
    rintro e w6 ⟨rfl, hb6⟩
    rw [← HT.out]
    have hX6 := hX5.below hb6
    have hY6 := hY5.below hb6
    have hB6 := hB5.trans (hb6.mono hB5.size)
    have hrow6 : SRow w6 w6.heap.size a ss := hrow.below' hB6
    have hrow46 := hrow5.below' hb6
    have lX := hX6.lt
    have lY := hY6.lt
    obtain ⟨x0, x1, x2, x3, x4, x5⟩ := hX6
    obtain ⟨y0, y1, y2, y3, y4, y5⟩ := hY6
    clear hX4 hX5 hY5 hb4 hb5 hb6 hg4 HT HW5 hb1 hB1 hB2 hB3 hB4 hB5 hrow hrow4 hrow5 hs hb0
    go_wp2_with fail
    go_region_with (first
      | (go_at_call 8; refine (toEntry_any k sum name n t a cap ss _ (by exact hrow6) (by omega)).mono ?_; rintro e w7 ⟨g7, rfl, hg7, hown7, hb7⟩; obtain ⟨z0, z1, z2, z3, z4, z5⟩ := Box.below (W := w6.drew) (Box.mk y0 y1 y2 y3 y4 y5) hb7; have hz7 := hb7.size; have hr7 := SRow.own hown7; have hr47 := SRow.below' (w := w6.drew) hrow46 hb7; have hB7 := hB6.drew.trans (hb7.mono (by exact hB6.size)))
      | (go_at_call 10; refine (eqEntry_yes k sum name n t _ _ _ _ ss _ hr47 hr7 (by omega)).mono ?_; rintro e w8 ⟨rfl, hb8⟩; have hB8 := hB7.trans (hb8.mono hB7.size)))
    all_goals go_wp2
    all_goals go_ret
    all_goals exact ⟨rfl, hB8⟩
  · go_enter Tryd.func3, Tryd.ntmps3
    go_wp2_with fail
    refine (szEntry_no k sum name n t a cap ss _ (hrow.below' hb0) hsu hna ht hl hs (by omega)).mono ?_
    rintro e w1 ⟨rfl, hb1⟩
    go_wp2
    go_ret
    exact ⟨rfl, hb0.trans (hb1.mono (by simp))⟩

end ExactFormEntry
end Go.Proofs.YtdecihmplkgfkaaDoor
