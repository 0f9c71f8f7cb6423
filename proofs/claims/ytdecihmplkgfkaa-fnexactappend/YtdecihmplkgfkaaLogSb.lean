/-
  spec.Append where it puts the entry behind the rest.
-/
import Derived.Test.YtdecihmplkgfkaaLogSa
import Derived.Test.YtdecihmplkgfkaaLogL
import Derived.OneCell
namespace Go.Proofs.Ytdecihmplkgfkaa
open Go.ChangeShapes Go.WideShapes Go.ChangeAt Go.RowKit
attribute [local go_sem ↓] Go.wp_at_zero Go.wp_at_succ

set_option maxRecDepth 20000 in
set_option maxHeartbeats 8000000 in
theorem sAppend_go (g h c d : Nat) (ss tt : List ByteArray) (en : ByteArray) (w : World) (hr : SRow w w.heap.size (some ⟨g, 0, none⟩) ss) (hq : SRow w w.heap.size (some ⟨h, 0, none⟩) tt) (hl : ss.length ≤ 1048576) (hl' : tt.length ≤ 1048576)
    (hs : ∀ s ∈ ss, s.size ≤ 1048576) (hs' : ∀ s ∈ tt, s.size ≤ 1048576) (hok : okLog ss tt = true) (he : en.size ≤ 5000) (hn : ¬ 4000 ≤ ss.length + tt.length) :
    Calls Try.prog 39 #[.agg #[.slice (some ⟨g, 0, none⟩) ss.length c, .slice (some ⟨h, 0, none⟩) tt.length d], .string en] w fun e w' => ∃ v u, e = .returned (.tuple #[.agg #[v, u], .int .i64 0]) ∧
      w'.ownsRow w.heap.size 9 1 v ss.length (ss.map Value.string) ∧ w'.ownsRow w.heap.size 9 1 u (tt ++ [en]).length ((tt ++ [en]).map Value.string) ∧ Below w.heap.size w w' := by
  obtain ⟨i0, hi, hz0, hz1, hz2⟩ := info_parts Try.infoStr
  have hbA : Below w.heap.size w ((w.alloc (.cells #[.slice (some ⟨g, 0, none⟩) ss.length c, .slice (some ⟨h, 0, none⟩) tt.length d] 40)).alloc (.cells #[.slice none 0 0, .slice none 0 0] 40)) := ((Below.refl _ _).alloc (Nat.le_refl _) _).alloc (by simp) _
  have he' : decide ((5000 : Int) < (en.size : Int)) = false := by simp; omega
  have hne : decide ((4000 : Int) ≤ (ss.length : Int) + tt.length) = false := by simp; omega
  go_enter Try.func39, Try.ntmps39
  go_wp2_with fail
  refine (sValidLog_any _ _ c d ss tt _ _ (Nat.le_refl _) (hr.below' hbA) (hq.below' hbA) hl hl' hs hs').mono ?_
  rintro e w1 ⟨rfl, hb1⟩
  have hB1 := hbA.trans (hb1.mono (by simp; omega))
  have hz1' := hb1.size
  simp at hz1'
  have c0 : w1.cell? ⟨w.heap.size, 0, none⟩ = some (.slice (some ⟨g, 0, none⟩) ss.length c) := by rw [hb1.cell (p := ⟨w.heap.size, 0, none⟩) (by simp; omega)]; simp [go_sem]
  have c1 : w1.cell? ⟨w.heap.size, 1, none⟩ = some (.slice (some ⟨h, 0, none⟩) tt.length d) := by rw [hb1.cell (p := ⟨w.heap.size, 1, none⟩) (by simp; omega)]; simp [go_sem]
  have r0 : w1.cell? ⟨w.heap.size + 1, 0, none⟩ = some (.slice none 0 0) := by rw [hb1.cell (p := ⟨w.heap.size + 1, 0, none⟩) (by simp)]; simp [go_sem]
  have r1 : w1.cell? ⟨w.heap.size + 1, 1, none⟩ = some (.slice none 0 0) := by rw [hb1.cell (p := ⟨w.heap.size + 1, 1, none⟩) (by simp)]; simp [go_sem]
  have f0 : ∀ o, w1.frozen? ⟨w.heap.size + 1, o, none⟩ = false := fun o => by rw [hb1.frozen (p := ⟨w.heap.size + 1, o, none⟩) (by simp)]; simp [go_sem]
  have HR : Hid _ := And.intro hr hq
  clear hb1 hr hq hs hs'
  rw [hok]
  go_wp2_with fail
  refine (l2Log_any g h c d ss tt w1 (HR.out.1.below' hB1) (HR.out.2.below' hB1) hl hl').mono ?_
  rintro e w2 ⟨x, cx, y, cy, rfl, ox, oy, hxy, hb2⟩
  have hB2 := hB1.trans (hb2.mono hB1.size)
  have hz2' := hb2.size
  have q0 := (hb2.cell (p := ⟨w.heap.size + 1, 0, none⟩) (by simp; omega)).trans r0
  have q1 := (hb2.cell (p := ⟨w.heap.size + 1, 1, none⟩) (by simp; omega)).trans r1
  have qf : ∀ o, w2.frozen? ⟨w.heap.size + 1, o, none⟩ = false := fun o => (hb2.frozen (p := ⟨w.heap.size + 1, o, none⟩) (by simp; omega)).trans (f0 o)
  clear hb2 c0 c1 r0 r1 f0
  have lx := ox.lt x rfl
  have ly := oy.lt y rfl
  go_wp2_with (first
    | (at_builtin; refine wpList_append_lies _ rfl _ _ 24 rfl w1.heap.size 9 i0 (.string ⟨#[]⟩) 1 16 Try.underlying24 hi hz0 hz1 hz2 rfl (by decide) _ tt.length (tt.map Value.string) rfl ?d0 ⟨w2.heap.size + 1, 0, none⟩ 1 1 [.string en] rfl rfl ?d1 ?d2 (by decide) ?d3 ?d4 ?d5 _ rfl ?_)
    | go_in)
  case d0 => exact (oy.alloc _).alloc _
  case d1 =>
    have := cell_one_new (w2.alloc (.cells #[.slice (some ⟨x, 0, none⟩) ss.length cx, .slice (some ⟨y, 0, none⟩) tt.length cy] 40)) (.string en) 9
    rw [World.size_alloc] at this
    exact this
  case d2 => intro u hu; simp at hu; subst hu; rfl
  case d3 => unfold maxLen; omega
  case d4 => omega
  case d5 => simp; omega
  intro k cap w3 ho3 hg3 hat3 hlt3
  have hBV : Below w2.heap.size w2 ((w2.alloc (.cells #[.slice (some ⟨x, 0, none⟩) ss.length cx, .slice (some ⟨y, 0, none⟩) tt.length cy] 40)).alloc (.cells #[.string en] 9)) := ((Below.refl _ _).alloc (Nat.le_refl _) _).alloc (by simp) _
  have hz3 := hg3.size
  simp [Value.ownBlock] at hz3 hat3
  have hox : w3.ownsRow w1.heap.size 9 1 (.slice (some ⟨x, 0, none⟩) ss.length cx) ss.length (ss.map Value.string) := ((ox.alloc _).alloc _).kept hg3 (.inr (by simp [Value.ownBlock]; omega))
  have s0 : w3.cell? ⟨w2.heap.size, 0, none⟩ = some (.slice (some ⟨x, 0, none⟩) ss.length cx) := hg3.cell (by simp [go_sem]) (by simp [Value.ownBlock]; omega)
  have s1 : w3.cell? ⟨w2.heap.size, 1, none⟩ = some (.slice (some ⟨y, 0, none⟩) tt.length cy) := hg3.cell (by simp [go_sem]) (by simp [Value.ownBlock]; omega)
  have sf : ∀ o, w3.frozen? ⟨w2.heap.size, o, none⟩ = false := fun o => (hg3.frozen_far ⟨w2.heap.size, o, none⟩ (by simp; omega) (by simp [Value.ownBlock]; omega)).trans (by simp [go_sem])
  have y0 := hg3.cell ((hBV.cell (p := ⟨w.heap.size + 1, 0, none⟩) (by simp; omega)).trans q0) (by simp [Value.ownBlock]; omega)
  have y1 := hg3.cell ((hBV.cell (p := ⟨w.heap.size + 1, 1, none⟩) (by simp; omega)).trans q1) (by simp [Value.ownBlock]; omega)
  have yf : ∀ o, w3.frozen? ⟨w.heap.size + 1, o, none⟩ = false := fun o => (hg3.frozen_far ⟨w.heap.size + 1, o, none⟩ (by simp; omega) (by simp [Value.ownBlock]; omega)).trans ((hBV.frozen (p := ⟨w.heap.size + 1, o, none⟩) (by simp; omega)).trans (qf o))
  have hB3 : Below w.heap.size w w3 := (hB2.trans (hBV.mono hB2.size)).grown hg3 (by simp; omega) (fun j hj => by simp [Value.ownBlock] at hj; omega)
  have hxk : x ≠ k := by omega
  have hko := (ho3.lt k rfl).1
  have HF : Hid _ := And.intro ho3 (And.intro hox (And.intro hxk hB3))
  have hN1 : ¬ w2.heap.size = w.heap.size + 1 := by omega
  have hN2 : ¬ w.heap.size + 1 = w2.heap.size := by omega
  clear ho3 hox hB3 hg3 hBV q0 q1 qf ox oy
  go_wp2
  refine bodyPost_ret (v := .tuple #[.agg #[.slice (some ⟨x, 0, none⟩) ss.length cx, .slice (some ⟨k, 0, none⟩) (tt.length + 1) cap], .int .i64 0]) (by simp [results, Try.results39, go_sem, y0, y1]) rfl ⟨.slice (some ⟨x, 0, none⟩) ss.length cx, .slice (some ⟨k, 0, none⟩) (tt ++ [en]).length cap, by simp, ?_, ?_, ?_⟩
  · exact (ownsRow_setCell_below (ownsRow_setCell_below (ownsRow_setCell_other HF.out.2.1 (a := ⟨w2.heap.size, 1, none⟩) (by simp [Value.ownBlock]; omega) _) (a := ⟨w.heap.size + 1, 0, none⟩) (by simp; omega) _) (a := ⟨w.heap.size + 1, 1, none⟩) (by simp; omega) _).mono (by omega)
  · have := (ownsRow_setCell_below (ownsRow_setCell_below (ownsRow_setCell_other HF.out.1 (a := ⟨w2.heap.size, 1, none⟩) (by simp [Value.ownBlock]; omega) (.slice (some ⟨k, 0, none⟩) (tt.length + 1) cap)) (a := ⟨w.heap.size + 1, 0, none⟩) (by simp; omega) (.slice (some ⟨x, 0, none⟩) ss.length cx)) (a := ⟨w.heap.size + 1, 1, none⟩) (by simp; omega) (.slice (some ⟨k, 0, none⟩) (tt.length + 1) cap)).mono (show w.heap.size ≤ w1.heap.size by omega)
    simpa using this
  · exact ((HF.out.2.2.2.setCell (p := ⟨w2.heap.size, 1, none⟩) (by simp; omega) _).setCell (p := ⟨w.heap.size + 1, 0, none⟩) (by simp) _).setCell (p := ⟨w.heap.size + 1, 1, none⟩) (by simp) _

end Go.Proofs.Ytdecihmplkgfkaa
