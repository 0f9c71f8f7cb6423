/-
  spec.l2Log: a log copied.
-/
import Derived.Test.YtdecihmplkgfkaaLogM
import Derived.Test.YtdecihmplkgfkaaLogA
import Derived.Test.YtdecihmplkgfkaaSteps
import Derived.Deep.RegionLaw
namespace Go.Proofs.Ytdecihmplkgfkaa
open Go.ChangeShapes Go.WideShapes Go.ChangeAt Go.RowKit

/-- What l2Log's frame has: the log's box, the answer's box. -/
structure LPt (w V : World) (u v : Value) : Prop where
  b0 : V.cell? ⟨w.heap.size, 0, none⟩ = some u
  b1 : V.cell? ⟨w.heap.size, 1, none⟩ = some v
  r0 : V.cell? ⟨w.heap.size + 1, 0, none⟩ = some (.slice none 0 0)
  r1 : V.cell? ⟨w.heap.size + 1, 1, none⟩ = some (.slice none 0 0)
  f : ∀ o, V.frozen? ⟨w.heap.size + 1, o, none⟩ = false
  bel : Below w.heap.size w V
  le : w.heap.size + 2 ≤ V.heap.size

theorem LPt.alloc {w V : World} {u v : Value} (h : LPt w V u v) (o : Obj) : LPt w (V.alloc o) u v := by
  have hb := (Below.refl V.heap.size V).alloc (Nat.le_refl _) o
  have := h.le
  exact ⟨(hb.cell (p := ⟨w.heap.size, 0, none⟩) (by simp; omega)).trans h.b0, (hb.cell (p := ⟨w.heap.size, 1, none⟩) (by simp; omega)).trans h.b1, (hb.cell (p := ⟨w.heap.size + 1, 0, none⟩) (by simp; omega)).trans h.r0, (hb.cell (p := ⟨w.heap.size + 1, 1, none⟩) (by simp; omega)).trans h.r1,
    fun o => (hb.frozen (p := ⟨w.heap.size + 1, o, none⟩) (by simp; omega)).trans (h.f o), h.bel.alloc h.bel.size o, by simp; omega⟩

theorem LPt.drew {w V : World} {u v : Value} (h : LPt w V u v) : LPt w V.drew u v := ⟨h.b0, h.b1, h.r0, h.r1, h.f, h.bel.drew, h.le⟩

theorem LPt.grown {w V V' : World} {u v : Value} {q : Nat} (h : LPt w V u v) (hg : V.grownBy V' (some q)) (hq : w.heap.size + 2 ≤ q) : LPt w V' u v := by
  have := h.le
  have := hg.size
  exact ⟨hg.cell h.b0 (by simp; omega), hg.cell h.b1 (by simp; omega), hg.cell h.r0 (by simp; omega), hg.cell h.r1 (by simp; omega),
    fun o => (hg.frozen_far ⟨w.heap.size + 1, o, none⟩ (by simp; omega) (by simp; omega)).trans (h.f o), h.bel.grown hg h.bel.size (fun k hk => by cases hk; omega), by omega⟩

set_option maxRecDepth 20000 in
set_option maxHeartbeats 8000000 in
theorem l2Log_any (g h c d : Nat) (ss tt : List ByteArray) (w : World) (hr : SRow w w.heap.size (some ⟨g, 0, none⟩) ss) (hq : SRow w w.heap.size (some ⟨h, 0, none⟩) tt) (hl : ss.length ≤ 1048576) (hl' : tt.length ≤ 1048576) :
    Calls Try.prog 86 #[.agg #[.slice (some ⟨g, 0, none⟩) ss.length c, .slice (some ⟨h, 0, none⟩) tt.length d]] w fun e w' => ∃ x cx y cy, e = .returned (.agg #[.slice (some ⟨x, 0, none⟩) ss.length cx, .slice (some ⟨y, 0, none⟩) tt.length cy]) ∧
      w'.ownsRow w.heap.size 9 1 (.slice (some ⟨x, 0, none⟩) ss.length cx) ss.length (ss.map Value.string) ∧ w'.ownsRow w.heap.size 9 1 (.slice (some ⟨y, 0, none⟩) tt.length cy) tt.length (tt.map Value.string) ∧ x ≠ y ∧ Below w.heap.size w w' := by
  obtain ⟨i0, hi, hz0, hz1, hz2⟩ := info_parts Try.infoStr
  have hbA : Below w.heap.size w ((w.alloc (.cells #[.slice (some ⟨g, 0, none⟩) ss.length c, .slice (some ⟨h, 0, none⟩) tt.length d] 40)).alloc (.cells #[.slice none 0 0, .slice none 0 0] 40)) := ((Below.refl _ _).alloc (Nat.le_refl _) _).alloc (by simp) _
  obtain ⟨W, hW⟩ : ∃ W, W = (w.alloc (.cells #[.slice (some ⟨g, 0, none⟩) ss.length c, .slice (some ⟨h, 0, none⟩) tt.length d] 40)).alloc (.cells #[.slice none 0 0, .slice none 0 0] 40) := ⟨_, rfl⟩
  have P : LPt w W (.slice (some ⟨g, 0, none⟩) ss.length c) (.slice (some ⟨h, 0, none⟩) tt.length d) := by
    rw [hW]
    exact ⟨by simp [go_sem], by simp [go_sem], by simp [go_sem], by simp [go_sem], fun o => by simp [go_sem], hbA, by simp⟩
  have HW : Hid _ := hW
  have HP : Hid _ := P
  go_enter Try.func86, Try.ntmps86
  go_wp2_with fail
  rw [← HW.out]
  obtain ⟨b0, b1, r0, r1, f0, _, hle⟩ := P
  obtain ⟨a0, a1, _, _, _, _, _⟩ := HP.out.alloc (.cells #[] 9)
  obtain ⟨aa0, aa1, _, _, _, _, _⟩ := (HP.out.alloc (.cells #[] 9)).alloc (.cells #[] 9)
  clear hW hbA HW
  have oA : (W.alloc (.cells #[] 9)).drew.ownsRow (w.heap.size + 2) 9 1 (.slice (some ⟨W.heap.size, 0, none⟩) 0 0) 0 (([] : List ByteArray).map Value.string) := World.ownsRow_lit W #[] 0 (by omega) (by unfold maxLen; omega) rfl
  have oAA0 : ((W.alloc (.cells #[] 9)).alloc (.cells #[] 9)).drew.ownsRow (w.heap.size + 2) 9 1 (.slice (some ⟨W.heap.size, 0, none⟩) 0 0) 0 (([] : List ByteArray).map Value.string) := World.ownsRow.alloc (World.ownsRow_lit W #[] 0 (by omega) (by unfold maxLen; omega) rfl) _
  have oAA1 : ((W.alloc (.cells #[] 9)).alloc (.cells #[] 9)).drew.ownsRow (w.heap.size + 2) 9 1 (.slice (some ⟨W.heap.size + 1, 0, none⟩) 0 0) 0 (([] : List ByteArray).map Value.string) := by
    have h1 := World.ownsRow_lit (base := w.heap.size + 2) (e := 9) (size := 1) (W.alloc (.cells #[] 9)) #[] 0 (by simp; omega) (by unfold maxLen; omega) rfl
    rw [World.size_alloc] at h1
    exact h1
  have hrA := (hr.below (HP.out.alloc (.cells #[] 9)).drew.bel).cells
  have hqA := (hq.below (HP.out.alloc (.cells #[] 9)).drew.bel).cells
  have hrAA := (hr.below ((HP.out.alloc (.cells #[] 9)).alloc (.cells #[] 9)).drew.bel).cells
  have hqAA := (hq.below ((HP.out.alloc (.cells #[] 9)).alloc (.cells #[] 9)).drew.bel).cells
  go_region_law (first
      | (guard_target = if Region.wanted _ _ = true then Oper.wp _ _ _ (W.alloc (.cells #[] 9)).drew _ _ else _; refine step_append_row2 (W.alloc (.cells #[] 9)).drew rfl (.tmp 3) (.tmp 5) 24 rfl (w.heap.size + 2) 9 i0 (.string ⟨#[]⟩) 16 Try.underlying24 hi hz0 hz1 hz2 rfl (W.heap.size) 0 0 [] rfl oA ⟨g, 0, none⟩ ss.length c ss rfl rfl hrA (by unfold maxLen; omega) (by omega) (by first | omega | (simp; omega)) ?_; intro k6 cap6 w6 ho6 hg6 hat6 hlt6; simp only [Nat.zero_add, List.nil_append] at ho6; have z6 := hg6.size; simp at z6 hat6; have x6 := (HP.out.alloc _).drew.grown hg6 (by omega); have c0 := x6.b0; have c1 := x6.b1; have d0 := (x6.alloc (.cells #[] 9)).b0; have d1 := (x6.alloc (.cells #[] 9)).b1; have tag6a := z6)
      | (guard_target = if Region.wanted _ _ = true then Oper.wp _ _ _ ((W.alloc (.cells #[] 9)).alloc (.cells #[] 9)).drew _ _ else _; refine step_append_row2 ((W.alloc (.cells #[] 9)).alloc (.cells #[] 9)).drew rfl (.tmp 3) (.tmp 5) 24 rfl (w.heap.size + 2) 9 i0 (.string ⟨#[]⟩) 16 Try.underlying24 hi hz0 hz1 hz2 rfl (W.heap.size) 0 0 [] rfl oAA0 ⟨g, 0, none⟩ ss.length c ss rfl rfl hrAA (by unfold maxLen; omega) (by omega) (by first | omega | (simp; omega)) ?_; intro k6 cap6 w6 ho6 hg6 hat6 hlt6; simp only [Nat.zero_add, List.nil_append] at ho6; have z6 := hg6.size; simp at z6 hat6; have x6 := ((HP.out.alloc _).alloc _).drew.grown hg6 (by omega); have c0 := x6.b0; have c1 := x6.b1; have oth10 := oAA1.kept hg6 (.inr (by simp [Value.ownBlock])); have tag6b := z6)
      | (guard_target = if Region.wanted _ _ = true then Oper.wp _ _ _ ((W.alloc (.cells #[] 9)).alloc (.cells #[] 9)).drew _ _ else _; refine step_append_row2 ((W.alloc (.cells #[] 9)).alloc (.cells #[] 9)).drew rfl (.tmp 3) (.tmp 5) 24 rfl (w.heap.size + 2) 9 i0 (.string ⟨#[]⟩) 16 Try.underlying24 hi hz0 hz1 hz2 rfl (W.heap.size + 1) 0 0 [] rfl oAA1 ⟨g, 0, none⟩ ss.length c ss rfl rfl hrAA (by unfold maxLen; omega) (by omega) (by first | omega | (simp; omega)) ?_; intro k6 cap6 w6 ho6 hg6 hat6 hlt6; simp only [Nat.zero_add, List.nil_append] at ho6; have z6 := hg6.size; simp at z6 hat6; have x6 := ((HP.out.alloc _).alloc _).drew.grown hg6 (by omega); have c0 := x6.b0; have c1 := x6.b1; have oth10 := oAA0.kept hg6 (.inr (by simp [Value.ownBlock])); have tag6c := z6)
      | (have tagged := tag6a; refine step_append_row2 (w6.alloc (.cells #[] 9)) rfl (.tmp 7) (.tmp 9) 24 rfl (w.heap.size + 2) 9 i0 (.string ⟨#[]⟩) 16 Try.underlying24 hi hz0 hz1 hz2 rfl (w6.heap.size) 0 0 [] rfl (World.ownsRow_lit w6 #[] 0 (by omega) (by unfold maxLen; omega) rfl) ⟨h, 0, none⟩ tt.length d tt rfl rfl (hq.below (x6.alloc _).bel).cells (by unfold maxLen; omega) (by omega) (by first | omega | (simp; omega)) ?_; intro k10 cap10 w9 ho10 hg10 hat10 hlt10; simp only [Nat.zero_add, List.nil_append] at ho10; have z9 := hg10.size; (try simp at z9 hat10); have F6 := (ho6.alloc _).kept hg10 (.inr (by simp [Value.ownBlock]; omega)); have F10 := ho10; have hne : k6 ≠ k10 := (by omega); have x9 := (x6.alloc _).grown hg10 (by omega); have y0 := x9.r0; have y1 := x9.r1; have yf := x9.f)
      | (have tagged := tag6b; refine step_append_row2 w6 rfl (.tmp 7) (.tmp 9) 24 rfl (w.heap.size + 2) 9 i0 (.string ⟨#[]⟩) 16 Try.underlying24 hi hz0 hz1 hz2 rfl (W.heap.size + 1) 0 0 [] rfl oth10 ⟨h, 0, none⟩ tt.length d tt rfl rfl (hq.below x6.bel).cells (by unfold maxLen; omega) (by omega) (by first | omega | (simp; omega)) ?_; intro k10 cap10 w9 ho10 hg10 hat10 hlt10; simp only [Nat.zero_add, List.nil_append] at ho10; have z9 := hg10.size; (try simp at z9 hat10); have F6 := ho6.kept hg10 (.inr (by simp [Value.ownBlock]; omega)); have F10 := ho10; have hne : k6 ≠ k10 := (by omega); have x9 := x6.grown hg10 (by omega); have y0 := x9.r0; have y1 := x9.r1; have yf := x9.f)
      | (have tagged := tag6c; refine step_append_row2 w6 rfl (.tmp 7) (.tmp 9) 24 rfl (w.heap.size + 2) 9 i0 (.string ⟨#[]⟩) 16 Try.underlying24 hi hz0 hz1 hz2 rfl (W.heap.size) 0 0 [] rfl oth10 ⟨h, 0, none⟩ tt.length d tt rfl rfl (hq.below x6.bel).cells (by unfold maxLen; omega) (by omega) (by first | omega | (simp; omega)) ?_; intro k10 cap10 w9 ho10 hg10 hat10 hlt10; simp only [Nat.zero_add, List.nil_append] at ho10; have z9 := hg10.size; (try simp at z9 hat10); have F6 := ho6.kept hg10 (.inr (by simp [Value.ownBlock]; omega)); have F10 := ho10; have hne : k6 ≠ k10 := (by omega); have x9 := x6.grown hg10 (by omega); have y0 := x9.r0; have y1 := x9.r1; have yf := x9.f))
  all_goals
    have HF : Hid _ := And.intro F6 (And.intro F10 (And.intro hne x9))
    clear x9
    clear F6 F10 hne oA oAA0 oAA1 hrA hqA hrAA hqAA hr hq HP
    go_wp2
    refine bodyPost_ret (v := .agg #[.slice (some ⟨k6, 0, none⟩) ss.length cap6, .slice (some ⟨k10, 0, none⟩) tt.length cap10]) (by simp [results, Try.results86, go_sem, y0, y1]) rfl ⟨_, _, _, _, rfl, ?_, ?_, HF.out.2.2.1, ?_⟩
    · exact (ownsRow_setCell_below (ownsRow_setCell_below HF.out.1 (a := ⟨w.heap.size + 1, 0, none⟩) (by simp) _) (a := ⟨w.heap.size + 1, 1, none⟩) (by simp) _).mono (by omega)
    · exact (ownsRow_setCell_below (ownsRow_setCell_below HF.out.2.1 (a := ⟨w.heap.size + 1, 0, none⟩) (by simp) _) (a := ⟨w.heap.size + 1, 1, none⟩) (by simp) _).mono (by omega)
    · exact (HF.out.2.2.2.bel.setCell (p := ⟨w.heap.size + 1, 0, none⟩) (by simp) _).setCell (p := ⟨w.heap.size + 1, 1, none⟩) (by simp) _

end Go.Proofs.Ytdecihmplkgfkaa
