/-
  spec.l6Round.
-/
import Derived.Test.YtbelneejghdmoaaRdM
import Derived.Lib.SmallJoins
import Derived.OneCell
namespace Go.Proofs.Ytbelneejghdmoaa
open Go.ChangeShapes Go.WideShapes Go.ChangeAt Go.RowKit

/-- A row that is not nil. -/
theorem own_some {w : World} {base : Nat} {v : Value} {n : Nat} {xs : List Value} (h : w.ownsRow base 9 1 v n xs) (hn : v ≠ .slice none 0 0) : ∃ g cap, v = .slice (some ⟨g, 0, none⟩) n cap := by
  rcases Joins.ownsRow_forms h with ⟨e, _⟩ | hf
  · exact absurd e hn
  · exact hf

theorem SRow.cellsV {w : World} {B g : Nat} {ss : List ByteArray} (h : SRow w B (some ⟨g, 0, none⟩) ss) : ∀ j u, (ss.map Value.string)[j]? = some u → w.cell? ((⟨g, 0, none⟩ : Addr).add j) = some u := by
  intro j u hu
  rw [List.getElem?_map] at hu
  cases hs : ss[j]? with
  | none => rw [hs] at hu; cases hu
  | some s =>
    rw [hs] at hu
    cases hu
    rcases h with h | ⟨b, off, h1, _, h3⟩
    · subst h; simp at hs
    · cases h1
      have := h3 j s hs
      rw [Go.WideShapes.add_plain]
      simpa using this

theorem oneS (ss : List ByteArray) : ∀ u ∈ ss.map Value.string, u.oneCell' = true := fun u hu => by obtain ⟨s, _, rfl⟩ := List.mem_map.1 hu; rfl

theorem RBox.grown {w w' : World} {b q : Nat} {ph top at_ ro : Int} {Q M : Value} (h : RBox w b ph Q M top at_ ro) (hg : w.grownBy w' (some q)) (hq : b ≠ q) : RBox w' b ph Q M top at_ ro := by
  obtain ⟨x0, x1, x2, x3, x4, x5, x6⟩ := h
  have hz := hg.size
  exact ⟨hg.cell x0 (by simp; omega), hg.cell x1 (by simp; omega), hg.cell x2 (by simp; omega), hg.cell x3 (by simp; omega), hg.cell x4 (by simp; omega), hg.cell x5 (by simp; omega), by omega⟩

set_option maxRecDepth 20000 in
set_option maxHeartbeats 4000000 in
theorem l6Round_any (ph top at_ ro : Int) (g h ac bc : Nat) (qs ms : List ByteArray) (w : World) (hq : SRow w w.heap.size (some ⟨g, 0, none⟩) qs) (hm : SRow w w.heap.size (some ⟨h, 0, none⟩) ms) (hf : RFit qs ms) :
    Calls Try.prog 98 #[.agg #[.int .i64 ph, .slice (some ⟨g, 0, none⟩) qs.length ac, .slice (some ⟨h, 0, none⟩) ms.length bc, .int .i64 top, .int .i64 at_, .int .i64 ro]] w fun e w' => ∃ x cx y cy, e = .returned (.agg #[.int .i64 ph, .slice (some ⟨x, 0, none⟩) qs.length cx, .slice (some ⟨y, 0, none⟩) ms.length cy, .int .i64 top, .int .i64 at_, .int .i64 ro]) ∧
      w'.ownsRow w.heap.size 9 1 (.slice (some ⟨x, 0, none⟩) qs.length cx) qs.length (qs.map Value.string) ∧ w'.ownsRow w.heap.size 9 1 (.slice (some ⟨y, 0, none⟩) ms.length cy) ms.length (ms.map Value.string) ∧ x ≠ y ∧ Below w.heap.size w w' := by
  have hfq := hf.q
  have hfm := hf.m
  obtain ⟨i0, hi, hz0, hz1, hz2⟩ := info_parts Try.infoStr
  obtain ⟨W, hW⟩ : ∃ W, W = ((w.alloc (.cells #[.int .i64 ph, .slice (some ⟨g, 0, none⟩) qs.length ac, .slice (some ⟨h, 0, none⟩) ms.length bc, .int .i64 top, .int .i64 at_, .int .i64 ro] 43)).alloc (.cells #[.int .i64 0, .slice none 0 0, .slice none 0 0, .int .i64 0, .int .i64 0, .int .i64 0] 43)).alloc (.cells #[.int .i64 ph, .slice (some ⟨g, 0, none⟩) qs.length ac, .slice (some ⟨h, 0, none⟩) ms.length bc, .int .i64 top, .int .i64 at_, .int .i64 ro] 43) := ⟨_, rfl⟩
  have hbW : Below w.heap.size w W := by rw [hW]; exact (((Below.refl _ _).alloc (Nat.le_refl _) _).alloc (by simp) _).alloc (by simp; omega) _
  have x2 : RBox W (w.heap.size + 1 + 1) ph (.slice (some ⟨g, 0, none⟩) qs.length ac) (.slice (some ⟨h, 0, none⟩) ms.length bc) top at_ ro := by
    rw [hW]; exact ⟨by simp [go_sem], by simp [go_sem], by simp [go_sem], by simp [go_sem], by simp [go_sem], by simp [go_sem], by simp⟩
  have x1 : RBox W (w.heap.size + 1) 0 (.slice none 0 0) (.slice none 0 0) 0 0 0 := by
    rw [hW]; exact ⟨by simp [go_sem], by simp [go_sem], by simp [go_sem], by simp [go_sem], by simp [go_sem], by simp [go_sem], by simp <;> omega⟩
  have x0 : RBox W w.heap.size ph (.slice (some ⟨g, 0, none⟩) qs.length ac) (.slice (some ⟨h, 0, none⟩) ms.length bc) top at_ ro := by
    rw [hW]; exact ⟨by simp [go_sem], by simp [go_sem], by simp [go_sem], by simp [go_sem], by simp [go_sem], by simp [go_sem], by simp <;> omega⟩
  have f2 : ∀ o, W.frozen? ⟨w.heap.size + 1 + 1, o, none⟩ = false := fun o => by rw [hW]; simp [go_sem]
  have f1 : ∀ o, W.frozen? ⟨w.heap.size + 1, o, none⟩ = false := fun o => by rw [hW]; simp [go_sem]
  have hzW : W.heap.size = w.heap.size + 3 := by rw [hW]; simp
  have HW : Hid _ := hW
  clear hW
  go_enter Try.func98, Try.ntmps98
  go_wp2_with (first
    | (at_builtin; refine wpList_append_own _ rfl _ _ 38 rfl (w.heap.size + 3) 9 i0 (.string ⟨#[]⟩) 1 16 Try.underlying38 hi hz0 hz1 hz2 rfl (by decide) _ 0 (([] : List ByteArray).map Value.string) rfl ?d0 ⟨g, 0, none⟩ qs.length ac (qs.map Value.string) rfl ?d1 ?d2 ?d3 ?d4 ?d5 ?d6 ?_)
    | go_in)
  all_goals try rw [← HW.out]
  case d0 =>
    have := World.ownsRow_lit (base := w.heap.size + 3) (e := 9) (size := 1) W #[] 0 (by omega) (by unfold maxLen; omega) rfl
    rw [hzW] at this
    exact this
  case d1 => simp
  case d2 => exact (hq.below (hbW.alloc hbW.size _)).cellsV
  case d3 => exact oneS qs
  case d4 => unfold maxLen; omega
  case d5 => omega
  case d6 => simp; omega
  intro v1 w1 ho1 hg1 hn1
  have hvb : ∃ x cx, v1 = .slice (some ⟨x, 0, none⟩) qs.length cx := by
    have := own_some ho1 hn1
    simpa using this
  obtain ⟨x, cx, rfl⟩ := hvb
  try simp only [Nat.zero_add, List.map_nil, List.nil_append] at ho1
  have hsz1 := hg1.size
  have hg1' : (W.alloc (.cells #[] 9)).grownBy w1 (some (w.heap.size + 3)) := by simpa [Value.ownBlock] using hg1
  have hA : Below W.heap.size W (W.alloc (.cells #[] 9)) := (Below.refl _ _).alloc (Nat.le_refl _) _
  have y0 := (x0.below hA).grown hg1' (by omega)
  have y1 := (x1.below hA).grown hg1' (by omega)
  have y2 := (x2.below hA).grown hg1' (by omega)
  have e2 : ∀ o, w1.frozen? ⟨w.heap.size + 1 + 1, o, none⟩ = false := fun o => (hg1'.frozen_far ⟨w.heap.size + 1 + 1, o, none⟩ (by simp <;> omega) (by simp <;> omega)).trans ((hA.frozen (p := ⟨w.heap.size + 1 + 1, o, none⟩) (by simp <;> omega)).trans (f2 o))
  have e1 : ∀ o, w1.frozen? ⟨w.heap.size + 1, o, none⟩ = false := fun o => (hg1'.frozen_far ⟨w.heap.size + 1, o, none⟩ (by simp <;> omega) (by simp <;> omega)).trans ((hA.frozen (p := ⟨w.heap.size + 1, o, none⟩) (by simp <;> omega)).trans (f1 o))
  have hB1 : Below w.heap.size w w1 := (hbW.trans (hA.mono hbW.size)).grown hg1' (by simp; omega) (fun k hk => by cases hk; omega)
  have lx := ho1.lt x rfl
  simp at hsz1
  obtain ⟨a0, a1, a2, a3, a4, a5, a6⟩ := y0
  obtain ⟨b0, b1, b2, b3, b4, b5, b6⟩ := y1
  obtain ⟨c0, c1, c2, c3, c4, c5, c6⟩ := y2
  clear x0 x1 x2 f1 f2 hA hg1 hg1' hn1 HW hbW
  obtain ⟨V, hV⟩ : ∃ V, V = w1.setCell ⟨w.heap.size + 1 + 1, 1, none⟩ (.slice (some ⟨x, 0, none⟩) qs.length cx) := ⟨_, rfl⟩
  have hBV : Below w.heap.size w V := by rw [hV]; exact hB1.setCell (p := ⟨w.heap.size + 1 + 1, 1, none⟩) (by simp <;> omega) _
  have hzV : V.heap.size = w1.heap.size := by rw [hV]; simp
  have hoV : V.ownsRow (w.heap.size + 3) 9 1 (.slice (some ⟨x, 0, none⟩) qs.length cx) qs.length (qs.map Value.string) := by rw [hV]; exact ownsRow_setCell_below ho1 (by simp) _
  have r1 : RBox V (w.heap.size + 1) 0 (.slice none 0 0) (.slice none 0 0) 0 0 0 := by
    rw [hV]; exact ⟨by simp [go_sem, b0], by simp [go_sem, b1], by simp [go_sem, b2], by simp [go_sem, b3], by simp [go_sem, b4], by simp [go_sem, b5], by simpa using b6⟩
  have r2 : RBox V (w.heap.size + 1 + 1) ph (.slice (some ⟨x, 0, none⟩) qs.length cx) (.slice (some ⟨h, 0, none⟩) ms.length bc) top at_ ro := by
    rw [hV]; exact ⟨by simp [go_sem, c0], by simp [go_sem, c1], by simp [go_sem, c2], by simp [go_sem, c3], by simp [go_sem, c4], by simp [go_sem, c5], by simpa using c6⟩
  have k1 : ∀ o, V.frozen? ⟨w.heap.size + 1, o, none⟩ = false := fun o => by rw [hV]; simp [go_sem, e1]
  have k2 : ∀ o, V.frozen? ⟨w.heap.size + 1 + 1, o, none⟩ = false := fun o => by rw [hV]; simp [go_sem, e2]
  have HV : Hid _ := hV
  clear hV
  go_wp2_with (first
    | (at_builtin; refine wpList_append_own _ rfl _ _ 38 rfl w1.heap.size 9 i0 (.string ⟨#[]⟩) 1 16 Try.underlying38 hi hz0 hz1 hz2 rfl (by decide) _ 0 (([] : List ByteArray).map Value.string) rfl ?e0 ⟨h, 0, none⟩ ms.length bc (ms.map Value.string) rfl ?e1 ?e2 ?e3 ?e4 ?e5 ?e6 ?_)
    | go_in)
  all_goals try rw [← HV.out]
  case e0 =>
    have := World.ownsRow_lit (base := w1.heap.size) (e := 9) (size := 1) V #[] 0 (by omega) (by unfold maxLen; omega) rfl
    rw [hzV] at this
    exact this
  case e1 => simp
  case e2 => exact (hm.below (hBV.alloc hBV.size _)).cellsV
  case e3 => exact oneS ms
  case e4 => unfold maxLen; omega
  case e5 => omega
  case e6 => simp; omega
  intro v2 w2 ho2 hg2 hn2
  have hvb : ∃ y cy, v2 = .slice (some ⟨y, 0, none⟩) ms.length cy := by
    have := own_some ho2 hn2
    simpa using this
  obtain ⟨y, cy, rfl⟩ := hvb
  try simp only [Nat.zero_add, List.map_nil, List.nil_append] at ho2
  have hg2' : (V.alloc (.cells #[] 9)).grownBy w2 (some w1.heap.size) := by simpa [Value.ownBlock] using hg2
  have hA : Below V.heap.size V (V.alloc (.cells #[] 9)) := (Below.refl _ _).alloc (Nat.le_refl _) _
  have s1 := (r1.below hA).grown hg2' (by omega)
  have s2 := (r2.below hA).grown hg2' (by omega)
  have t2 : ∀ o, w2.frozen? ⟨w.heap.size + 1 + 1, o, none⟩ = false := fun o => (hg2'.frozen_far ⟨w.heap.size + 1 + 1, o, none⟩ (by simp <;> omega) (by simp <;> omega)).trans ((hA.frozen (p := ⟨w.heap.size + 1 + 1, o, none⟩) (by simp <;> omega)).trans (k2 o))
  have t1 : ∀ o, w2.frozen? ⟨w.heap.size + 1, o, none⟩ = false := fun o => (hg2'.frozen_far ⟨w.heap.size + 1, o, none⟩ (by simp <;> omega) (by simp <;> omega)).trans ((hA.frozen (p := ⟨w.heap.size + 1, o, none⟩) (by simp <;> omega)).trans (k1 o))
  have hB2 : Below w.heap.size w w2 := (hBV.trans (hA.mono hBV.size)).grown hg2' (by simp; omega) (fun k hk => by cases hk; omega)
  have ly := ho2.lt y rfl
  have hox : w2.ownsRow (w.heap.size + 3) 9 1 (.slice (some ⟨x, 0, none⟩) qs.length cx) qs.length (qs.map Value.string) := (hoV.alloc _).kept hg2' (.inr (by simp [Value.ownBlock]; omega))
  have hoy := ho2.mono (show w.heap.size + 3 ≤ w1.heap.size by omega)
  have hxy : x ≠ y := by omega
  have HO : Hid _ := And.intro hox (And.intro hoy (And.intro hxy hB2))
  obtain ⟨m0, m1, m2, m3, m4, m5, m6⟩ := s1
  obtain ⟨n0, n1, n2, n3, n4, n5, n6⟩ := s2
  clear a0 a1 a2 a3 a4 a5 a6 b0 b1 b2 b3 b4 b5 b6 c0 c1 c2 c3 c4 c5 c6 hox hoy ho2 hg2 hg2' hA r1 r2 k1 k2 hoV ho1 hBV hB1 hB2 HV e1 e2 hn2
  go_wp2
  refine bodyPost_ret (v := .agg #[.int .i64 ph, .slice (some ⟨x, 0, none⟩) qs.length cx, .slice (some ⟨y, 0, none⟩) ms.length cy, .int .i64 top, .int .i64 at_, .int .i64 ro]) (by simp [results, Try.results98, go_sem, m0, m1, m2, m3, m4, m5]) rfl ⟨x, cx, y, cy, rfl, ?_, ?_, HO.out.2.2.1, ?_⟩
  · refine World.ownsRow.mono ?_ (show w.heap.size ≤ w.heap.size + 3 by omega)
    iterate 7 (refine ownsRow_setCell_below ?_ (by simp) _)
    exact HO.out.1
  · refine World.ownsRow.mono ?_ (show w.heap.size ≤ w.heap.size + 3 by omega)
    iterate 7 (refine ownsRow_setCell_below ?_ (by simp) _)
    exact HO.out.2.1
  · iterate 7 (refine Below.setCell ?_ (by simp <;> omega) _)
    exact HO.out.2.2.2

end Go.Proofs.Ytbelneejghdmoaa
