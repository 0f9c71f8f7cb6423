/-
  impl.shade.
-/
import Derived.Test.YtbelneejghdmoaaShI
import Derived.Test.YtbelneejghdmoaaStIP
namespace Go.Proofs.Ytbelneejghdmoaa
open Go.ChangeShapes Go.WideShapes Go.ChangeAt Go.RowKit

open Classical in
/-- The queue behind a shade. -/
noncomputable def shQ (ph : Int) (ks : List Kd) (qs ms : List ByteArray) (s : ByteArray) : List ByteArray := if ¬ ph = 0 ∧ There ks s ∧ ¬ s ∈ ms ∧ ¬ qs.length = 23200 then qs ++ [s] else qs

theorem shQ_yes {ph : Int} {ks : List Kd} {qs ms : List ByteArray} {s : ByteArray} (h1 : ¬ ph = 0) (h2 : There ks s) (h3 : ¬ s ∈ ms) (h4 : ¬ qs.length = 23200) : shQ ph ks qs ms s = qs ++ [s] := if_pos ⟨h1, h2, h3, h4⟩
theorem shQ_no {ph : Int} {ks : List Kd} {qs ms : List ByteArray} {s : ByteArray} (h : ph = 0 ∨ ¬ There ks s ∨ s ∈ ms ∨ qs.length = 23200) : shQ ph ks qs ms s = qs := if_neg (fun ⟨h1, h2, h3, h4⟩ => by rcases h with h | h | h | h; exact h1 h; exact h h2; exact h3 h; exact h4 h)

set_option maxRecDepth 20000 in
set_option maxHeartbeats 8000000 in
theorem shade_any (wd : Int) (m : Nat) (ks : List Kd) (s : ByteArray) (ph top at_ ro : Int) (g h ac bc : Nat) (qs ms : List ByteArray) (w : World) (hhas : HasAt w wd m ks s) (hq : SRow w w.heap.size (some ⟨g, 0, none⟩) qs) (hm : SRow w w.heap.size (some ⟨h, 0, none⟩) ms) (hf : RFit qs ms) :
    Calls Try.prog 63 #[.agg #[.int .i64 wd, .map (some m)], .agg #[.int .i64 ph, .slice (some ⟨g, 0, none⟩) qs.length ac, .slice (some ⟨h, 0, none⟩) ms.length bc, .int .i64 top, .int .i64 at_, .int .i64 ro], .string s] w fun e w' => ∃ x cx y cy, e = .returned (.agg #[.int .i64 ph, .slice (some ⟨x, 0, none⟩) (shQ ph ks qs ms s).length cx, .slice (some ⟨y, 0, none⟩) ms.length cy, .int .i64 top, .int .i64 at_, .int .i64 ro]) ∧
      w'.ownsRow w.heap.size 9 1 (.slice (some ⟨x, 0, none⟩) (shQ ph ks qs ms s).length cx) (shQ ph ks qs ms s).length ((shQ ph ks qs ms s).map Value.string) ∧ w'.ownsRow w.heap.size 9 1 (.slice (some ⟨y, 0, none⟩) ms.length cy) ms.length (ms.map Value.string) ∧ x ≠ y ∧ Below w.heap.size w w' := by
  obtain ⟨i0, hi, hz0, hz1, hz2⟩ := info_parts Try.infoStr
  have hfq := hf.q
  have hfm := hf.m
  obtain ⟨W, hW⟩ : ∃ W, W = ((w.alloc (.cells #[.int .i64 wd, .map (some m)] 76)).alloc (.cells #[.int .i64 ph, .slice (some ⟨g, 0, none⟩) qs.length ac, .slice (some ⟨h, 0, none⟩) ms.length bc, .int .i64 top, .int .i64 at_, .int .i64 ro] 43)).alloc (.cells #[.int .i64 0, .slice none 0 0, .slice none 0 0, .int .i64 0, .int .i64 0, .int .i64 0] 43) := ⟨_, rfl⟩
  have hbW : Below w.heap.size w W := by rw [hW]; exact (((Below.refl _ _).alloc (Nat.le_refl _) _).alloc (by simp) _).alloc (by simp; omega) _
  have x2 : RBox W (w.heap.size + 1 + 1) 0 (.slice none 0 0) (.slice none 0 0) 0 0 0 := by
    rw [hW]; exact ⟨by simp [go_sem], by simp [go_sem], by simp [go_sem], by simp [go_sem], by simp [go_sem], by simp [go_sem], by simp⟩
  have x1 : RBox W (w.heap.size + 1) ph (.slice (some ⟨g, 0, none⟩) qs.length ac) (.slice (some ⟨h, 0, none⟩) ms.length bc) top at_ ro := by
    rw [hW]; exact ⟨by simp [go_sem], by simp [go_sem], by simp [go_sem], by simp [go_sem], by simp [go_sem], by simp [go_sem], by simp <;> omega⟩
  have s0 : W.cell? ⟨w.heap.size, 0, none⟩ = some (.int .i64 wd) := by rw [hW]; simp [go_sem]
  have s1 : W.cell? ⟨w.heap.size, 1, none⟩ = some (.map (some m)) := by rw [hW]; simp [go_sem]
  have f2 : ∀ o, W.frozen? ⟨w.heap.size + 1 + 1, o, none⟩ = false := fun o => by rw [hW]; simp [go_sem]
  have hzW : W.heap.size = w.heap.size + 3 := by rw [hW]; simp
  have HW : Hid _ := hW
  have HQ : Hid _ := And.intro hq hm
  have HHas : Hid _ := hhas
  clear hW hq hm hhas
  go_enter Try.func63, Try.ntmps63
  go_wp2_with fail
  rw [← HW.out]
  refine (copyOfRound_any ph top at_ ro g h ac bc qs ms W (SRow.below' HQ.out.1 hbW) (SRow.below' HQ.out.2 hbW) hf).mono ?_
  rintro e w2 ⟨x, cx, y, cy, rfl, ox, oy, hxy, hb2⟩
  have hB2 := hbW.trans (hb2.mono hbW.size)
  have HX1 : Hid _ := x1.below hb2
  have HX2 : Hid _ := x2.below hb2
  have q0 := (hb2.cell (p := ⟨w.heap.size, 0, none⟩) (by simp; omega)).trans s0
  have q1 := (hb2.cell (p := ⟨w.heap.size, 1, none⟩) (by simp; omega)).trans s1
  have fr : ∀ o, w2.frozen? ⟨w.heap.size + 1 + 1, o, none⟩ = false := fun o => (hb2.frozen (p := ⟨w.heap.size + 1 + 1, o, none⟩) (by simp <;> omega)).trans (f2 o)
  have lx := ox.lt x rfl
  have ly := oy.lt y rfl
  have hz2' := hb2.size
  obtain ⟨V, hV⟩ : ∃ V, V = w2.alloc (.cells #[.int .i64 ph, .slice (some ⟨x, 0, none⟩) qs.length cx, .slice (some ⟨y, 0, none⟩) ms.length cy, .int .i64 top, .int .i64 at_, .int .i64 ro] 43) := ⟨_, rfl⟩
  have hAV : Below w2.heap.size w2 V := by rw [hV]; exact (Below.refl _ _).alloc (Nat.le_refl _) _
  have HO2 : Hid (V.ownsRow (w.heap.size + 3) 9 1 (.slice (some ⟨x, 0, none⟩) qs.length cx) qs.length (qs.map Value.string) ∧ V.ownsRow (w.heap.size + 3) 9 1 (.slice (some ⟨y, 0, none⟩) ms.length cy) ms.length (ms.map Value.string) ∧ x ≠ y ∧ Below w.heap.size w V) := ⟨(own_keep ox hAV).mono (by omega), (own_keep oy hAV).mono (by omega), hxy, hB2.trans (hAV.mono hB2.size)⟩
  have H7 : Hid (RBox V w2.heap.size ph (.slice (some ⟨x, 0, none⟩) qs.length cx) (.slice (some ⟨y, 0, none⟩) ms.length cy) top at_ ro) := by
    show RBox V w2.heap.size ph (.slice (some ⟨x, 0, none⟩) qs.length cx) (.slice (some ⟨y, 0, none⟩) ms.length cy) top at_ ro
    rw [hV]; exact RBox.new _ _ _ _ _ _ _ _
  have HY1 : Hid _ := RBox.below HX1.out hAV
  have HY2 : Hid _ := RBox.below HX2.out hAV
  have qv0 := (hAV.cell (p := ⟨w.heap.size, 0, none⟩) (by simp; omega)).trans q0
  have qv1 := (hAV.cell (p := ⟨w.heap.size, 1, none⟩) (by simp; omega)).trans q1
  have fv : ∀ o, V.frozen? ⟨w.heap.size + 1 + 1, o, none⟩ = false := fun o => (hAV.frozen (p := ⟨w.heap.size + 1 + 1, o, none⟩) (by simp <;> omega)).trans (fr o)
  have f7 : ∀ o, V.frozen? ⟨w2.heap.size, o, none⟩ = false := fun o => by rw [hV]; simp [go_sem]
  have hzV : V.heap.size = w2.heap.size + 1 := by rw [hV]; simp
  go_upto_region 2 with fail
  rw [← hV]
  clear hV hAV ox oy hb2 x1 x2 s0 s1 f2 HW HX1 HX2 q0 q1 fr hB2
  generalize w2.heap.size = b7 at *
  obtain ⟨a0, a1, a2, a3, a4, a5, a6⟩ := HY1.out
  obtain ⟨c0, c1, c2, c3, c4, c5, c6⟩ := H7.out
  obtain ⟨d0, d1, d2, d3, d4, d5, d6⟩ := HY2.out
  have hb7 : w.heap.size + 3 ≤ b7 := by omega
  by_cases p0 : ph = 0
  · have HN : Hid (shQ ph ks qs ms s = qs) := shQ_no (.inl p0)
    subst p0
    have HO : Hid _ := HO2.out
    go_wp2
    refine bodyPost_ret (v := .agg #[.int .i64 0, .slice (some ⟨x, 0, none⟩) qs.length cx, .slice (some ⟨y, 0, none⟩) ms.length cy, .int .i64 top, .int .i64 at_, .int .i64 ro]) (by simp [results, Try.results63, go_sem, d0, d1, d2, d3, d4, d5]) rfl ?_
    rw [HN.out]
    refine ⟨x, cx, y, cy, rfl, ?_, ?_, HO.out.2.2.1, ?_⟩
    · refine World.ownsRow.mono ?_ (show w.heap.size ≤ w.heap.size + 3 by omega)
      iterate 6 (refine ownsRow_setCell_below ?_ (by simp) _)
      exact HO.out.1
    · refine World.ownsRow.mono ?_ (show w.heap.size ≤ w.heap.size + 3 by omega)
      iterate 6 (refine ownsRow_setCell_below ?_ (by simp) _)
      exact HO.out.2.1
    · iterate 6 (refine Below.setCell ?_ (by simp <;> omega) _)
      exact HO.out.2.2.2
  have p0' : (ph == 0) = false := by simpa using p0
  by_cases p1 : qs.length = 23200
  · have HN : Hid (shQ ph ks qs ms s = qs) := shQ_no (.inr (.inr (.inr p1)))
    have p1' : ((qs.length : Int) == 23200) = true := by simp; omega
    clear p1
    have HO : Hid _ := HO2.out
    go_wp2
    refine bodyPost_ret (v := .agg #[.int .i64 ph, .slice (some ⟨x, 0, none⟩) qs.length cx, .slice (some ⟨y, 0, none⟩) ms.length cy, .int .i64 top, .int .i64 at_, .int .i64 ro]) (by simp [results, Try.results63, go_sem, d0, d1, d2, d3, d4, d5]) rfl ?_
    rw [HN.out]
    refine ⟨x, cx, y, cy, rfl, ?_, ?_, HO.out.2.2.1, ?_⟩
    · refine World.ownsRow.mono ?_ (show w.heap.size ≤ w.heap.size + 3 by omega)
      iterate 6 (refine ownsRow_setCell_below ?_ (by simp) _)
      exact HO.out.1
    · refine World.ownsRow.mono ?_ (show w.heap.size ≤ w.heap.size + 3 by omega)
      iterate 6 (refine ownsRow_setCell_below ?_ (by simp) _)
      exact HO.out.2.1
    · iterate 6 (refine Below.setCell ?_ (by simp <;> omega) _)
      exact HO.out.2.2.2
  have p1' : ((qs.length : Int) == 23200) = false := beq_eq_false_iff_ne.2 (by omega)
  obtain ⟨ok, hok, hcall⟩ := HHas.out
  have HC : Hid _ := hcall V HO2.out.2.2.2
  clear hcall HHas
  go_wp2_with fail
  refine Calls.mono HC.out ?_
  rintro e w3 ⟨rfl, hb3⟩
  have hz3 := hb3.size
  have HO : Hid (w3.ownsRow (w.heap.size + 3) 9 1 (.slice (some ⟨x, 0, none⟩) qs.length cx) qs.length (qs.map Value.string) ∧ w3.ownsRow (w.heap.size + 3) 9 1 (.slice (some ⟨y, 0, none⟩) ms.length cy) ms.length (ms.map Value.string) ∧ x ≠ y ∧ Below w.heap.size w w3) := ⟨own_keep HO2.out.1 hb3, own_keep HO2.out.2.1 hb3, hxy, HO2.out.2.2.2.trans (hb3.mono HO2.out.2.2.2.size)⟩
  have H8 : Hid _ := RBox.below H7.out hb3
  have H2 : Hid _ := RBox.below HY2.out hb3
  have HZ1 : Hid _ := RBox.below HY1.out hb3
  have fr : ∀ o, w3.frozen? ⟨w.heap.size + 1 + 1, o, none⟩ = false := fun o => (hb3.frozen (p := ⟨w.heap.size + 1 + 1, o, none⟩) (by simp <;> omega)).trans (fv o)
  have f8 : ∀ o, w3.frozen? ⟨b7, o, none⟩ = false := fun o => (hb3.frozen (p := ⟨b7, o, none⟩) (by simp <;> omega)).trans (f7 o)
  have hmr := SRow.below' (w := w) HQ.out.2 HO.out.2.2.2
  clear a0 a1 a2 a3 a4 a5 a6 c0 c1 c2 c3 c4 c5 c6 d0 d1 d2 d3 d4 d5 d6 hb3 H7 HO2 HY2 HY1 HC qv0 qv1 fv f7
  obtain ⟨a0, a1, a2, a3, a4, a5, a6⟩ := HZ1.out
  obtain ⟨c0, c1, c2, c3, c4, c5, c6⟩ := H8.out
  obtain ⟨d0, d1, d2, d3, d4, d5, d6⟩ := H2.out
  cases ok with
  | false =>
    have HN : Hid (shQ ph ks qs ms s = qs) := shQ_no (.inr (.inl (fun hh => by have := hok.2 hh; cases this)))
    clear hok hmr
    go_wp2
    refine bodyPost_ret (v := .agg #[.int .i64 ph, .slice (some ⟨x, 0, none⟩) qs.length cx, .slice (some ⟨y, 0, none⟩) ms.length cy, .int .i64 top, .int .i64 at_, .int .i64 ro]) (by simp [results, Try.results63, go_sem, d0, d1, d2, d3, d4, d5]) rfl ?_
    rw [HN.out]
    refine ⟨x, cx, y, cy, rfl, ?_, ?_, HO.out.2.2.1, ?_⟩
    · refine World.ownsRow.mono ?_ (show w.heap.size ≤ w.heap.size + 3 by omega)
      iterate 6 (refine ownsRow_setCell_below ?_ (by simp) _)
      exact HO.out.1
    · refine World.ownsRow.mono ?_ (show w.heap.size ≤ w.heap.size + 3 by omega)
      iterate 6 (refine ownsRow_setCell_below ?_ (by simp) _)
      exact HO.out.2.1
    · iterate 6 (refine Below.setCell ?_ (by simp <;> omega) _)
      exact HO.out.2.2.2
  | true =>
    have hth := hok.1 rfl
    clear hok
    have HC : Hid _ := contains_any (some ⟨h, 0, none⟩) bc ms s w3 w3.heap.size hmr hfm
    clear hmr
    go_wp2_with fail
    refine Calls.mono HC.out ?_
    rintro e w9 ⟨rfl, hw9⟩
    rw [hw9]
    clear hw9
    by_cases hin : s ∈ ms
    · have HN : Hid (shQ ph ks qs ms s = qs) := shQ_no (.inr (.inr (.inl hin)))
      rw [@decide_eq_true _ (Classical.propDecidable _) hin]
      clear HC hth
      go_wp2
      refine bodyPost_ret (v := .agg #[.int .i64 ph, .slice (some ⟨x, 0, none⟩) qs.length cx, .slice (some ⟨y, 0, none⟩) ms.length cy, .int .i64 top, .int .i64 at_, .int .i64 ro]) (by simp [results, Try.results63, go_sem, d0, d1, d2, d3, d4, d5]) rfl ?_
      rw [HN.out]
      refine ⟨x, cx, y, cy, rfl, ?_, ?_, HO.out.2.2.1, ?_⟩
      · refine World.ownsRow.mono ?_ (show w.heap.size ≤ w.heap.size + 3 by omega)
        iterate 6 (refine ownsRow_setCell_below ?_ (by simp) _)
        exact HO.out.1
      · refine World.ownsRow.mono ?_ (show w.heap.size ≤ w.heap.size + 3 by omega)
        iterate 6 (refine ownsRow_setCell_below ?_ (by simp) _)
        exact HO.out.2.1
      · iterate 6 (refine Below.setCell ?_ (by simp <;> omega) _)
        exact HO.out.2.2.2
    · have HN : Hid (shQ ph ks qs ms s = qs ++ [s]) := shQ_yes p0 hth hin p1
      rw [@decide_eq_false _ (Classical.propDecidable _) hin]
      clear HC hth hin HZ1 HQ hbW a0 a1 a2 a3 a4 a5 a6
      go_wp2_with (first
        | (at_builtin; refine wpList_append_lies _ rfl _ _ 38 rfl (w.heap.size + 3) 9 i0 (.string ⟨#[]⟩) 1 16 Try.underlying38 hi hz0 hz1 hz2 rfl (by decide) _ qs.length (qs.map Value.string) rfl ?d0 ⟨w3.heap.size, 0, none⟩ 1 1 [.string s] rfl rfl ?d1 ?d2 (by decide) ?d3 ?d4 ?d5 _ rfl ?_)
        | go_in)
      case d0 => exact HO.out.1.alloc _
      case d1 => exact cell_one_new w3 (.string s) 9
      case d2 => intro u hu; simp at hu; subst hu; rfl
      case d3 => unfold maxLen; omega
      case d4 => omega
      case d5 => simp; omega
      intro k cap w4 ho4 hg4 hat4 hlt4
      have hBV : Below w3.heap.size w3 (w3.alloc (.cells #[.string s] 9)) := (Below.refl _ _).alloc (Nat.le_refl _) _
      have hz4 := hg4.size
      simp [Value.ownBlock] at hz4 hat4
      have hg4' : (w3.alloc (.cells #[.string s] 9)).grownBy w4 (some x) := by simpa [Value.ownBlock] using hg4
      have r7 := (RBox.below H8.out hBV).grown hg4' (by omega)
      have r2 := (RBox.below H2.out hBV).grown hg4' (by omega)
      have f7' : ∀ o, w4.frozen? ⟨b7, o, none⟩ = false := fun o => (hg4'.frozen_far ⟨b7, o, none⟩ (by simp <;> omega) (by simp <;> omega)).trans ((hBV.frozen (p := ⟨b7, o, none⟩) (by simp <;> omega)).trans (f8 o))
      have fr' : ∀ o, w4.frozen? ⟨w.heap.size + 1 + 1, o, none⟩ = false := fun o => (hg4'.frozen_far ⟨w.heap.size + 1 + 1, o, none⟩ (by simp <;> omega) (by simp <;> omega)).trans ((hBV.frozen (p := ⟨w.heap.size + 1 + 1, o, none⟩) (by simp <;> omega)).trans (fr o))
      have hoy : w4.ownsRow (w.heap.size + 3) 9 1 (.slice (some ⟨y, 0, none⟩) ms.length cy) ms.length (ms.map Value.string) := (HO.out.2.1.alloc _).kept hg4' (.inr (by simp [Value.ownBlock]; omega))
      have hB4 : Below w.heap.size w w4 := (HO.out.2.2.2.trans (hBV.mono HO.out.2.2.2.size)).grown hg4' (by simp; omega) (fun j hj => by cases hj; omega)
      have hky : k ≠ y := by omega
      have hk7 : ¬ k = b7 := by omega
      have hB7 : ¬ b7 = w.heap.size + 1 + 1 := by omega
      have hB7' : ¬ w.heap.size + 1 + 1 = b7 := by omega
      have hok : w4.ownsRow (w.heap.size + 3) 9 1 (.slice (some ⟨k, 0, none⟩) (qs.length + 1) cap) (qs.length + 1) ((qs ++ [s]).map Value.string) := by simpa using ho4
      have HP : Hid _ := And.intro hok (And.intro hoy (And.intro hky hB4))
      obtain ⟨c0, c1, c2, c3, c4, c5, c6⟩ := r7
      obtain ⟨d0, d1, d2, d3, d4, d5, d6⟩ := r2
      clear ho4 hok hoy hg4 hg4' hB4 hBV f8 fr H8 H2 HO
      go_wp2
      refine bodyPost_ret (v := .agg #[.int .i64 ph, .slice (some ⟨k, 0, none⟩) (qs.length + 1) cap, .slice (some ⟨y, 0, none⟩) ms.length cy, .int .i64 top, .int .i64 at_, .int .i64 ro]) (by simp [results, Try.results63, go_sem, d0, d1, d2, d3, d4, d5]) rfl ?_
      rw [HN.out]
      refine ⟨k, cap, y, cy, by simp, ?_, ?_, HP.out.2.2.1, ?_⟩
      · rw [show (qs ++ [s]).length = qs.length + 1 by simp]
        refine World.ownsRow.mono ?_ (show w.heap.size ≤ w.heap.size + 3 by omega)
        iterate 6 (refine ownsRow_setCell_below ?_ (by simp) _)
        refine ownsRow_setCell_other ?_ (by simp [Value.ownBlock]; omega) _
        exact HP.out.1
      · refine World.ownsRow.mono ?_ (show w.heap.size ≤ w.heap.size + 3 by omega)
        iterate 6 (refine ownsRow_setCell_below ?_ (by simp) _)
        refine ownsRow_setCell_other ?_ (by simp [Value.ownBlock]; omega) _
        exact HP.out.2.1
      · iterate 7 (refine Below.setCell ?_ (by simp <;> omega) _)
        exact HP.out.2.2.2

end Go.Proofs.Ytbelneejghdmoaa
