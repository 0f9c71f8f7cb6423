/-
  spec.l6Shade, spec.Shade.
-/
import Derived.Test.YtbelneejghdmoaaShK
import Derived.Test.YtbelneejghdmoaaStHas
namespace Go.Proofs.Ytbelneejghdmoaa
open Go.ChangeShapes Go.WideShapes Go.ChangeAt Go.RowKit

set_option maxRecDepth 20000 in
set_option maxHeartbeats 8000000 in
theorem l6Shade_any (wd now given births : Int) (a : Option Addr) (sc : Nat) (P L : Value) (ks : List Kd) (s : ByteArray) (ph top at_ ro : Int) (g h ac bc : Nat) (qs ms : List ByteArray) (w : World) (hrow : KRow w w.heap.size a ks) (hkl : ks.length ≤ 1048576) (hq : SRow w w.heap.size (some ⟨g, 0, none⟩) qs) (hm : SRow w w.heap.size (some ⟨h, 0, none⟩) ms) (hf : RFit qs ms) (hqn : qs.length ≤ 23200) :
    Calls Try.prog 62 #[.agg #[.int .i64 wd, .int .i64 now, .int .i64 given, .int .i64 births, .slice a ks.length sc, P, L], .agg #[.int .i64 ph, .slice (some ⟨g, 0, none⟩) qs.length ac, .slice (some ⟨h, 0, none⟩) ms.length bc, .int .i64 top, .int .i64 at_, .int .i64 ro], .string s] w fun e w' => ∃ x cx y cy, e = .returned (.agg #[.int .i64 ph, .slice (some ⟨x, 0, none⟩) (shQ ph ks qs ms s).length cx, .slice (some ⟨y, 0, none⟩) ms.length cy, .int .i64 top, .int .i64 at_, .int .i64 ro]) ∧
      w'.ownsRow w.heap.size 9 1 (.slice (some ⟨x, 0, none⟩) (shQ ph ks qs ms s).length cx) (shQ ph ks qs ms s).length ((shQ ph ks qs ms s).map Value.string) ∧ w'.ownsRow w.heap.size 9 1 (.slice (some ⟨y, 0, none⟩) ms.length cy) ms.length (ms.map Value.string) ∧ x ≠ y ∧ Below w.heap.size w w' := by
  obtain ⟨i0, hi, hz0, hz1, hz2⟩ := info_parts Try.infoStr
  have hfq := hf.q
  have hfm := hf.m
  obtain ⟨W, hW⟩ : ∃ W, W = ((w.alloc (.cells #[.int .i64 wd, .int .i64 now, .int .i64 given, .int .i64 births, .slice a ks.length sc, P, L] 33)).alloc (.cells #[.int .i64 ph, .slice (some ⟨g, 0, none⟩) qs.length ac, .slice (some ⟨h, 0, none⟩) ms.length bc, .int .i64 top, .int .i64 at_, .int .i64 ro] 43)).alloc (.cells #[.int .i64 0, .slice none 0 0, .slice none 0 0, .int .i64 0, .int .i64 0, .int .i64 0] 43) := ⟨_, rfl⟩
  have hbW : Below w.heap.size w W := by rw [hW]; exact (((Below.refl _ _).alloc (Nat.le_refl _) _).alloc (by simp) _).alloc (by simp; omega) _
  have x2 : RBox W (w.heap.size + 1 + 1) 0 (.slice none 0 0) (.slice none 0 0) 0 0 0 := by
    rw [hW]; exact ⟨by simp [go_sem], by simp [go_sem], by simp [go_sem], by simp [go_sem], by simp [go_sem], by simp [go_sem], by simp⟩
  have x1 : RBox W (w.heap.size + 1) ph (.slice (some ⟨g, 0, none⟩) qs.length ac) (.slice (some ⟨h, 0, none⟩) ms.length bc) top at_ ro := by
    rw [hW]; exact ⟨by simp [go_sem], by simp [go_sem], by simp [go_sem], by simp [go_sem], by simp [go_sem], by simp [go_sem], by simp <;> omega⟩
  have x0 : SBox W w.heap.size wd now given births (.slice a ks.length sc) P L := by
    rw [hW]; exact ⟨by simp [go_sem], by simp [go_sem], by simp [go_sem], by simp [go_sem], by simp [go_sem], by simp [go_sem], by simp [go_sem], by simp <;> omega⟩
  have fr : ∀ o, W.frozen? ⟨w.heap.size + 1 + 1, o, none⟩ = false := fun o => by rw [hW]; simp [go_sem]
  have hzW : W.heap.size = w.heap.size + 3 := by rw [hW]; simp
  have HW : Hid _ := hW
  have HQ : Hid _ := And.intro hq hm
  have HK : Hid _ := hrow
  have HX1 : Hid _ := x1
  have HX2 : Hid _ := x2
  have HB1 : Hid _ := hbW
  clear hW hq hm hrow x1 x2
  obtain ⟨a0, a1, a2, a3, a4, a5, a6⟩ := HX1.out
  obtain ⟨y0, y1, y2, y3, y4, y5, y6, y7⟩ := x0
  have hb1 : Below W.heap.size W W := Below.refl _ _
  go_enter Try.func62, Try.ntmps62
  go_upto_region 1 with fail
  rw [← HW.out]
  clear HW
  by_cases p0 : ph = 0
  · have HN : Hid (shQ ph ks qs ms s = qs) := shQ_no (.inl p0)
    subst p0
    clear y0 y1 y2 y3 y4 y5 y6 y7
    obtain ⟨w1, rfl⟩ : ∃ w1, w1 = W := ⟨_, rfl⟩
    go_wp2_with fail
    refine (l6Round_any 0 top at_ ro g h ac bc qs ms w1 (SRow.below' HQ.out.1 HB1.out) (SRow.below' HQ.out.2 HB1.out) hf).mono ?_
    rintro e w2 ⟨x, cx, y, cy, rfl, ox, oy, hxy, hb2⟩
    have HO : Hid _ := And.intro (ox.mono (show w.heap.size + 3 ≤ w1.heap.size by omega)) (And.intro (oy.mono (show w.heap.size + 3 ≤ w1.heap.size by omega)) (And.intro hxy (HB1.out.trans (hb2.mono HB1.out.size))))
    obtain ⟨d0, d1, d2, d3, d4, d5, d6⟩ := RBox.below HX2.out hb2
    have fr2 : ∀ o, w2.frozen? ⟨w.heap.size + 1 + 1, o, none⟩ = false := fun o => (hb2.frozen (p := ⟨w.heap.size + 1 + 1, o, none⟩) (by simp <;> omega)).trans (fr o)
    clear ox oy hb2 a0 a1 a2 a3 a4 a5 fr
    go_wp2
    refine bodyPost_ret (v := .agg #[.int .i64 0, .slice (some ⟨x, 0, none⟩) qs.length cx, .slice (some ⟨y, 0, none⟩) ms.length cy, .int .i64 top, .int .i64 at_, .int .i64 ro]) (by simp [results, Try.results62, go_sem, d0, d1, d2, d3, d4, d5]) rfl ?_
    rw [HN.out]
    refine ⟨x, cx, y, cy, rfl, ?_, ?_, HO.out.2.2.1, ?_⟩
    · refine World.ownsRow.mono ?_ (show w.heap.size ≤ w.heap.size + 3 by omega)
      iterate 6 (refine ownsRow_setCell_below ?_ (by simp) _)
      exact HO.out.1
    · refine World.ownsRow.mono ?_ (show w.heap.size ≤ w.heap.size + 3 by omega)
      iterate 6 (refine ownsRow_setCell_below ?_ (by simp) _)
      exact HO.out.2.1
    · iterate 6 (refine Below.setCell ?_ (by simp <;> omega) _)
      exact HO.out.2.2.2
  have p0' : (ph == 0) = false := by simpa using p0
  go_wp2_with fail
  refine (find_any wd now given births a sc P L ks s W w.heap.size (KRow.below HK.out hbW) hbW.size hkl).mono ?_
  rintro e w1 ⟨rfl, hb3⟩
  have HB1' : Hid _ := HB1.out.trans (hb3.mono HB1.out.size)
  have HX1' : Hid _ := RBox.below HX1.out hb3
  have HX2' : Hid _ := RBox.below HX2.out hb3
  have fr' : ∀ o, w1.frozen? ⟨w.heap.size + 1 + 1, o, none⟩ = false := fun o => (hb3.frozen (p := ⟨w.heap.size + 1 + 1, o, none⟩) (by simp <;> omega)).trans (fr o)
  have hz3 := hb3.size
  clear a0 a1 a2 a3 a4 a5 a6 y0 y1 y2 y3 y4 y5 y6 y7 HX1 HX2 HB1 fr hb3 hb1 hbW
  have HB1 : Hid _ := HB1'.out
  have HX2 : Hid _ := HX2'.out
  have fr := fr'
  clear HB1' HX2' fr'
  obtain ⟨a0, a1, a2, a3, a4, a5, a6⟩ := HX1'.out
  rcases findI_cases ks s with ⟨hfi, hno⟩ | ⟨fi, fu, hfi, hfu, hfs⟩
  · have HN : Hid (shQ ph ks qs ms s = qs) := shQ_no (.inr (.inl hno))
    rw [hfi]
    clear hno
    go_wp2_with fail
    refine (l6Round_any ph top at_ ro g h ac bc qs ms w1 (SRow.below' HQ.out.1 HB1.out) (SRow.below' HQ.out.2 HB1.out) hf).mono ?_
    rintro e w2 ⟨x, cx, y, cy, rfl, ox, oy, hxy, hb2⟩
    have HO : Hid _ := And.intro (ox.mono (show w.heap.size + 3 ≤ w1.heap.size by omega)) (And.intro (oy.mono (show w.heap.size + 3 ≤ w1.heap.size by omega)) (And.intro hxy (HB1.out.trans (hb2.mono HB1.out.size))))
    obtain ⟨d0, d1, d2, d3, d4, d5, d6⟩ := RBox.below HX2.out hb2
    have fr2 : ∀ o, w2.frozen? ⟨w.heap.size + 1 + 1, o, none⟩ = false := fun o => (hb2.frozen (p := ⟨w.heap.size + 1 + 1, o, none⟩) (by simp <;> omega)).trans (fr o)
    clear ox oy hb2 a0 a1 a2 a3 a4 a5 fr
    go_wp2
    refine bodyPost_ret (v := .agg #[.int .i64 ph, .slice (some ⟨x, 0, none⟩) qs.length cx, .slice (some ⟨y, 0, none⟩) ms.length cy, .int .i64 top, .int .i64 at_, .int .i64 ro]) (by simp [results, Try.results62, go_sem, d0, d1, d2, d3, d4, d5]) rfl ?_
    rw [HN.out]
    refine ⟨x, cx, y, cy, rfl, ?_, ?_, HO.out.2.2.1, ?_⟩
    · refine World.ownsRow.mono ?_ (show w.heap.size ≤ w.heap.size + 3 by omega)
      iterate 6 (refine ownsRow_setCell_below ?_ (by simp) _)
      exact HO.out.1
    · refine World.ownsRow.mono ?_ (show w.heap.size ≤ w.heap.size + 3 by omega)
      iterate 6 (refine ownsRow_setCell_below ?_ (by simp) _)
      exact HO.out.2.1
    · iterate 6 (refine Below.setCell ?_ (by simp <;> omega) _)
      exact HO.out.2.2.2
  have hth : There ks s := ⟨fu, List.mem_of_getElem? hfu, hfs⟩
  rw [hfi]
  have hneg : decide ((fi : Int) < 0) = false := by simp
  clear hfi hfu hfs
  have HC : Hid _ := has_any (some ⟨h, 0, none⟩) bc ms s w1 w1.heap.size (SRow.below' (w := w) HQ.out.2 HB1.out) hfm
  go_wp2_with fail
  refine Calls.mono HC.out ?_
  rintro e w9 ⟨rfl, hw9⟩
  rw [hw9]
  clear hw9 HC w9
  by_cases hin : s ∈ ms
  · have HN : Hid (shQ ph ks qs ms s = qs) := shQ_no (.inr (.inr (.inl hin)))
    have hany : ms.any (fun x => decide (x = s)) = true := List.any_eq_true.2 ⟨s, hin, by simp⟩
    rw [hany]
    clear hany hin
    go_wp2_with fail
    refine (l6Round_any ph top at_ ro g h ac bc qs ms w1 (SRow.below' HQ.out.1 HB1.out) (SRow.below' HQ.out.2 HB1.out) hf).mono ?_
    rintro e w2 ⟨x, cx, y, cy, rfl, ox, oy, hxy, hb2⟩
    have HO : Hid _ := And.intro (ox.mono (show w.heap.size + 3 ≤ w1.heap.size by omega)) (And.intro (oy.mono (show w.heap.size + 3 ≤ w1.heap.size by omega)) (And.intro hxy (HB1.out.trans (hb2.mono HB1.out.size))))
    obtain ⟨d0, d1, d2, d3, d4, d5, d6⟩ := RBox.below HX2.out hb2
    have fr2 : ∀ o, w2.frozen? ⟨w.heap.size + 1 + 1, o, none⟩ = false := fun o => (hb2.frozen (p := ⟨w.heap.size + 1 + 1, o, none⟩) (by simp <;> omega)).trans (fr o)
    clear ox oy hb2 a0 a1 a2 a3 a4 a5 fr
    go_wp2
    refine bodyPost_ret (v := .agg #[.int .i64 ph, .slice (some ⟨x, 0, none⟩) qs.length cx, .slice (some ⟨y, 0, none⟩) ms.length cy, .int .i64 top, .int .i64 at_, .int .i64 ro]) (by simp [results, Try.results62, go_sem, d0, d1, d2, d3, d4, d5]) rfl ?_
    rw [HN.out]
    refine ⟨x, cx, y, cy, rfl, ?_, ?_, HO.out.2.2.1, ?_⟩
    · refine World.ownsRow.mono ?_ (show w.heap.size ≤ w.heap.size + 3 by omega)
      iterate 6 (refine ownsRow_setCell_below ?_ (by simp) _)
      exact HO.out.1
    · refine World.ownsRow.mono ?_ (show w.heap.size ≤ w.heap.size + 3 by omega)
      iterate 6 (refine ownsRow_setCell_below ?_ (by simp) _)
      exact HO.out.2.1
    · iterate 6 (refine Below.setCell ?_ (by simp <;> omega) _)
      exact HO.out.2.2.2
  have hany : ms.any (fun x => decide (x = s)) = false := by
    rw [List.any_eq_false]
    intro x hx e
    exact hin (by simpa using (of_decide_eq_true e) ▸ hx)
  rw [hany]
  clear hany
  by_cases p1 : qs.length = 23200
  · have HN : Hid (shQ ph ks qs ms s = qs) := shQ_no (.inr (.inr (.inr p1)))
    have p1' : decide ((23200 : Int) ≤ (qs.length : Int)) = true := by simp; omega
    clear p1
    go_wp2_with fail
    refine (l6Round_any ph top at_ ro g h ac bc qs ms w1 (SRow.below' HQ.out.1 HB1.out) (SRow.below' HQ.out.2 HB1.out) hf).mono ?_
    rintro e w2 ⟨x, cx, y, cy, rfl, ox, oy, hxy, hb2⟩
    have HO : Hid _ := And.intro (ox.mono (show w.heap.size + 3 ≤ w1.heap.size by omega)) (And.intro (oy.mono (show w.heap.size + 3 ≤ w1.heap.size by omega)) (And.intro hxy (HB1.out.trans (hb2.mono HB1.out.size))))
    obtain ⟨d0, d1, d2, d3, d4, d5, d6⟩ := RBox.below HX2.out hb2
    have fr2 : ∀ o, w2.frozen? ⟨w.heap.size + 1 + 1, o, none⟩ = false := fun o => (hb2.frozen (p := ⟨w.heap.size + 1 + 1, o, none⟩) (by simp <;> omega)).trans (fr o)
    clear ox oy hb2 a0 a1 a2 a3 a4 a5 fr
    go_wp2
    refine bodyPost_ret (v := .agg #[.int .i64 ph, .slice (some ⟨x, 0, none⟩) qs.length cx, .slice (some ⟨y, 0, none⟩) ms.length cy, .int .i64 top, .int .i64 at_, .int .i64 ro]) (by simp [results, Try.results62, go_sem, d0, d1, d2, d3, d4, d5]) rfl ?_
    rw [HN.out]
    refine ⟨x, cx, y, cy, rfl, ?_, ?_, HO.out.2.2.1, ?_⟩
    · refine World.ownsRow.mono ?_ (show w.heap.size ≤ w.heap.size + 3 by omega)
      iterate 6 (refine ownsRow_setCell_below ?_ (by simp) _)
      exact HO.out.1
    · refine World.ownsRow.mono ?_ (show w.heap.size ≤ w.heap.size + 3 by omega)
      iterate 6 (refine ownsRow_setCell_below ?_ (by simp) _)
      exact HO.out.2.1
    · iterate 6 (refine Below.setCell ?_ (by simp <;> omega) _)
      exact HO.out.2.2.2
  have p1' : decide ((23200 : Int) ≤ (qs.length : Int)) = false := by simp; omega
  have HN : Hid (shQ ph ks qs ms s = qs ++ [s]) := shQ_yes p0 hth hin p1
  clear hth hin
  go_wp2_with fail
  refine (l6Round_any ph top at_ ro g h ac bc qs ms w1 (SRow.below' HQ.out.1 HB1.out) (SRow.below' HQ.out.2 HB1.out) hf).mono ?_
  rintro e w2 ⟨x, cx, y, cy, rfl, ox, oy, hxy, hb2⟩
  have lx := ox.lt x rfl
  have ly := oy.lt y rfl
  have hz2' := hb2.size
  obtain ⟨w3, hV⟩ : ∃ V, V = w2.alloc (.cells #[.int .i64 ph, .slice (some ⟨x, 0, none⟩) qs.length cx, .slice (some ⟨y, 0, none⟩) ms.length cy, .int .i64 top, .int .i64 at_, .int .i64 ro] 43) := ⟨_, rfl⟩
  have hAV : Below w2.heap.size w2 w3 := by rw [hV]; exact (Below.refl _ _).alloc (Nat.le_refl _) _
  have hb12 := hb2.trans (hAV.mono hz2')
  have HO : Hid (w3.ownsRow (w.heap.size + 3) 9 1 (.slice (some ⟨x, 0, none⟩) qs.length cx) qs.length (qs.map Value.string) ∧ w3.ownsRow (w.heap.size + 3) 9 1 (.slice (some ⟨y, 0, none⟩) ms.length cy) ms.length (ms.map Value.string) ∧ x ≠ y ∧ Below w.heap.size w w3) := ⟨(own_keep ox hAV).mono (by omega), (own_keep oy hAV).mono (by omega), hxy, HB1.out.trans (hb12.mono HB1.out.size)⟩
  have H8 : Hid (RBox w3 w2.heap.size ph (.slice (some ⟨x, 0, none⟩) qs.length cx) (.slice (some ⟨y, 0, none⟩) ms.length cy) top at_ ro) := by
    show RBox w3 w2.heap.size ph (.slice (some ⟨x, 0, none⟩) qs.length cx) (.slice (some ⟨y, 0, none⟩) ms.length cy) top at_ ro
    rw [hV]; exact RBox.new _ _ _ _ _ _ _ _
  have H2 : Hid _ := RBox.below HX2.out hb12
  have fr3 : ∀ o, w3.frozen? ⟨w.heap.size + 1 + 1, o, none⟩ = false := fun o => (hb12.frozen (p := ⟨w.heap.size + 1 + 1, o, none⟩) (by simp <;> omega)).trans (fr o)
  have f8 : ∀ o, w3.frozen? ⟨w2.heap.size, o, none⟩ = false := fun o => by rw [hV]; simp [go_sem]
  have hzV : w3.heap.size = w2.heap.size + 1 := by rw [hV]; simp
  go_upto_region 4 with fail
  rw [← hV]
  clear hV hAV ox oy hb2 hb12 fr HX1' HX2 HB1 HQ HK a0 a1 a2 a3 a4 a5 a6
  have fr := fr3
  clear fr3
  generalize w2.heap.size = b7 at *
  have hb7 : w.heap.size + 3 ≤ b7 := by omega
  have hb8 : b7 < w3.heap.size := by omega
  clear hzV
  obtain ⟨c0, c1, c2, c3, c4, c5, c6⟩ := H8.out
  obtain ⟨d0, d1, d2, d3, d4, d5, d6⟩ := H2.out
  go_wp2_with (first
    | (at_builtin; refine wpList_append_lies _ rfl _ _ 38 rfl (w.heap.size + 3) 9 i0 (.string ⟨#[]⟩) 1 16 Try.underlying38 hi hz0 hz1 hz2 rfl (by decide) _ qs.length (qs.map Value.string) rfl ?d0 ⟨w3.heap.size, 0, none⟩ 1 1 [.string s] rfl rfl ?d1 ?d2 (by decide) ?d3 ?d4 ?d5 _ rfl ?_)
    | go_in)
  case d0 => exact HO.out.1.alloc _
  case d1 => exact cell_one_new w3 (.string s) 9
  case d2 => intro u hu; simp at hu; subst hu; rfl
  case d3 => unfold maxLen; omega
  case d4 => omega
  case d5 => simp; omega
  intro k cap w4 ho4 hg4 hat4 hlt4
  have hBV : Below w3.heap.size w3 (w3.alloc (.cells #[.string s] 9)) := (Below.refl _ _).alloc (Nat.le_refl _) _
  have hz4 := hg4.size
  simp [Value.ownBlock] at hz4 hat4
  have hg4' : (w3.alloc (.cells #[.string s] 9)).grownBy w4 (some x) := by simpa [Value.ownBlock] using hg4
  have r7 := (RBox.below H8.out hBV).grown hg4' (by omega)
  have r2 := (RBox.below H2.out hBV).grown hg4' (by omega)
  have f7' : ∀ o, w4.frozen? ⟨b7, o, none⟩ = false := fun o => (hg4'.frozen_far ⟨b7, o, none⟩ (by simp <;> omega) (by simp <;> omega)).trans ((hBV.frozen (p := ⟨b7, o, none⟩) (by simp <;> omega)).trans (f8 o))
  have fr' : ∀ o, w4.frozen? ⟨w.heap.size + 1 + 1, o, none⟩ = false := fun o => (hg4'.frozen_far ⟨w.heap.size + 1 + 1, o, none⟩ (by simp <;> omega) (by simp <;> omega)).trans ((hBV.frozen (p := ⟨w.heap.size + 1 + 1, o, none⟩) (by simp <;> omega)).trans (fr o))
  have hoy : w4.ownsRow (w.heap.size + 3) 9 1 (.slice (some ⟨y, 0, none⟩) ms.length cy) ms.length (ms.map Value.string) := (HO.out.2.1.alloc _).kept hg4' (.inr (by simp [Value.ownBlock]; omega))
  have hB4 : Below w.heap.size w w4 := (HO.out.2.2.2.trans (hBV.mono HO.out.2.2.2.size)).grown hg4' (by simp; omega) (fun j hj => by cases hj; omega)
  have hky : k ≠ y := by omega
  have hk7 : ¬ k = b7 := by omega
  have hB7 : ¬ b7 = w.heap.size + 1 + 1 := by omega
  have hB7' : ¬ w.heap.size + 1 + 1 = b7 := by omega
  have hok : w4.ownsRow (w.heap.size + 3) 9 1 (.slice (some ⟨k, 0, none⟩) (qs.length + 1) cap) (qs.length + 1) ((qs ++ [s]).map Value.string) := by simpa using ho4
  have HP : Hid _ := And.intro hok (And.intro hoy (And.intro hky hB4))
  obtain ⟨c0, c1, c2, c3, c4, c5, c6⟩ := r7
  obtain ⟨d0, d1, d2, d3, d4, d5, d6⟩ := r2
  clear ho4 hok hoy hg4 hg4' hB4 hBV f8 fr H8 H2 HO
  go_wp2
  refine bodyPost_ret (v := .agg #[.int .i64 ph, .slice (some ⟨k, 0, none⟩) (qs.length + 1) cap, .slice (some ⟨y, 0, none⟩) ms.length cy, .int .i64 top, .int .i64 at_, .int .i64 ro]) (by simp [results, Try.results62, go_sem, d0, d1, d2, d3, d4, d5]) rfl ?_
  rw [HN.out]
  refine ⟨k, cap, y, cy, by simp, ?_, ?_, HP.out.2.2.1, ?_⟩
  · rw [show (qs ++ [s]).length = qs.length + 1 by simp]
    refine World.ownsRow.mono ?_ (show w.heap.size ≤ w.heap.size + 3 by omega)
    iterate 6 (refine ownsRow_setCell_below ?_ (by simp) _)
    refine ownsRow_setCell_other ?_ (by simp [Value.ownBlock]; omega) _
    exact HP.out.1
  · refine World.ownsRow.mono ?_ (show w.heap.size ≤ w.heap.size + 3 by omega)
    iterate 6 (refine ownsRow_setCell_below ?_ (by simp) _)
    refine ownsRow_setCell_other ?_ (by simp [Value.ownBlock]; omega) _
    exact HP.out.2.1
  · iterate 7 (refine Below.setCell ?_ (by simp <;> omega) _)
    exact HP.out.2.2.2

end Go.Proofs.Ytbelneejghdmoaa
