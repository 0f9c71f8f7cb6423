/-
  impl.Shade.
-/
import Derived.Test.YtbelneejghdmoaaShJ
import Derived.Test.YtbelneejghdmoaaRdW
namespace Go.Proofs.Ytbelneejghdmoaa
open Go.ChangeShapes Go.WideShapes Go.ChangeAt Go.RowKit

open Classical in
noncomputable def sel {α : Type} (P : Prop) (a b : α) : α := if P then a else b
theorem sel_yes {α : Type} {P : Prop} (h : P) (a b : α) : sel P a b = a := if_pos h
theorem sel_no {α : Type} {P : Prop} (h : ¬ P) (a b : α) : sel P a b = b := if_neg h

theorem stateOk_sizes {wd now given births : Int} {ks : List Kd} {ps : List Pd} {ls : List Ld} (h : StateOk wd now given births ks ps ls) : ∀ k ∈ ks, (k.sum.size : Int) = wd := by
  intro k hk
  obtain ⟨i, hi⟩ := List.getElem?_of_mem hk
  rw [(h.th i k hi).sum]
  exact sumOf_size k wd h.nums.wd1

set_option maxRecDepth 20000 in
set_option maxHeartbeats 8000000 in
theorem iShade_any (wd now given births : Int) (ga gp gl : Nat) (ac pc lc : Nat) (ks : List Kd) (ps : List Pd) (ls : List Ld) (ph top at_ ro : Int) (g h : Nat) (qac mac : Nat) (qs ms : List ByteArray) (s : ByteArray) (w : World)
    (hrow : SRows w w.heap.size (some ⟨ga, 0, none⟩) (some ⟨gp, 0, none⟩) (some ⟨gl, 0, none⟩) ks ps ls) (hk : KMem ks) (hp : PMem ps) (hl : LMem ls) (hf : SFit ks ps ls) (hbw : ∀ k ∈ ks, (Lit.int .i64 k.born).wf = true) (hq : SRow w w.heap.size (some ⟨g, 0, none⟩) qs) (hm : SRow w w.heap.size (some ⟨h, 0, none⟩) ms) (hrf : RFit qs ms) :
    Calls Try.prog 22 #[.agg #[.int .i64 wd, .int .i64 now, .int .i64 given, .int .i64 births, .slice (some ⟨ga, 0, none⟩) ks.length ac, .slice (some ⟨gp, 0, none⟩) ps.length pc, .slice (some ⟨gl, 0, none⟩) ls.length lc], .agg #[.int .i64 ph, .slice (some ⟨g, 0, none⟩) qs.length qac, .slice (some ⟨h, 0, none⟩) ms.length mac, .int .i64 top, .int .i64 at_, .int .i64 ro], .string s] w fun e w' => ∃ a' b' c' d', e = .returned (.agg #[.int .i64 (sel (StateOk wd now given births ks ps ls ∧ RoundOk wd births ph top at_ ro qs ms) ph 0), .slice a' (sel (StateOk wd now given births ks ps ls ∧ RoundOk wd births ph top at_ ro qs ms) (shQ ph ks qs ms s) []).length c', .slice b' (sel (StateOk wd now given births ks ps ls ∧ RoundOk wd births ph top at_ ro qs ms) ms []).length d', .int .i64 (sel (StateOk wd now given births ks ps ls ∧ RoundOk wd births ph top at_ ro qs ms) top 0), .int .i64 (sel (StateOk wd now given births ks ps ls ∧ RoundOk wd births ph top at_ ro qs ms) at_ 0), .int .i64 (sel (StateOk wd now given births ks ps ls ∧ RoundOk wd births ph top at_ ro qs ms) ro 0)]) ∧
      w'.ownsRow w.heap.size 9 1 (.slice a' (sel (StateOk wd now given births ks ps ls ∧ RoundOk wd births ph top at_ ro qs ms) (shQ ph ks qs ms s) []).length c') (sel (StateOk wd now given births ks ps ls ∧ RoundOk wd births ph top at_ ro qs ms) (shQ ph ks qs ms s) []).length ((sel (StateOk wd now given births ks ps ls ∧ RoundOk wd births ph top at_ ro qs ms) (shQ ph ks qs ms s) []).map Value.string) ∧ w'.ownsRow w.heap.size 9 1 (.slice b' (sel (StateOk wd now given births ks ps ls ∧ RoundOk wd births ph top at_ ro qs ms) ms []).length d') (sel (StateOk wd now given births ks ps ls ∧ RoundOk wd births ph top at_ ro qs ms) ms []).length ((sel (StateOk wd now given births ks ps ls ∧ RoundOk wd births ph top at_ ro qs ms) ms []).map Value.string) ∧
      ((Value.slice b' (sel (StateOk wd now given births ks ps ls ∧ RoundOk wd births ph top at_ ro qs ms) ms []).length d').ownBlock = none ∨ (Value.slice b' (sel (StateOk wd now given births ks ps ls ∧ RoundOk wd births ph top at_ ro qs ms) ms []).length d').ownBlock ≠ (Value.slice a' (sel (StateOk wd now given births ks ps ls ∧ RoundOk wd births ph top at_ ro qs ms) (shQ ph ks qs ms s) []).length c').ownBlock) ∧ Below w.heap.size w w' := by
  obtain ⟨W, hW⟩ : ∃ W, W = ((w.alloc (.cells #[.int .i64 wd, .int .i64 now, .int .i64 given, .int .i64 births, .slice (some ⟨ga, 0, none⟩) ks.length ac, .slice (some ⟨gp, 0, none⟩) ps.length pc, .slice (some ⟨gl, 0, none⟩) ls.length lc] 33)).alloc (.cells #[.int .i64 ph, .slice (some ⟨g, 0, none⟩) qs.length qac, .slice (some ⟨h, 0, none⟩) ms.length mac, .int .i64 top, .int .i64 at_, .int .i64 ro] 43)).alloc (.cells #[.int .i64 0, .slice none 0 0, .slice none 0 0, .int .i64 0, .int .i64 0, .int .i64 0] 43) := ⟨_, rfl⟩
  have hbW : Below w.heap.size w W := by rw [hW]; exact (((Below.refl _ _).alloc (Nat.le_refl _) _).alloc (by simp) _).alloc (by simp; omega) _
  have x2 : RBox W (w.heap.size + 1 + 1) 0 (.slice none 0 0) (.slice none 0 0) 0 0 0 := by
    rw [hW]; exact ⟨by simp [go_sem], by simp [go_sem], by simp [go_sem], by simp [go_sem], by simp [go_sem], by simp [go_sem], by simp⟩
  have x1 : RBox W (w.heap.size + 1) ph (.slice (some ⟨g, 0, none⟩) qs.length qac) (.slice (some ⟨h, 0, none⟩) ms.length mac) top at_ ro := by
    rw [hW]; exact ⟨by simp [go_sem], by simp [go_sem], by simp [go_sem], by simp [go_sem], by simp [go_sem], by simp [go_sem], by simp <;> omega⟩
  have x0 : SBox W w.heap.size wd now given births (.slice (some ⟨ga, 0, none⟩) ks.length ac) (.slice (some ⟨gp, 0, none⟩) ps.length pc) (.slice (some ⟨gl, 0, none⟩) ls.length lc) := by
    rw [hW]; exact ⟨by simp [go_sem], by simp [go_sem], by simp [go_sem], by simp [go_sem], by simp [go_sem], by simp [go_sem], by simp [go_sem], by simp <;> omega⟩
  have f2 : ∀ o, W.frozen? ⟨w.heap.size + 1 + 1, o, none⟩ = false := fun o => by rw [hW]; simp [go_sem]
  have hzW : W.heap.size = w.heap.size + 3 := by rw [hW]; simp
  have HW : Hid _ := hW
  clear hW
  go_enter Try.func22, Try.ntmps22
  go_wp2_with fail
  rw [← HW.out]
  refine (iValidRound_any wd now given births _ _ _ _ _ _ ks ps ls ph top at_ ro _ _ _ _ qs ms W (hrow.below' hbW) hk hp hl hf hbw (hq.below' hbW) (hm.below' hbW) hrf).mono ?_
  rintro e w2 ⟨b2, rfl, hs2, hb2⟩
  have hB2 := hbW.trans (hb2.mono hbW.size)
  have HX0 : Hid _ := x0.below hb2
  have HX1 : Hid _ := x1.below hb2
  have HX2 : Hid _ := x2.below hb2
  have fr : ∀ o, w2.frozen? ⟨w.heap.size + 1 + 1, o, none⟩ = false := fun o => (hb2.frozen (p := ⟨w.heap.size + 1 + 1, o, none⟩) (by simp <;> omega)).trans (f2 o)
  have hz2 := hb2.size
  have HS2 : Hid _ := hs2
  have HB2 : Hid _ := hB2
  clear hb2 x0 x1 x2 f2 HW hs2 hbW
  cases b2 with
  | false =>
    have HP : Hid (¬ (StateOk wd now given births ks ps ls ∧ RoundOk wd births ph top at_ ro qs ms)) := fun hp => by have := HS2.out.2 hp; cases this
    obtain ⟨d0, d1, d2, d3, d4, d5, d6⟩ := HX2.out
    clear hrow hk hp hl hf hbw hq hm hB2 HX0 HX1 HX2 HS2
    go_wp2
    refine bodyPost_ret (v := .agg #[.int .i64 0, .slice none 0 0, .slice none 0 0, .int .i64 0, .int .i64 0, .int .i64 0]) (by simp [results, Try.results22, go_sem, d0, d1, d2, d3, d4, d5]) rfl ?_
    simp only [sel_no HP.out]
    refine ⟨none, none, 0, 0, rfl, World.ownsRow_nil _ _ _ _, World.ownsRow_nil _ _ _ _, .inl rfl, ?_⟩
    iterate 6 (refine Below.setCell ?_ (by simp <;> omega) _)
    exact HB2.out
  | true =>
    have hP := HS2.out.1 rfl
    have HP : Hid _ := hP
    have HQ2 : Hid _ := And.intro (hq.below' hB2) (hm.below' hB2)
    have HSh : Hid _ := And.intro (hrow.below' hB2) (stateOk_sizes hP.1)
    have hwd := hP.1.nums.wd2
    have hfk := hf.k
    obtain ⟨y0, y1, y2, y3, y4, y5, y6, y7⟩ := HX0.out
    obtain ⟨a0, a1, a2, a3, a4, a5, a6⟩ := HX1.out
    clear hrow hk hp hl hf hbw hq hm hB2 HS2 hP
    go_wp2_with fail
    go_region_with (first
      | (go_at_call 49; refine (shelfOf_any wd now given births _ ac _ _ ks w2.drew HSh.out.1.k hfk HSh.out.2 hwd).mono ?_; rintro e w3 ⟨mm, f, rfl, _, hM3, hH3, hb3⟩; have hB3 : Below w2.heap.size w2 w3 := (Below.refl w2.heap.size w2).drew.trans hb3; obtain ⟨e0, e1, e2, e3, e4, e5, e6⟩ := RBox.below HX1.out hB3; have hhas : HasAt w3 wd mm ks s := shelf_has wd mm _ f ks _ _ s w3 hM3 hH3 HSh.out.2)
      | (go_at_call 63; refine (shade_any wd mm ks s ph top at_ ro g h qac mac qs ms w3 hhas (SRow.below' HQ2.out.1 hB3) (SRow.below' HQ2.out.2 hB3) hrf).mono ?_; rintro e w4 ⟨x, cx, y, cy, rfl, ox, oy, hxy, hb4⟩; have hB4 : Below w2.heap.size w2 w4 := hB3.trans (hb4.mono hB3.size); obtain ⟨d0, d1, d2, d3, d4, d5, d6⟩ := RBox.below HX2.out hB4; have fr4 : ∀ o, w4.frozen? ⟨w.heap.size + 1 + 1, o, none⟩ = false := (fun o => (hB4.frozen (p := ⟨w.heap.size + 1 + 1, o, none⟩) (by simp <;> omega)).trans (fr o))))
    all_goals
      have hz3 := hB3.size
      have hox := ox.mono (show w.heap.size + 3 ≤ w3.heap.size by omega)
      have hoy := oy.mono (show w.heap.size + 3 ≤ w3.heap.size by omega)
      have HO : Hid _ := And.intro hox (And.intro hoy (And.intro hxy (HB2.out.trans (hB4.mono HB2.out.size))))
      clear hox hoy ox oy hb4 hb3 hB3 hB4 hhas hM3 hH3 HX0 HX1 HX2 HSh HQ2 a0 a1 a2 a3 a4 a5 y0 y1 y2 y3 y4 y5 y6 fr
      go_wp2
      refine bodyPost_ret (v := .agg #[.int .i64 ph, .slice (some ⟨x, 0, none⟩) (shQ ph ks qs ms s).length cx, .slice (some ⟨y, 0, none⟩) ms.length cy, .int .i64 top, .int .i64 at_, .int .i64 ro]) (by simp [results, Try.results22, go_sem, d0, d1, d2, d3, d4, d5]) rfl ?_
      simp only [sel_yes HP.out]
      refine ⟨some ⟨x, 0, none⟩, some ⟨y, 0, none⟩, cx, cy, rfl, ?_, ?_, .inr (by simp [Value.ownBlock]; exact fun e => HO.out.2.2.1 e.symm), ?_⟩
      · refine World.ownsRow.mono ?_ (show w.heap.size ≤ w.heap.size + 3 by omega)
        iterate 6 (refine ownsRow_setCell_below ?_ (by simp) _)
        exact HO.out.1
      · refine World.ownsRow.mono ?_ (show w.heap.size ≤ w.heap.size + 3 by omega)
        iterate 6 (refine ownsRow_setCell_below ?_ (by simp) _)
        exact HO.out.2.1
      · iterate 6 (refine Below.setCell ?_ (by simp <;> omega) _)
        exact HO.out.2.2.2

end Go.Proofs.Ytbelneejghdmoaa
