/-
  impl.Live, spec.Live.
-/
import Derived.Test.YtdecihmplkgfkaaGreatStLt
namespace Go.Proofs.YtdecihmplkgfkaaGreat
open Go.ChangeShapes Go.WideShapes Go.ChangeAt Go.RowKit
attribute [local go_sem ↓] Go.wp_at_zero Go.wp_at_succ

open Classical in
/-- The sums that can be reached, ascending. -/
noncomputable def liveL (ks : List Kd) (fr : List ByteArray) : List ByteArray := sortS ((ks.map (·.sum)).filter (fun s => decide (Reach ks fr s)))

open Classical in
noncomputable def liveA (wd now given births : Int) (ks : List Kd) (ps : List Pd) (ls : List Ld) : List ByteArray := if StateOk wd now given births ks ps ls then liveL ks (rootS ps ls) else []

open Classical in
theorem liveL_mem {ks : List Kd} {fr : List ByteArray} (ht : ∀ s, Reach ks fr s → There ks s) {s : ByteArray} : s ∈ (ks.map (·.sum)).filter (fun s => decide (Reach ks fr s)) ↔ Reach ks fr s := by
  rw [List.mem_filter]
  refine ⟨fun h => of_decide_eq_true h.2, fun h => ⟨?_, decide_eq_true h⟩⟩
  obtain ⟨u, hu, rfl⟩ := ht s h
  exact List.mem_map.2 ⟨u, hu, rfl⟩

theorem liveL_sort {ks : List Kd} {fr R : List ByteArray} (ht : ∀ s, Reach ks fr s → There ks s) (h : ∀ s, s ∈ R ↔ Reach ks fr s) : sortS R = liveL ks fr :=
  asc_eq (lt := fun a b => less a b = true) (fun a e => by rw [less_irrefl] at e; cases e) (fun _ _ _ h k => less_trans h k) _ _ (sortS_asc R) (sortS_asc _) (fun x => by unfold liveL; rw [sortS_all, sortS_all, h, liveL_mem ht])

theorem liveL_merge {ks : List Kd} {fr vs : List ByteArray} (ht : ∀ s, Reach ks fr s → There ks s) (hn : vs.Nodup) (h : ∀ s, s ∈ vs ↔ Reach ks fr s) : mergeB vs = liveL ks fr := mergeB_eq hn (fun s => (h s).trans (liveL_mem ht).symm)

theorem WalkOk.live {wd : Int} {ks : List Kd} {ps : List Pd} {ls : List Ld} (h : WalkOk wd ks ps ls) : ∀ s, Reach ks (rootS ps ls) s → There ks s := fun _ hr =>
  reach_there (E := dnE ks) (fun _ hs => h.roots hs) (fun _ hp => h.dn hp) (reach_dn.2 hr)

theorem mergeB_len (vs : List ByteArray) : (mergeB vs).length = vs.length := by simp [mergeB]

theorem vs_le {ks : List Kd} {vs : List ByteArray} (hn : vs.Nodup) (h : ∀ s ∈ vs, There ks s) : vs.length ≤ ks.length := by
  have := nodup_le hn (u := ks.map (·.sum)) (fun x hx => by obtain ⟨u, hu, rfl⟩ := h x hx; exact List.mem_map.2 ⟨u, hu, rfl⟩)
  simpa using this

set_option maxRecDepth 100000 in
theorem egLive : ∀ args w, (callFunc 25 args).run Tryz.prog w = .ok (.enter 25 args) w := fun _ _ => rfl

set_option maxRecDepth 20000 in
set_option maxHeartbeats 8000000 in
theorem iLive_any (wd now given births : Int) (a p l : Option Addr) (ac pc lc : Nat) (ks : List Kd) (ps : List Pd) (ls : List Ld) (w : World) (hrow : SRows w w.heap.size a p l ks ps ls) (hk : KMem ks) (hp : PMem ps) (hl : LMem ls) (hf : SFit ks ps ls) (hbw : ∀ k ∈ ks, (Lit.int .i64 k.born).wf = true) :
    Calls Tryz.prog 7 #[.agg #[.int .i64 wd, .int .i64 now, .int .i64 given, .int .i64 births, .slice a ks.length ac, .slice p ps.length pc, .slice l ls.length lc]] w fun e w' => ∃ v, e = .returned v ∧
      w'.ownsRow w.heap.size 9 1 v (liveA wd now given births ks ps ls).length ((liveA wd now given births ks ps ls).map Value.string) ∧ Below w.heap.size w w' := by
  have hmf : ∀ (fn : Fn) (first cap : Array Value) (w : World), (Instr.makeFunc fn first cap).run Tryz.prog w = .ok (.func fn first cap) w := fun _ _ _ _ => rfl
  obtain ⟨W1, hW1⟩ : ∃ W1, W1 = w.alloc (.cells #[.int .i64 wd, .int .i64 now, .int .i64 given, .int .i64 births, .slice a ks.length ac, .slice p ps.length pc, .slice l ls.length lc] 34) := ⟨_, rfl⟩
  have b1 : Below w.heap.size w W1 := by rw [hW1]; exact (Below.refl _ _).alloc (Nat.le_refl _) _
  have z1 : W1.heap.size = w.heap.size + 1 := by rw [hW1]; simp
  have X1 : SBox W1 w.heap.size wd now given births (.slice a ks.length ac) (.slice p ps.length pc) (.slice l ls.length lc) := by rw [hW1]; exact SBox.new w wd now given births _ _ _ 34
  have HW1 : Hid _ := hW1
  have HR : Hid _ := hrow
  have HM : Hid _ := And.intro hk (And.intro hp (And.intro hl (And.intro hf hbw)))
  have HX : Hid _ := X1
  obtain ⟨x0, x1, x2, x3, x4, x5, x6, x7⟩ := X1
  have hfk := hf.k
  clear hW1 hrow hk hp hl hf hbw
  go_enter Tryz.func7, Tryz.ntmps7
  go_upto_region 1 with fail
  rw [← HW1.out]
  clear HW1
  go_wp2_with fail
  refine (iValidState_any wd now given births a p l ac pc lc ks ps ls W1 (SRows.below' HR.out b1) HM.out.1 HM.out.2.1 HM.out.2.2.1 HM.out.2.2.2.1 HM.out.2.2.2.2).mono ?_
  rintro e w2 ⟨b2, rfl, hs2, hb2⟩
  have X2 : SBox w2 w.heap.size wd now given births (.slice a ks.length ac) (.slice p ps.length pc) (.slice l ls.length lc) := SBox.keep HX.out hb2 (by omega)
  have B2 : Below w.heap.size w w2 := b1.trans (hb2.mono b1.size)
  have z2 := hb2.size
  clear x0 x1 x2 x3 x4 x5 x6 x7
  cases b2 with
  | false =>
    have HN : Hid (¬ StateOk wd now given births ks ps ls) := fun h => by have := hs2.2 h; cases this
    clear hs2 X2 hb2 HX
    go_wp2
    go_ret
    refine ⟨_, rfl, ?_, B2⟩
    unfold liveA
    rw [if_neg HN.out]
    exact World.ownsRow_nil _ _ _ _
  | true =>
    have hP := hs2.1 rfl
    have HP : Hid _ := hP
    have HO : Hid _ := walkOk_of hP
    have hnk := hP.nth
    obtain ⟨W3, hW3⟩ : ∃ W3, W3 = w2.alloc (.cells #[.slice none 0 0] 28) := ⟨_, rfl⟩
    have b3 : Below w2.heap.size w2 W3 := by rw [hW3]; exact (Below.refl _ _).alloc (Nat.le_refl _) _
    have z3 : w2.heap.size < W3.heap.size := by rw [hW3]; simp
    have c3 : W3.cell? ⟨w2.heap.size, 0, none⟩ = some (.slice none 0 0) := by rw [hW3]; simp [go_sem]
    have f3 : W3.frozen? ⟨w2.heap.size, 0, none⟩ = false := by rw [hW3]; simp [go_sem]
    have X3 := X2.keep b3 (by omega)
    have B3 : Below w.heap.size w W3 := B2.trans (b3.mono B2.size)
    have HJ3 : Hid (∀ W, Below W3.heap.size W3 W → JApp w2.heap.size W.heap.size [] W) := fun W hb => ⟨_, (hb.cell (p := ⟨w2.heap.size, 0, none⟩) z3).trans c3, (hb.frozen (p := ⟨w2.heap.size, 0, none⟩) z3).trans f3, World.ownsRow_nil _ _ _ _⟩
    have HW3 : Hid _ := hW3
    have HX3 : Hid (SBox W3 w.heap.size wd now given births (.slice a ks.length ac) (.slice p ps.length pc) (.slice l ls.length lc)) := X3
    obtain ⟨x0, x1, x2, x3, x4, x5, x6, x7⟩ := X3
    obtain ⟨y0, y1, y2, y3, y4, y5, y6, y7⟩ := X2
    clear hW3 c3 f3 hs2 hP HX hb2
    go_upto_region 4 with fail
    rw [← HW3.out]
    clear HW3 y0 y1 y2 y3 y4 y5 y6 y7
    have R3 := SRows.below' HR.out B3
    go_wp2_with fail
    refine (walkLiveN_any 25 (.pointer (some ⟨w2.heap.size, 0, none⟩)) egLive wd now given births a p l ac pc lc ks ps ls [w2.heap.size] (JApp w2.heap.size) W3 R3.k R3.p R3.l HO.out (by intro q hq; simp at hq; omega) HJ3.out (fun n0 hn => japp_abides _ n0 (by omega)) (fun n0 vs W u ra rc hn hvs _ hJ hW => visitLive_any n0 _ vs W u ra rc (by omega) hW hvs hJ)).mono ?_
    rintro e w5 ⟨n0, vs, hn0, hn5, ⟨rv, rfl⟩, ⟨v5, hc5, hf5, ho5⟩, hnd, hiff, hV5⟩
    have HN5 : Hid (n0 ≤ w5.heap.size) := hn5
    have z5 := hV5.size
    have B5 : Below w.heap.size w w5 := ⟨hV5.os.trans B3.os, hV5.tape.trans B3.tape, hV5.output.trans B3.output, Nat.le_trans B3.size hV5.size, fun q hq => (hV5.old q (by omega) (by simp; omega)).trans (B3.block q hq)⟩
    have HE : Hid (mergeB vs = liveL ks (rootS ps ls)) := liveL_merge HO.out.live hnd hiff
    have hvl : vs.length ≤ 600 := by have := vs_le (ks := ks) hnd (fun s hs => HO.out.live s ((hiff s).1 hs)); omega
    have HS : Hid _ := sort_own ho5 hvl
    have hlt5 : ∀ g, v5.ownBlock = some g → n0 ≤ g := fun g hg => (ho5.lt g hg).1
    clear x0 x1 x2 x3 x4 x5 x6 x7 hV5 hiff R3 HJ3 HX3 ho5
    go_wp2_with fail
    refine Calls.mono HS.out ?_
    rintro e w6 ⟨rfl, ho6, hg6⟩
    have hle5 : n0 ≤ w5.heap.size := HN5.out
    have hb6 : Below n0 w5 w6 := (Below.refl n0 w5).grown hg6 hle5 hlt5
    have c6 : w6.cell? ⟨w2.heap.size, 0, none⟩ = some v5 := (hb6.cell (p := ⟨w2.heap.size, 0, none⟩) (by simp; omega)).trans hc5
    have B6 : Below w.heap.size w w6 := B5.trans (hb6.mono (by have := B3.size; omega))
    have HO6 : Hid (w6.ownsRow n0 9 1 v5 (mergeB vs).length ((mergeB vs).map Value.string)) := by show World.ownsRow _ _ _ _ _ _ _; rw [mergeB_len]; exact ho6
    clear hg6 hb6 ho6 HS
    go_wp2
    go_ret
    refine ⟨_, rfl, ?_, B6⟩
    unfold liveA
    rw [if_pos HP.out, ← HE.out]
    exact World.ownsRow.mono HO6.out (by have := B3.size; omega)

set_option maxRecDepth 20000 in
set_option maxHeartbeats 8000000 in
theorem sLive_any (wd now given births : Int) (a p l : Option Addr) (ac pc lc : Nat) (ks : List Kd) (ps : List Pd) (ls : List Ld) (w : World) (hrow : SRows w w.heap.size a p l ks ps ls) (hk : KMem ks) (hp : PMem ps) (hf : SFit ks ps ls) :
    Calls Tryz.prog 5 #[.agg #[.int .i64 wd, .int .i64 now, .int .i64 given, .int .i64 births, .slice a ks.length ac, .slice p ps.length pc, .slice l ls.length lc]] w fun e w' => ∃ v, e = .returned v ∧
      w'.ownsRow w.heap.size 9 1 v (liveA wd now given births ks ps ls).length ((liveA wd now given births ks ps ls).map Value.string) ∧ Below w.heap.size w w' := by
  by_cases hP : StateOk wd now given births ks ps ls
  · refine (sLive_yes wd now given births a p l ac pc lc ks ps ls w hrow hk hp hf hP).mono ?_
    rintro e w4 ⟨gl, cl, R, rfl, ho4, hiff, hnd, hRl, hb4⟩
    refine ⟨_, rfl, ?_, hb4⟩
    unfold liveA
    rw [if_pos hP, ← liveL_sort (walkOk_of hP).live hiff]
    exact ho4
  · obtain ⟨W1, hW1⟩ : ∃ W1, W1 = w.alloc (.cells #[.int .i64 wd, .int .i64 now, .int .i64 given, .int .i64 births, .slice a ks.length ac, .slice p ps.length pc, .slice l ls.length lc] 34) := ⟨_, rfl⟩
    have b1 : Below w.heap.size w W1 := by rw [hW1]; exact (Below.refl _ _).alloc (Nat.le_refl _) _
    have X1 : SBox W1 w.heap.size wd now given births (.slice a ks.length ac) (.slice p ps.length pc) (.slice l ls.length lc) := by rw [hW1]; exact SBox.new w wd now given births _ _ _ 34
    have HW1 : Hid _ := hW1
    have HN : Hid _ := hP
    obtain ⟨x0, x1, x2, x3, x4, x5, x6, x7⟩ := X1
    have HV : Hid _ := sValidState_any wd now given births a p l ac pc lc ks ps ls W1 (SRows.below' hrow b1) hk hp hf
    clear hW1 hrow hk hp hf hP
    go_enter Tryz.func5, Tryz.ntmps5
    go_upto_region 1 with fail
    rw [← HW1.out]
    clear HW1
    go_wp2_with fail
    refine Calls.mono HV.out ?_
    rintro e w2 ⟨b2, rfl, hs2, hb2⟩
    have hb2f : b2 = false := by
      cases b2 with
      | false => rfl
      | true => exact absurd (hs2.1 rfl) HN.out
    subst hb2f
    have B2 : Below w.heap.size w w2 := b1.trans (hb2.mono b1.size)
    clear hs2 hb2 x0 x1 x2 x3 x4 x5 x6 x7 HV
    go_wp2
    go_ret
    refine ⟨_, rfl, ?_, B2.alloc B2.size _⟩
    unfold liveA
    rw [if_neg HN.out]
    exact World.ownsRow_lit (base := w.heap.size) (e := 9) (size := 1) w2 #[] 0 B2.size (by unfold maxLen; omega) rfl

theorem liveA_len (wd now given births : Int) (ks : List Kd) (ps : List Pd) (ls : List Ld) (hf : SFit ks ps ls) : (liveA wd now given births ks ps ls).length ≤ 1048576 := by
  unfold liveA
  split
  · unfold liveL
    have h1 := sortS_length ((ks.map (·.sum)).filter (fun s => @decide (Reach ks (rootS ps ls) s) (Classical.propDecidable _)))
    have h2 := List.length_filter_le (fun s => @decide (Reach ks (rootS ps ls) s) (Classical.propDecidable _)) (ks.map (·.sum))
    have h3 := hf.k
    rw [List.length_map] at h2
    omega
  · simp

end Go.Proofs.YtdecihmplkgfkaaGreat
