/-
  (disk).all: the safe part, then the loose one.
-/
import Derived.Test.YtdecihmplkgfkaaLog
namespace Go.Proofs.Ytdecihmplkgfkaa
open Go.RowKit

attribute [local go_sem] Oper.semAt_some

theorem Stable.and {B : Nat} {J K : Nat → World → Prop} (h : Stable B J) (k : Stable B K) : Stable B (fun n W => J n W ∧ K n W) :=
  fun n W W' row hj hg hr => ⟨h n W W' row hj.1 hg hr, k n W W' row hj.2 hg hr⟩

theorem stable_below {B n0 : Nat} (w : World) (hw : n0 ≤ w.heap.size) (hn : n0 ≤ B) : Stable B (fun _ W => Below n0 w W) :=
  fun _ W W' row hj hg hr => ⟨hg.os.trans hj.os, hg.tape.trans hj.tape, hg.output.trans hj.output, Nat.le_trans hj.size hg.size, fun k hk =>
    (hg.block k (by have := hj.size; omega) (fun e => by have := (hr k e.symm).1; omega)).trans (hj.block k hk)⟩

theorem stable_block {B b : Nat} (o : Obj) (hb : b < B) : Stable B (fun _ W => W.heap[b]? = some o) :=
  fun _ W W' row hj hg hr => (hg.block b (Array.getElem?_eq_some_iff.1 hj).1 (fun e => by have := (hr b e.symm).1; omega)).trans hj

set_option maxRecDepth 100000 in
set_option maxHeartbeats 2000000 in
theorem all_iter (a a' : Option Addr) (cap cap' : Nat) (ss tt : List ByteArray) (n0 : Nat) (w : World) (hrow : SRow w n0 a ss) (hrow' : SRow w n0 a' tt) (hn0 : n0 ≤ w.heap.size) (hl : ss.length ≤ maxLen) (hl' : tt.length ≤ maxLen) :
    IterOk Try.prog 84 (fun l => #[.agg #[.slice a ss.length cap, .slice a' tt.length cap'], .func (.yield l) #[] #[]]) (ss ++ tt) n0 w := by
  intro l J Jx W hW hJ hJx hY h0 m
  refine callsIn_of_wp_marks Try.func84 rfl trivial ?_ rfl
  simp only [Try.ntmps84, List.size_toArray, List.length_cons, List.length_nil, Nat.reduceAdd, Nat.reduceSub, Array.replicate_succ, Array.replicate_zero, List.push_toArray, List.append_toArray, List.nil_append, List.cons_append]
  gi_wp2
  have hWn : n0 ≤ W.heap.size := Nat.le_trans hn0 hW.size
  obtain ⟨W0, hW0⟩ : ∃ W0, W0 = (W.alloc (.cells #[.slice a ss.length cap, .slice a' tt.length cap'] 113)).alloc (.cells #[.func (.yield l) #[] #[]] 127) := ⟨_, rfl⟩
  have hs0 : W0.heap.size = W.heap.size + 2 := by rw [hW0]; simp
  have hd0 : W0.heap[W.heap.size]? = some (.cells #[.slice a ss.length cap, .slice a' tt.length cap'] 113) := by
    rw [hW0]; exact (Below.heap_alloc _ _ _ (by simp)).trans (World.alloc_heap_new _ _)
  have hy0 : W0.heap[W.heap.size + 1]? = some (.cells #[.func (.yield l) #[] #[]] 127) := by
    rw [hW0]; have := World.alloc_heap_new (W.alloc (.cells #[.slice a ss.length cap, .slice a' tt.length cap'] 113)) (.cells #[.func (.yield l) #[] #[]] 127)
    rwa [World.size_alloc] at this
  have hb0 : Below n0 W W0 := by rw [hW0]; exact ((Below.refl _ W).alloc hWn _).alloc (by simp; omega) _
  have hJ0 : J 0 W0 := by rw [hW0]; exact hJ.alloc _ (hJ.alloc _ h0)
  rw [← hW0]
  clear hW0
  have hr1 : SRow W0 n0 a ss := (hrow.below (hW.mono hn0)).below hb0
  have hr2 : SRow W0 n0 a' tt := (hrow'.below (hW.mono hn0)).below hb0
  refine wp_range (gf := 87) (pre := #[.agg #[.slice a ss.length cap]]) (lb := #[]) rfl (enters_of Try.func87 (by kernel_rfl) rfl) (xs := ss) (n0 := n0)
    (by simpa using kept_iter a cap ss n0 W0 hr1 (by omega) hl) (by omega) rfl
    (fun k V => J k V ∧ Below n0 W0 V ∧ V.heap[W.heap.size]? = some (.cells #[.slice a ss.length cap, .slice a' tt.length cap'] 113) ∧ V.heap[W.heap.size + 1]? = some (.cells #[.func (.yield l) #[] #[]] 127))
    Jx ((hJ.mono (by omega)).and ((stable_below W0 (by omega) (by omega)).and ((stable_block _ (by omega)).and (stable_block _ (by omega))))) (hJx.mono (by omega))
    ⟨hJ0, Below.refl _ _, hd0, hy0⟩ (fun s => { tmps := #[.agg #[.slice a ss.length cap, .slice a' tt.length cap'], .func (.yield l) #[] #[], .pointer (some ⟨W.heap.size, 0, none⟩), .pointer (some ⟨W.heap.size + 1, 0, none⟩), .string s, undef,
      .pointer (some ⟨W.heap.size, 0, none⟩), .agg #[.slice a ss.length cap], .func (.func 87) #[.agg #[.slice a ss.length cap]] #[], .string s, undef, undef, undef, undef, undef, undef, undef, undef, undef, undef, undef], defers := [] }) ?assign ?body ?done ?stop
  case assign =>
    intro l2 m2 s V K hK
    gi_wp2
    exact hK
  case body =>
    rintro l2 m2 k s V hs ⟨hj, hbl, hcd, hcy⟩ hsz
    obtain ⟨fn, tmps, assign, body, hy, hR⟩ := hY k V s (by rw [List.getElem?_append_left (List.getElem?_eq_some_iff.1 hs).1]; exact hs) hj (by omega) (m2 - 1)
    have hcc : V.cell? ⟨W.heap.size + 1, 0, none⟩ = some (.func (.yield l) #[] #[]) := by simp [World.cell?, hcy]
    gi_wp2
    refine ⟨fun h => by simp [Fence.wide] at h, RoundIn.mono (F := Fence.wide.inRound l2) hR ?_⟩
    rintro e V3 ⟨hKB, (⟨rfl, hJ3, hk3⟩ | ⟨rfl, hJx3⟩)⟩
    · gi_wp2
      exact ⟨hKB.mono (by omega), ⟨hJ3, hbl.trans hk3, hKB.same _ _ (by omega) hcd rfl, hKB.same _ _ (by omega) hcy rfl⟩, hk3⟩
    · gi_wp2
      exact ⟨hKB.mono (by omega), hJx3⟩
  case done =>
    rintro D V hD ⟨hj, hbl, hcd, hcy⟩ hK
    have hc1 : V.cell? ⟨W.heap.size, 0, none⟩ = some (.slice a ss.length cap) := by simp [World.cell?, hcd]
    have hc2 : V.cell? ⟨W.heap.size, 1, none⟩ = some (.slice a' tt.length cap') := by simp [World.cell?, hcd]
    gi_wp2
    have hDV : D < V.heap.size := (Array.getElem?_eq_some_iff.1 hK).1
    have hy1 : W.heap.size + 1 < V.heap.size := (Array.getElem?_eq_some_iff.1 hcy).1
    refine wp_range (gf := 88) (pre := #[.agg #[.slice a ss.length cap, .slice a' tt.length cap']]) (lb := #[]) rfl (enters_of Try.func88 (by kernel_rfl) rfl) (xs := tt) (n0 := n0)
      (by simpa using open_iter (.slice a ss.length cap) a' cap' tt n0 V (hr2.below hbl) (by omega) hl') (by omega) rfl
      (fun k X => J (ss.length + k) X ∧ X.heap[W.heap.size + 1]? = some (.cells #[.func (.yield l) #[] #[]] 127) ∧ X.heap[D]? = some (.deferred (some [])))
      (fun _ X => (∃ k, Jx k X) ∧ X.heap[D]? = some (.deferred (some [])))
      (Stable.and (fun k X X' row hj hg hr => (hJ.mono (by omega)) (ss.length + k) X X' row hj hg hr) ((stable_block _ hy1).and (stable_block _ hDV))) (Stable.and (fun _ X X' row hj hg hr => hj.elim fun k hk => ⟨k, (hJx.mono (by omega)) k X X' row hk hg hr⟩) (stable_block _ hDV))
      ⟨hj, hcy, hK⟩ (fun s => { tmps := #[.agg #[.slice a ss.length cap, .slice a' tt.length cap'], .func (.yield l) #[] #[], .pointer (some ⟨W.heap.size, 0, none⟩), .pointer (some ⟨W.heap.size + 1, 0, none⟩), undef, .string s,
        .pointer (some ⟨W.heap.size, 0, none⟩), .agg #[.slice a ss.length cap], .func (.func 87) #[.agg #[.slice a ss.length cap]] #[], undef, undef, undef, undef, undef,
        .agg #[.slice a ss.length cap, .slice a' tt.length cap'], .func (.func 88) #[.agg #[.slice a ss.length cap, .slice a' tt.length cap']] #[], .string s, undef, undef, undef, undef], defers := [] }) ?assign2 ?body2 ?done2 ?stop2
    case assign2 =>
      intro l2 m2 s X K hK
      gi_wp2
      exact hK
    case body2 =>
      rintro l2 m2 k s X hs ⟨hj, hcy, hK⟩ hsz
      obtain ⟨fn, tmps, assign, body, hy, hR⟩ := hY (ss.length + k) X s (by rw [List.getElem?_append_right (by omega), Nat.add_sub_cancel_left]; exact hs) hj (by omega) (m2 - 1)
      have hcc : X.cell? ⟨W.heap.size + 1, 0, none⟩ = some (.func (.yield l) #[] #[]) := by simp [World.cell?, hcy]
      gi_wp2
      refine ⟨fun h => by simp [Fence.wide] at h, RoundIn.mono (F := Fence.wide.inRound l2) hR ?_⟩
      rintro e V3 ⟨hKB, (⟨rfl, hJ3, hk3⟩ | ⟨rfl, hJx3⟩)⟩
      · gi_wp2
        exact ⟨hKB.mono (by omega), ⟨hJ3, hKB.same _ _ (by omega) hcy rfl, hKB.same _ _ (by omega) hK rfl⟩, hk3⟩
      · gi_wp2
        exact ⟨hKB.mono (by omega), ⟨_, hJx3⟩, hKB.same _ _ (by omega) hK rfl⟩
    case done2 =>
      rintro D2 X hD2 ⟨hj, hcy, hK⟩ hK2
      gi_wp2
      refine ⟨by simp, .inl ⟨_, _, rfl, run_takeDeferred hK2, by simp, .inl ⟨_, _, rfl, run_takeDeferred ((World.putObj_heap_other (by omega)).trans hK), ?_⟩⟩⟩
      refine ⟨_, results_none rfl _ _ _, ⟨_, rfl⟩, .inl ?_⟩
      rw [List.length_append]
      exact hJ.putObj _ (hJ.putObj _ hj (by omega) hK2 rfl) (by omega) ((World.putObj_heap_other (by omega)).trans hK) rfl
    case stop2 =>
      rintro D2 k X hD2 ⟨⟨k2, hjx⟩, hK⟩ hK2
      gi_wp2
      refine ⟨by simp, .inl ⟨_, _, rfl, run_takeDeferred hK2, by simp, .inl ⟨_, _, rfl, run_takeDeferred ((World.putObj_heap_other (by omega)).trans hK), ?_⟩⟩⟩
      refine ⟨_, results_none rfl _ _ _, ⟨_, rfl⟩, .inr ⟨k2, ?_⟩⟩
      exact hJx.putObj _ (hJx.putObj _ hjx (by omega) hK2 rfl) (by omega) ((World.putObj_heap_other (by omega)).trans hK) rfl
  case stop =>
    rintro D k V hD hjx hK
    gi_wp2
    refine ⟨by simp, .inl ⟨_, _, rfl, run_takeDeferred hK, ?_⟩⟩
    exact ⟨_, results_none rfl _ _ _, ⟨_, rfl⟩, .inr ⟨k, hJx.putObj _ hjx (by omega) hK rfl⟩⟩

end Go.Proofs.Ytdecihmplkgfkaa
