/-
  The iterators of a log: (safePart).kept, (disk).open, (disk).all.
-/
import Derived.Test.YtdecihmplkgfkaaIter
namespace Go.Proofs.Ytdecihmplkgfkaa
open Go.RowKit

attribute [local go_sem] Oper.semAt_some

set_option maxRecDepth 100000 in
set_option maxHeartbeats 2000000 in
theorem kept_iter (a : Option Addr) (cap : Nat) (ss : List ByteArray) (n0 : Nat) (w : World) (hrow : SRow w n0 a ss) (hn0 : n0 ≤ w.heap.size) (hl : ss.length ≤ maxLen) :
    IterOk Try.prog 87 (fun l => #[.agg #[.slice a ss.length cap], .func (.yield l) #[] #[]]) ss n0 w := by
  intro l J Jx W hW hJ hJx hY h0 m
  unfold maxLen at hl
  have hrow' := hrow.below (hW.mono hn0)
  refine callsIn_of_wp Try.func87 rfl trivial ?_ rfl
  simp only [Try.ntmps87, List.size_toArray, List.length_cons, List.length_nil, Nat.reduceAdd, Nat.reduceSub, Array.replicate_succ, Array.replicate_zero, List.push_toArray, List.append_toArray, List.nil_append, List.cons_append]
  gi_wp2
  gi_loopw [9] (fun i wr => ∃ k : Nat, k ≤ ss.length ∧ i = .int .i64 k ∧ J k wr ∧ Below n0 W wr ∧ W.heap.size ≤ wr.heap.size)
    (fun i _ => ss.length - (intOf i).toNat)
  case atStart => exact ⟨0, Nat.zero_le _, rfl, hJ.alloc _ h0, (Below.refl _ _).alloc (Nat.le_trans hn0 hW.size) _, by simp⟩
  case round =>
    obtain ⟨k, hk, rfl, hJs, hnx, hsz⟩ := hrel
    by_cases hlt : k < ss.length
    · obtain ⟨b, off, ha, hb, hc⟩ := (hrow'.below hnx).at hlt
      subst ha
      have hck := hc k ss[k] (List.getElem?_eq_getElem hlt)
      obtain ⟨fn, tmps, assign, body, hy, hR⟩ := hY k wr ss[k] (List.getElem?_eq_getElem hlt) hJs hsz (m - 1)
      clear hc hrow hrow' hY
      generalize ss[k] = s at *
      gi_wp2
      refine ⟨fun h => by simp [Fence.wide] at h, hR.mono ?_⟩
      rintro e W3 ⟨hK, (⟨rfl, hJ3, hk3⟩ | ⟨rfl, hJx3⟩)⟩
      · gi_wp2
        go_roundw
        case rel => exact ⟨k + 1, by omega, by simp, hJ3, hnx.trans hk3, Nat.le_trans hsz hK.size⟩
        case measure => simp [intOf]; omega
      · gi_wp2
        refine bodyPost_ret (results_none rfl _ _ _) rfl ?_
        exact ⟨⟨_, rfl⟩, .inr ⟨_, hJx3⟩⟩
    · obtain rfl : k = ss.length := by omega
      gi_wp2
      go_end0
      exact ⟨⟨_, rfl⟩, .inl hJs⟩

set_option maxRecDepth 100000 in
set_option maxHeartbeats 2000000 in
theorem open_iter (v : Value) (a : Option Addr) (cap : Nat) (ss : List ByteArray) (n0 : Nat) (w : World) (hrow : SRow w n0 a ss) (hn0 : n0 ≤ w.heap.size) (hl : ss.length ≤ maxLen) :
    IterOk Try.prog 88 (fun l => #[.agg #[v, .slice a ss.length cap], .func (.yield l) #[] #[]]) ss n0 w := by
  intro l J Jx W hW hJ hJx hY h0 m
  unfold maxLen at hl
  have hrow' := hrow.below (hW.mono hn0)
  refine callsIn_of_wp Try.func88 rfl trivial ?_ rfl
  simp only [Try.ntmps88, List.size_toArray, List.length_cons, List.length_nil, Nat.reduceAdd, Nat.reduceSub, Array.replicate_succ, Array.replicate_zero, List.push_toArray, List.append_toArray, List.nil_append, List.cons_append]
  gi_wp2
  gi_loopw [9] (fun i wr => ∃ k : Nat, k ≤ ss.length ∧ i = .int .i64 k ∧ J k wr ∧ Below n0 W wr ∧ W.heap.size ≤ wr.heap.size)
    (fun i _ => ss.length - (intOf i).toNat)
  case atStart => exact ⟨0, Nat.zero_le _, rfl, hJ.alloc _ h0, (Below.refl _ _).alloc (Nat.le_trans hn0 hW.size) _, by simp⟩
  case round =>
    obtain ⟨k, hk, rfl, hJs, hnx, hsz⟩ := hrel
    by_cases hlt : k < ss.length
    · obtain ⟨b, off, ha, hb, hc⟩ := (hrow'.below hnx).at hlt
      subst ha
      have hck := hc k ss[k] (List.getElem?_eq_getElem hlt)
      obtain ⟨fn, tmps, assign, body, hy, hR⟩ := hY k wr ss[k] (List.getElem?_eq_getElem hlt) hJs hsz (m - 1)
      clear hc hrow hrow' hY
      generalize ss[k] = s at *
      gi_wp2
      refine ⟨fun h => by simp [Fence.wide] at h, hR.mono ?_⟩
      rintro e W3 ⟨hK, (⟨rfl, hJ3, hk3⟩ | ⟨rfl, hJx3⟩)⟩
      · gi_wp2
        go_roundw
        case rel => exact ⟨k + 1, by omega, by simp, hJ3, hnx.trans hk3, Nat.le_trans hsz hK.size⟩
        case measure => simp [intOf]; omega
      · gi_wp2
        refine bodyPost_ret (results_none rfl _ _ _) rfl ?_
        exact ⟨⟨_, rfl⟩, .inr ⟨_, hJx3⟩⟩
    · obtain rfl : k = ss.length := by omega
      gi_wp2
      go_end0
      exact ⟨⟨_, rfl⟩, .inl hJs⟩

end Go.Proofs.Ytdecihmplkgfkaa
