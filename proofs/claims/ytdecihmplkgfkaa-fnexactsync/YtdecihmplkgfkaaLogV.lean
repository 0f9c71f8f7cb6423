/-
  impl.diskOf, (disk).count, impl.ValidLog.
-/
import Derived.Test.YtdecihmplkgfkaaLogAll
import Derived.Test.YtdecihmplkgfkaaLogB
namespace Go.Proofs.Ytdecihmplkgfkaa
open Go.ChangeShapes Go.WideShapes Go.ChangeAt Go.RowKit

attribute [local go_sem] Oper.semAt_some

theorem stable_pure {B : Nat} (p : Nat → Prop) : Stable B (fun k _ => p k) := fun _ _ _ _ h _ _ => h

theorem KeepsB.of_grownBy {B : Nat} {W W' : World} {row : Option Nat} (hg : W.grownBy W' row) (hrow : ∀ j, row = some j → j < B) : KeepsB B W W' :=
  ⟨hg.size, fun b _ hb h _ => (hg.block b (Array.getElem?_eq_some_iff.1 h).1 (fun e => by have := hrow b e.symm; omega)).trans h⟩

set_option maxHeartbeats 400000 in
theorem diskOf_any (a b : Option Addr) (n m c d : Nat) (w : World) :
    Calls Try.prog 82 #[.agg #[.slice a n c, .slice b m d]] w fun e w' => e = .returned (.agg #[.slice a n c, .slice b m d]) ∧ Below w.heap.size w w' := by
  have hb : Below w.heap.size w ((w.alloc (.cells #[.slice a n c, .slice b m d] 40)).alloc (.cells #[.slice a n c, .slice b m d] 113)) := ((Below.refl _ _).alloc (Nat.le_refl _) _).alloc (by simp) _
  go_enter Try.func82, Try.ntmps82
  go_wp2
  refine bodyPost_ret (v := .agg #[.slice a n c, .slice b m d]) (by simp [results, Try.results82, go_sem]) rfl ⟨rfl, ?_⟩
  exact hb

set_option maxHeartbeats 400000 in
theorem count_any (a b : Option Addr) (n m c d : Nat) (w : World) (hn : n ≤ 1048576) (hm : m ≤ 1048576) :
    Calls Try.prog 83 #[.agg #[.slice a n c, .slice b m d]] w fun e w' => e = .returned (.int .i64 (n + m)) ∧ Below w.heap.size w w' := by
  have hb : Below w.heap.size w (w.alloc (.cells #[.slice a n c, .slice b m d] 113)) := (Below.refl _ _).alloc (Nat.le_refl _) _
  go_enter Try.func83, Try.ntmps83
  go_wp2
  go_ret
  exact ⟨rfl, hb⟩

set_option maxRecDepth 100000 in
set_option maxHeartbeats 2000000 in
theorem iValidLog_any (a b : Option Addr) (c d : Nat) (ss tt : List ByteArray) (w : World) (hr : SRow w w.heap.size a ss) (hq : SRow w w.heap.size b tt) (hl : ss.length ≤ 1048576) (hl' : tt.length ≤ 1048576)
    (hs : ∀ s ∈ ss, s.size ≤ 1048576) (hs' : ∀ s ∈ tt, s.size ≤ 1048576) :
    Calls Try.prog 31 #[.agg #[.slice a ss.length c, .slice b tt.length d]] w fun e w' => e = .returned (.bool (okLog ss tt)) ∧ Below w.heap.size w w' := by
  refine (callsIn_wide (n := 3)).1 ?_
  refine callsIn_of_wp_marks Try.func31 rfl trivial ?_ rfl
  simp only [Try.ntmps31, List.size_toArray, List.length_cons, List.length_nil, Nat.reduceAdd, Nat.reduceSub, Array.replicate_succ, Array.replicate_zero, List.push_toArray, List.append_toArray, List.nil_append, List.cons_append]
  gi_wp2_with fail
  refine ⟨trivial, ?_⟩
  have hbA : Below w.heap.size w ((w.alloc (.cells #[.slice a ss.length c, .slice b tt.length d] 40)).alloc (.cells #[.bool false] 4)) := ((Below.refl _ _).alloc (Nat.le_refl _) _).alloc (by simp) _
  have hxA : Boxed ((w.alloc (.cells #[.slice a ss.length c, .slice b tt.length d] 40)).alloc (.cells #[.bool false] 4)) (w.heap.size + 1) 4 (.bool false) := by
    have := Boxed.new (w.alloc (.cells #[.slice a ss.length c, .slice b tt.length d] 40)) 4 (.bool false)
    rwa [World.size_alloc] at this
  have hzA : ((w.alloc (.cells #[.slice a ss.length c, .slice b tt.length d] 40)).alloc (.cells #[.bool false] 4)).heap.size = w.heap.size + 2 := by simp
  refine (callsIn_wide.2 (diskOf_any a b ss.length tt.length c d _)).mono ?_
  rintro e w1 ⟨rfl, hb1⟩
  have hB1 := hbA.trans (hb1.mono (by simp; omega))
  have hx1 : Boxed w1 (w.heap.size + 1) 4 (.bool false) := (hb1.block _ (by simp)).trans hxA
  have hz1 := hb1.size
  rw [hzA] at hz1
  clear hb1 hxA hzA hbA
  gi_wp2_with fail
  refine ⟨trivial, ?_⟩
  have hbB : Below w.heap.size w (w1.alloc (.cells #[.slice a ss.length c, .slice b tt.length d] 113)) := hB1.alloc hB1.size _
  have hxB := hx1.alloc (.cells #[.slice a ss.length c, .slice b tt.length d] 113)
  refine (callsIn_wide.2 (count_any a b ss.length tt.length c d _ hl hl')).mono ?_
  rintro e w2 ⟨rfl, hb2⟩
  have hB2 := hbB.trans (hb2.mono (by simp; omega))
  have hx2 : Boxed w2 (w.heap.size + 1) 4 (.bool false) := (hb2.block _ (by simp; omega)).trans hxB
  have hz2 := hb2.size
  simp at hz2
  have hd0 : w2.cell? ⟨w1.heap.size, 0, none⟩ = some (.slice a ss.length c) := by rw [hb2.cell (p := ⟨w1.heap.size, 0, none⟩) (by simp)]; simp
  have hd1 : w2.cell? ⟨w1.heap.size, 1, none⟩ = some (.slice b tt.length d) := by rw [hb2.cell (p := ⟨w1.heap.size, 1, none⟩) (by simp)]; simp
  have hxc := hx2.cell
  have hxf := hx2.frozen
  clear hb2 hxB hbB hx1 hB1
  by_cases hlen : ss.length + tt.length ≤ 4000
  · gi_wp2_with fail
    have hb1 : w.heap.size + 1 < w2.heap.size := hx2.lt
    refine wp_range (gf := 84) (pre := #[.agg #[.slice a ss.length c, .slice b tt.length d]]) (lb := #[]) rfl (enters_of Try.func84 (by kernel_rfl) rfl) (xs := ss ++ tt) (n0 := w.heap.size)
      (by simpa using all_iter a b c d ss tt w.heap.size w2 (hr.below hB2) (hq.below hB2) hB2.size (by unfold maxLen; omega) (by unfold maxLen; omega)) hB2.size rfl
      (fun k V => Below w.heap.size w V ∧ Boxed V (w.heap.size + 1) 4 (.bool false) ∧ okEs ((ss ++ tt).take k) = true)
      (fun _ V => Below w.heap.size w V ∧ Boxed V (w.heap.size + 1) 4 (.bool false) ∧ okEs (ss ++ tt) = false)
      ((stable_below w (Nat.le_refl _) hB2.size).and ((stable_block (.cells #[.bool false] 4) hb1).and (stable_pure _)))
      ((stable_below w (Nat.le_refl _) hB2.size).and ((stable_block (.cells #[.bool false] 4) hb1).and (stable_pure _)))
      ⟨hB2, hx2, by simp [okEs]⟩ (fun s => { tmps := #[.agg #[.slice a ss.length c, .slice b tt.length d], .pointer (some ⟨w.heap.size, 0, none⟩), .pointer (some ⟨w.heap.size + 1, 0, none⟩), .pointer (some ⟨w1.heap.size, 0, none⟩), .string s,
        .agg #[.slice a ss.length c, .slice b tt.length d], .agg #[.slice a ss.length c, .slice b tt.length d], .agg #[.slice a ss.length c, .slice b tt.length d], .int .i64 (ss.length + tt.length), .bool (decide ((4000 : Int) < ss.length + tt.length)),
        .agg #[.slice a ss.length c, .slice b tt.length d], .func (.func 84) #[.agg #[.slice a ss.length c, .slice b tt.length d]] #[], .string s, undef, undef, undef], defers := [] }) ?assign ?body ?done ?stop
    case assign =>
      intro l2 m2 s V K hK
      gi_wp2
      exact hK
    case body =>
      rintro l2 m2 k s V hsk ⟨hbl, hx, hok⟩ hsz
      have hc := hx.cell
      have hf := hx.frozen
      have hmem : s.size ≤ 1048576 := by
        rcases List.mem_append.1 (List.mem_of_getElem? hsk) with h | h
        · exact hs s h
        · exact hs' s h
      by_cases hbig : 5000 < s.size
      · gi_wp2
        refine ⟨KeepsB.of_grownBy (grownBy_setCell' V _ _) (fun j e => by cases e; exact hb1), hbl.setCell (p := ⟨w.heap.size + 1, 0, none⟩) (by simp) _, hx.set _, okEs_false _ k s hsk hbig⟩
      · gi_wp2
        refine ⟨KeepsB.refl _ _, ⟨hbl, hx, ?_⟩, Below.refl _ _⟩
        rw [okEs_take _ k s hsk, hok]; simp; omega
    case done =>
      rintro D V hD ⟨hbl, hx, hok⟩ hK
      have hc := hx.cell
      have hf := hx.frozen
      rw [List.take_of_length_le (by omega)] at hok
      have hne : D ≠ w.heap.size + 1 := by omega
      have hK' : (V.setCell ⟨w.heap.size + 1, 0, none⟩ (.bool true)).heap[D]? = some (.deferred (some [])) := (KeepsOthers.setCell _ _ _).same D _ hK rfl
      have hx' := hx.set (.bool true)
      have hcr := cell_kept hx'.cell (grownBy_putObj' _ D (.deferred none)) (fun r e => by cases e; exact ⟨_, hK', rfl⟩)
      gi_wp2
      refine ⟨by simp, .inl ⟨_, _, rfl, run_takeDeferred hK', ?_⟩⟩
      refine ⟨.bool true, by simp [results, Try.results31, go_sem, hcr], ?_, ?_⟩
      · simp only [okLog]; rw [show (ss ++ tt).all (fun s => decide (s.size ≤ 5000)) = true from hok]; simp [hlen]
      · exact (hbl.setCell (p := ⟨w.heap.size + 1, 0, none⟩) (by simp) _).trans ⟨rfl, rfl, rfl, by simp, fun i hi => World.putObj_heap_other (by omega)⟩
    case stop =>
      rintro D k V hD ⟨hbl, hx, hok⟩ hK
      have hcr := cell_kept hx.cell (grownBy_putObj' _ D (.deferred none)) (fun r e => by cases e; exact ⟨_, hK, rfl⟩)
      gi_wp2
      refine ⟨by simp, .inl ⟨_, _, rfl, run_takeDeferred hK, ?_⟩⟩
      refine ⟨.bool false, by simp [results, Try.results31, go_sem, hcr], ?_, ?_⟩
      · simp only [okLog]; rw [show (ss ++ tt).all (fun s => decide (s.size ≤ 5000)) = false from hok]; simp
      · exact hbl.trans ⟨rfl, rfl, rfl, by simp, fun i hi => World.putObj_heap_other (by omega)⟩
  · have hx' := (hx2.set (.bool false)).cell
    gi_wp2
    refine ⟨.bool false, by simp [results, Try.results31, go_sem, hx'], ?_, hB2.setCell (p := ⟨w.heap.size + 1, 0, none⟩) (by simp) _⟩
    simp [okLog, hlen]

end Go.Proofs.Ytdecihmplkgfkaa
