/-
  slices.Clone, slices.Contains, impl.copyOfRound.
-/
import Derived.Test.YtbelneejghdmoaaShR
import Derived.Test.YtbelneejghdmoaaStHas
import Derived.Deep.RegionWith
import Derived.Deep.DeepCutAuto
namespace Go.Proofs.Ytbelneejghdmoaa
open Go.ChangeShapes Go.WideShapes Go.ChangeAt Go.RowKit

set_option maxRecDepth 20000 in
set_option maxHeartbeats 1000000 in
theorem clone_any (g cap : Nat) (ss : List ByteArray) (w : World) (hr : SRow w w.heap.size (some ⟨g, 0, none⟩) ss) (hl : ss.length ≤ 1048576) :
    Calls Try.prog 118 #[.slice (some ⟨g, 0, none⟩) ss.length cap] w fun e w' => ∃ x cx, e = .returned (.slice (some ⟨x, 0, none⟩) ss.length cx) ∧
      w'.ownsRow w.heap.size 9 1 (.slice (some ⟨x, 0, none⟩) ss.length cx) ss.length (ss.map Value.string) ∧ Below w.heap.size w w' := by
  obtain ⟨i0, hi, hz0, hz1, hz2⟩ := info_parts Try.infoStr
  have hA : Below w.heap.size w (w.alloc (.cells #[] 9)) := (Below.refl _ _).alloc (Nat.le_refl _) _
  have hnil : ∀ u : World, (binOp .eql 38 (.slice (some ⟨g, 0, none⟩) ss.length cap) (.slice none 0 0)).run Try.prog u = .ok (.bool false) u := fun _ => by first | rfl | kernel_rfl
  go_enter Try.func118, Try.ntmps118
  go_wp2_with (first
    | (at_builtin; refine wpList_append_own _ rfl _ _ 38 rfl w.heap.size 9 i0 (.string ⟨#[]⟩) 1 16 Try.underlying38 hi hz0 hz1 hz2 rfl (by decide) _ 0 (([] : List ByteArray).map Value.string) rfl ?d0 ⟨g, 0, none⟩ ss.length cap (ss.map Value.string) rfl ?d1 ?d2 ?d3 ?d4 ?d5 ?d6 ?_)
    | go_in)
  case d0 => exact World.ownsRow_lit (base := w.heap.size) (e := 9) (size := 1) w #[] 0 (Nat.le_refl _) (by unfold maxLen; omega) rfl
  case d1 => simp
  case d2 => exact (hr.below hA).cellsV
  case d3 => exact oneS ss
  case d4 => unfold maxLen; omega
  case d5 => omega
  case d6 => simp
  intro v1 w1 ho1 hg1 hn1
  have hvb : ∃ x cx, v1 = .slice (some ⟨x, 0, none⟩) ss.length cx := by
    have := own_some ho1 hn1
    simpa using this
  obtain ⟨x, cx, rfl⟩ := hvb
  try simp only [Nat.zero_add, List.map_nil, List.nil_append] at ho1
  have hB : Below w.heap.size w w1 := hA.grown hg1 (by simp) (fun k hk => by simp [Value.ownBlock] at hk; omega)
  have HO : Hid _ := And.intro ho1 hB
  clear ho1 hg1 hn1 hB hA hr
  go_wp2
  go_ret
  exact ⟨x, cx, rfl, HO.out.1, HO.out.2⟩

set_option maxHeartbeats 1000000 in
theorem index_any (a : Option Addr) (cap : Nat) (ss : List ByteArray) (s : ByteArray) (w : World) (B : Nat) (hrow : SRow w B a ss) (hl : ss.length ≤ 1048576) :
    Calls Try.prog 119 #[.slice a ss.length cap, .string s] w fun e w' => ∃ r : Int, e = .returned (.int .i64 r) ∧ (0 ≤ r ↔ s ∈ ss) ∧ w' = w := by
  go_enter Try.func119, Try.ntmps119
  go_wp2
  go_loop [8] (fun i => ∃ k : Nat, k ≤ ss.length ∧ i = .int .i64 k ∧ Hid (∀ j x, j < k → ss[j]? = some x → s ≠ x)) (fun i => ss.length - (intOf i).toNat)
  case atStart => exact ⟨0, Nat.zero_le _, rfl, fun j x h => by omega⟩
  case round =>
    obtain ⟨k, hk, rfl, hall⟩ := hrel
    by_cases hlt : k < ss.length
    · obtain ⟨b', off, ha, hb, hc'⟩ := hrow.at hlt
      subst ha
      have hg : Hid (ss[k]? = some ss[k]) := List.getElem?_eq_getElem hlt
      have c0 := hc' k _ hg
      clear hc' hrow
      generalize ss[k] = x at *
      by_cases h : s = x
      · subst h
        go_wp2
        go_ret
        exact ⟨_, rfl, ⟨fun _ => List.mem_of_getElem? hg.out, fun _ => by omega⟩, rfl⟩
      · have hne := beq_ne h
        have HA : Hid (∀ j y, j < k + 1 → ss[j]? = some y → s ≠ y) := by
          intro j y hj hy
          rcases Nat.lt_or_ge j k with h' | h'
          · exact hall.out j y h' hy
          · obtain rfl : j = k := by omega
            rw [hg.out] at hy
            cases hy
            exact h
        clear h hall hg
        go_wp2
        exact ⟨⟨k + 1, by omega, by go_num, HA⟩, by simp [intOf]; omega⟩
    · go_wp2
      go_ret
      refine ⟨_, rfl, ⟨fun h => by omega, fun hs => ?_⟩, rfl⟩
      obtain ⟨j, hj⟩ := List.getElem?_of_mem hs
      exact absurd rfl (hall.out j s (by have := (List.getElem?_eq_some_iff.1 hj).1; omega) hj)

open Classical in
set_option maxHeartbeats 400000 in
theorem contains_any (a : Option Addr) (cap : Nat) (ss : List ByteArray) (s : ByteArray) (w : World) (B : Nat) (hrow : SRow w B a ss) (hl : ss.length ≤ 1048576) :
    Calls Try.prog 100 #[.slice a ss.length cap, .string s] w fun e w' => e = .returned (.bool (decide (s ∈ ss))) ∧ w' = w := by
  go_enter Try.func100, Try.ntmps100
  go_wp2_with fail
  refine (index_any a cap ss s w B hrow hl).mono ?_
  rintro e w1 ⟨r, rfl, hr, rfl⟩
  by_cases h : 0 ≤ r
  · have hd : decide ((0 : Int) ≤ r) = true := by simpa using h
    go_wp2
    go_ret
    exact ⟨by rw [decide_eq_true (hr.1 h)]; rfl, rfl⟩
  · have hd : decide ((0 : Int) ≤ r) = false := by simpa using h
    have hd' : ¬ s ∈ ss := fun e => h (hr.2 e)
    go_wp2
    go_ret
    exact ⟨by rw [decide_eq_false hd']; rfl, rfl⟩

set_option maxRecDepth 20000 in
set_option maxHeartbeats 4000000 in
theorem copyOfRound_any (ph top at_ ro : Int) (g h ac bc : Nat) (qs ms : List ByteArray) (w : World) (hq : SRow w w.heap.size (some ⟨g, 0, none⟩) qs) (hm : SRow w w.heap.size (some ⟨h, 0, none⟩) ms) (hf : RFit qs ms) :
    Calls Try.prog 99 #[.agg #[.int .i64 ph, .slice (some ⟨g, 0, none⟩) qs.length ac, .slice (some ⟨h, 0, none⟩) ms.length bc, .int .i64 top, .int .i64 at_, .int .i64 ro]] w fun e w' => ∃ x cx y cy, e = .returned (.agg #[.int .i64 ph, .slice (some ⟨x, 0, none⟩) qs.length cx, .slice (some ⟨y, 0, none⟩) ms.length cy, .int .i64 top, .int .i64 at_, .int .i64 ro]) ∧
      w'.ownsRow w.heap.size 9 1 (.slice (some ⟨x, 0, none⟩) qs.length cx) qs.length (qs.map Value.string) ∧ w'.ownsRow w.heap.size 9 1 (.slice (some ⟨y, 0, none⟩) ms.length cy) ms.length (ms.map Value.string) ∧ x ≠ y ∧ Below w.heap.size w w' := by
  obtain ⟨W, hW⟩ : ∃ W, W = (w.alloc (.cells #[.int .i64 ph, .slice (some ⟨g, 0, none⟩) qs.length ac, .slice (some ⟨h, 0, none⟩) ms.length bc, .int .i64 top, .int .i64 at_, .int .i64 ro] 43)).alloc (.cells #[.int .i64 0, .slice none 0 0, .slice none 0 0, .int .i64 0, .int .i64 0, .int .i64 0] 43) := ⟨_, rfl⟩
  have hbW : Below w.heap.size w W := by rw [hW]; exact ((Below.refl _ _).alloc (Nat.le_refl _) _).alloc (by simp) _
  have x1 : RBox W (w.heap.size + 1) 0 (.slice none 0 0) (.slice none 0 0) 0 0 0 := by
    rw [hW]; exact ⟨by simp [go_sem], by simp [go_sem], by simp [go_sem], by simp [go_sem], by simp [go_sem], by simp [go_sem], by simp⟩
  have x0 : RBox W w.heap.size ph (.slice (some ⟨g, 0, none⟩) qs.length ac) (.slice (some ⟨h, 0, none⟩) ms.length bc) top at_ ro := by
    rw [hW]; exact ⟨by simp [go_sem], by simp [go_sem], by simp [go_sem], by simp [go_sem], by simp [go_sem], by simp [go_sem], by simp <;> omega⟩
  have f0 : ∀ o, W.frozen? ⟨w.heap.size, o, none⟩ = false := fun o => by rw [hW]; simp [go_sem]
  have f1 : ∀ o, W.frozen? ⟨w.heap.size + 1, o, none⟩ = false := fun o => by rw [hW]; simp [go_sem]
  have hzW : W.heap.size = w.heap.size + 2 := by rw [hW]; simp
  have HW : Hid _ := hW
  have HX0 : Hid _ := x0
  have HX1 : Hid _ := x1
  have HQ : Hid _ := hq
  have HM : Hid _ := hm
  clear hW x1 hq hm
  obtain ⟨a0, a1, a2, a3, a4, a5, a6⟩ := x0
  go_enter Try.func99, Try.ntmps99
  go_upto_region 1 with fail
  rw [← HW.out]
  go_region_with (first
    | (go_at_call 118; refine (clone_any g ac qs W.drew (SRow.below' (w := w) HQ.out hbW.drew) hf.q).mono ?_; rintro e w1 ⟨x, cx, rfl, ho1, hb1⟩; have hB1 : Below W.heap.size W w1 := (Below.refl W.heap.size W).drew.trans hb1; obtain ⟨b0, b1, b2, b3, b4, b5, b6⟩ := RBox.below HX0.out hB1; have lx := ho1.lt x rfl)
    | (go_at_call 118; refine (clone_any h bc ms w1 (SRow.below' (w := w) HM.out (hbW.trans (hB1.mono hbW.size))) hf.m).mono ?_; rintro e w2 ⟨y, cy, rfl, ho2, hb2⟩; have ly := ho2.lt y rfl; have hB2 : Below W.heap.size W w2 := hB1.trans (hb2.mono hB1.size); obtain ⟨c0, c1, c2, c3, c4, c5, c6⟩ := RBox.below HX0.out hB2; obtain ⟨d0, d1, d2, d3, d4, d5, d6⟩ := RBox.below HX1.out hB2; have e0 : ∀ o, w2.frozen? ⟨w.heap.size, o, none⟩ = false := (fun o => (hB2.frozen (p := ⟨w.heap.size, o, none⟩) (by simp; omega)).trans (f0 o)); have e1 : ∀ o, w2.frozen? ⟨w.heap.size + 1, o, none⟩ = false := (fun o => (hB2.frozen (p := ⟨w.heap.size + 1, o, none⟩) (by simp; omega)).trans (f1 o))))
  all_goals
    have hox : w2.ownsRow (w.heap.size + 2) 9 1 (.slice (some ⟨x, 0, none⟩) qs.length cx) qs.length (qs.map Value.string) := (own_keep ho1 hb2).mono (by simp; omega)
    have hoy : w2.ownsRow (w.heap.size + 2) 9 1 (.slice (some ⟨y, 0, none⟩) ms.length cy) ms.length (ms.map Value.string) := ho2.mono (by have := hB1.size; omega)
    have hxy : x ≠ y := by omega
    have HO : Hid _ := And.intro hox (And.intro hoy (And.intro hxy (hbW.trans (hB2.mono hbW.size))))
    clear hox hoy ho1 ho2 hb1 hb2 hB1 hB2 HX0 HX1 HQ HM a0 a1 a2 a3 a4 a5 hbW HW
    go_wp2
    refine bodyPost_ret (v := .agg #[.int .i64 ph, .slice (some ⟨x, 0, none⟩) qs.length cx, .slice (some ⟨y, 0, none⟩) ms.length cy, .int .i64 top, .int .i64 at_, .int .i64 ro]) (by simp [results, Try.results99, go_sem, d0, d1, d2, d3, d4, d5]) rfl ⟨x, cx, y, cy, rfl, ?_, ?_, HO.out.2.2.1, ?_⟩
    · refine World.ownsRow.mono ?_ (show w.heap.size ≤ w.heap.size + 2 by omega)
      iterate 8 (refine ownsRow_setCell_below ?_ (by simp <;> omega) _)
      exact HO.out.1
    · refine World.ownsRow.mono ?_ (show w.heap.size ≤ w.heap.size + 2 by omega)
      iterate 8 (refine ownsRow_setCell_below ?_ (by simp <;> omega) _)
      exact HO.out.2.1
    · iterate 8 (refine Below.setCell ?_ (by simp) _)
      exact HO.out.2.2.2

end Go.Proofs.Ytbelneejghdmoaa
