/-
  laws.eqState and what it calls: two readings of one state.
-/
import Derived.Test.YtbelneejghdmoaaStTo
import Derived.Deep.RegionWith
import Derived.Deep.DrawnRows
namespace Go.Proofs.Ytbelneejghdmoaa
open Go.ChangeShapes Go.WideShapes Go.ChangeAt Go.RowKit
attribute [local go_sem ↓] Go.wp_at_zero Go.wp_at_succ

set_option maxHeartbeats 400000 in
theorem eqKept_yes (k : Kd) (a a' : Option Addr) (cap cap' : Nat) (w : World) (hrow : SRow w w.heap.size a k.refs) (hrow' : SRow w w.heap.size a' k.refs) (hl : k.refs.length ≤ 1048576) :
    Calls Try.prog 94 #[.agg #[.string k.sum, .int .i64 k.born, .string k.text, .slice a k.refs.length cap], .agg #[.string k.sum, .int .i64 k.born, .string k.text, .slice a' k.refs.length cap']] w fun e w' => e = .returned (.bool true) ∧ Below w.heap.size w w' := by
  have hb : ∀ o1 o2, Below w.heap.size w ((w.alloc o1).alloc o2) := fun o1 o2 => ((Below.refl _ _).alloc (Nat.le_refl _) _).alloc (by simp) _
  go_enter Try.func94, Try.ntmps94
  go_wp2_with fail
  refine (eqThing_yes k.text a a' cap cap' k.refs _ (hrow.below' (hb _ _)) (hrow'.below' (hb _ _)) hl).mono ?_
  rintro e w1 ⟨rfl, hb1⟩
  go_wp2
  go_ret
  exact ⟨rfl, (hb _ _).trans (hb1.mono (by simp; omega))⟩

set_option maxHeartbeats 400000 in
theorem eqPin_yes (p : Pd) (w : World) :
    Calls Try.prog 95 #[.agg #[.string p.name, .string p.sum], .agg #[.string p.name, .string p.sum]] w fun e w' => e = .returned (.bool true) ∧ Below w.heap.size w w' := by
  go_enter Try.func95, Try.ntmps95
  go_wp2
  go_ret
  exact ⟨rfl, ((Below.refl _ _).alloc (Nat.le_refl _) _).alloc (by simp) _⟩

set_option maxHeartbeats 400000 in
theorem eqLease_yes (p : Ld) (w : World) :
    Calls Try.prog 96 #[.agg #[.int .i64 p.num, .string p.sum, .int .i64 p.til], .agg #[.int .i64 p.num, .string p.sum, .int .i64 p.til]] w fun e w' => e = .returned (.bool true) ∧ Below w.heap.size w w' := by
  go_enter Try.func96, Try.ntmps96
  go_wp2
  go_ret
  exact ⟨rfl, ((Below.refl _ _).alloc (Nat.le_refl _) _).alloc (by simp) _⟩

set_option maxHeartbeats 400000 in
theorem eqPinS_yes (a a' : Option Addr) (cap cap' : Nat) (ps : List Pd) (w : World) (hrow : PRow w w.heap.size a ps) (hrow' : PRow w w.heap.size a' ps) (hl : ps.length ≤ 1048576) :
    Calls Try.prog 54 #[.slice a ps.length cap, .slice a' ps.length cap'] w fun e w' => e = .returned (.bool true) ∧ Below w.heap.size w w' := by
  go_enter Try.func54, Try.ntmps54
  go_wp2
  go_loopw [5] (fun i wr => ∃ k : Nat, k ≤ ps.length ∧ i = .int .i64 k ∧ Below w.heap.size w wr) (fun i _ => ps.length - (intOf i).toNat)
  case atStart => exact ⟨0, Nat.zero_le _, rfl, Below.refl _ _⟩
  case round =>
    obtain ⟨k, hk, rfl, hbel⟩ := hrel
    by_cases hlt : k < ps.length
    · obtain ⟨b, off, ha, hb, hc⟩ := (hrow.below hbel).at hlt
      obtain ⟨b', off', ha', hb', hc'⟩ := (hrow'.below hbel).at hlt
      subst ha ha'
      obtain ⟨c0, c1⟩ := hc k _ (List.getElem?_eq_getElem hlt)
      obtain ⟨d0, d1⟩ := hc' k _ (List.getElem?_eq_getElem hlt)
      clear hc hc' hrow hrow'
      generalize ps[k] = x at *
      go_wp2
      go_region_with (go_at_call 95; refine (eqPin_yes x _).mono ?_; rintro e w1 ⟨rfl, hb1⟩)
      all_goals
        have hB := hbel.drew.trans (hb1.mono hbel.size)
        go_wp2
        exact ⟨⟨k + 1, by omega, by go_num, hB⟩, by simp [intOf]; omega⟩
    · go_wp2
      go_ret
      exact ⟨rfl, hbel⟩

set_option maxHeartbeats 400000 in
theorem eqLeaseS_yes (a a' : Option Addr) (cap cap' : Nat) (ls : List Ld) (w : World) (hrow : LRow w w.heap.size a ls) (hrow' : LRow w w.heap.size a' ls) (hl : ls.length ≤ 1048576) :
    Calls Try.prog 55 #[.slice a ls.length cap, .slice a' ls.length cap'] w fun e w' => e = .returned (.bool true) ∧ Below w.heap.size w w' := by
  go_enter Try.func55, Try.ntmps55
  go_wp2
  go_loopw [5] (fun i wr => ∃ k : Nat, k ≤ ls.length ∧ i = .int .i64 k ∧ Below w.heap.size w wr) (fun i _ => ls.length - (intOf i).toNat)
  case atStart => exact ⟨0, Nat.zero_le _, rfl, Below.refl _ _⟩
  case round =>
    obtain ⟨k, hk, rfl, hbel⟩ := hrel
    by_cases hlt : k < ls.length
    · obtain ⟨b, off, ha, hb, hc⟩ := (hrow.below hbel).at hlt
      obtain ⟨b', off', ha', hb', hc'⟩ := (hrow'.below hbel).at hlt
      subst ha ha'
      obtain ⟨c0, c1, c2⟩ := hc k _ (List.getElem?_eq_getElem hlt)
      obtain ⟨d0, d1, d2⟩ := hc' k _ (List.getElem?_eq_getElem hlt)
      clear hc hc' hrow hrow'
      generalize ls[k] = x at *
      go_wp2
      go_region_with (go_at_call 96; refine (eqLease_yes x _).mono ?_; rintro e w1 ⟨rfl, hb1⟩)
      all_goals
        have hB := hbel.drew.trans (hb1.mono hbel.size)
        go_wp2
        exact ⟨⟨k + 1, by omega, by go_num, hB⟩, by simp [intOf]; omega⟩
    · go_wp2
      go_ret
      exact ⟨rfl, hbel⟩

set_option maxHeartbeats 1000000 in
theorem eqKeptS_yes (a a' : Option Addr) (cap cap' : Nat) (ks : List Kd) (w : World) (hrow : KRow w w.heap.size a ks) (hrow' : KRow w w.heap.size a' ks) (hl : ks.length ≤ 1048576) (hrl : ∀ k ∈ ks, k.refs.length ≤ 1048576) :
    Calls Try.prog 53 #[.slice a ks.length cap, .slice a' ks.length cap'] w fun e w' => e = .returned (.bool true) ∧ Below w.heap.size w w' := by
  go_enter Try.func53, Try.ntmps53
  go_wp2
  go_loopw [5] (fun i wr => ∃ k : Nat, k ≤ ks.length ∧ i = .int .i64 k ∧ Below w.heap.size w wr) (fun i _ => ks.length - (intOf i).toNat)
  case atStart => exact ⟨0, Nat.zero_le _, rfl, Below.refl _ _⟩
  case round =>
    obtain ⟨k, hk, rfl, hbel⟩ := hrel
    by_cases hlt : k < ks.length
    · obtain ⟨b, off, ha, hb, hc⟩ := (hrow.below hbel).at hlt
      obtain ⟨b', off', ha', hb', hc'⟩ := (hrow'.below hbel).at hlt
      subst ha ha'
      obtain ⟨c0, c1, c2, ra, rc, c3, hr⟩ := hc k _ (List.getElem?_eq_getElem hlt)
      obtain ⟨d0, d1, d2, ra', rc', d3, hr'⟩ := hc' k _ (List.getElem?_eq_getElem hlt)
      have hrk := hrl _ (List.getElem_mem hlt)
      clear hc hc' hrow hrow' hrl
      generalize ks[k] = x at *
      have hcon := eqKept_yes x ra ra' rc rc' wr.drew (hr.mono hbel.size) (hr'.mono hbel.size) hrk
      have HC : Hid _ := hcon
      clear hcon hr hr'
      go_wp2
      go_region_with (go_at_call 94; refine Calls.mono HC.out ?_; rintro e w1 ⟨rfl, hb1⟩)
      all_goals
        have hB := hbel.drew.trans (hb1.mono hbel.size)
        go_wp2
        exact ⟨⟨k + 1, by omega, by go_num, hB⟩, by simp [intOf]; omega⟩
    · go_wp2
      go_ret
      exact ⟨rfl, hbel⟩

set_option maxHeartbeats 1000000 in
theorem eqState_yes (wd now given births : Int) (a p l a' p' l' : Option Addr) (ac pc lc ac' pc' lc' : Nat) (ks : List Kd) (ps : List Pd) (ls : List Ld) (w : World) (hrow : SRows w w.heap.size a p l ks ps ls) (hrow' : SRows w w.heap.size a' p' l' ks ps ls) (hf : SFit ks ps ls) :
    Calls Try.prog 13 #[.agg #[.int .i64 wd, .int .i64 now, .int .i64 given, .int .i64 births, .slice a ks.length ac, .slice p ps.length pc, .slice l ls.length lc], .agg #[.int .i64 wd, .int .i64 now, .int .i64 given, .int .i64 births, .slice a' ks.length ac', .slice p' ps.length pc', .slice l' ls.length lc']] w fun e w' => e = .returned (.bool true) ∧ Below w.heap.size w w' := by
  have hb0 : ∀ o1 o2, Below w.heap.size w ((w.alloc o1).alloc o2) := fun o1 o2 => ((Below.refl _ _).alloc (Nat.le_refl _) _).alloc (by simp) _
  have hx := SBox.below (SBox.new w wd now given births (.slice a ks.length ac) (.slice p ps.length pc) (.slice l ls.length lc) 33) ((Below.refl _ _).alloc (Nat.le_refl _) (.cells #[.int .i64 wd, .int .i64 now, .int .i64 given, .int .i64 births, .slice a' ks.length ac', .slice p' ps.length pc', .slice l' ls.length lc'] 33))
  have hy := SBox.new (w.alloc (.cells #[.int .i64 wd, .int .i64 now, .int .i64 given, .int .i64 births, .slice a ks.length ac, .slice p ps.length pc, .slice l ls.length lc] 33)) wd now given births (.slice a' ks.length ac') (.slice p' ps.length pc') (.slice l' ls.length lc') 33
  go_enter Try.func13, Try.ntmps13
  go_wp2_with fail
  refine (eqKeptS_yes a a' ac ac' ks _ (hrow.below' (hb0 _ _)).k (hrow'.below' (hb0 _ _)).k hf.k hf.r).mono ?_
  rintro e w1 ⟨rfl, hb1⟩
  have hB1 := (hb0 _ _).trans (hb1.mono (by simp; omega))
  obtain ⟨_, _, _, _, _, x5, x6, x7⟩ := hx.below hb1
  obtain ⟨_, _, _, _, _, y5, y6, y7⟩ := hy.below hb1
  simp [go_sem] at y5 y6 y7
  clear hb1 hx hy
  go_wp2_with fail
  refine (eqPinS_yes p p' pc pc' ps _ (hrow.below' hB1).p (hrow'.below' hB1).p hf.p).mono ?_
  rintro e w2 ⟨rfl, hb2⟩
  have hB2 := hB1.trans (hb2.mono hB1.size)
  replace x6 := (hb2.cell (p := ⟨w.heap.size, 6, none⟩) x7).trans x6
  replace y6 := (hb2.cell (p := ⟨w.heap.size + 1, 6, none⟩) y7).trans y6
  have z2 := hb2.size
  clear hb2 x5 y5
  go_wp2_with fail
  refine (eqLeaseS_yes l l' lc lc' ls _ (hrow.below' hB2).l (hrow'.below' hB2).l hf.l).mono ?_
  rintro e w3 ⟨rfl, hb3⟩
  go_wp2
  go_ret
  exact ⟨rfl, hB2.trans (hb3.mono hB2.size)⟩

end Go.Proofs.Ytbelneejghdmoaa
