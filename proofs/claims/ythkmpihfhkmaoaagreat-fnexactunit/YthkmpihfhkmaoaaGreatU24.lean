import Derived.Test.YthkmpihfhkmaoaaGreatU05
import Derived.Deep.RegionWith
import Derived.Deep.DrawnRows
import Derived.Test.YthkmpihfhkmaoaaGreatU23
import Derived.Test.YthkmpihfhkmaoaaGreatU19
/-
  laws.eqState and what it calls: two readings of one state.
-/
namespace Go.Proofs.YthkmpihfhkmaoaaGreat
open Go.ChangeShapes Go.WideShapes Go.ChangeAt Go.RowKit
attribute [local go_sem ↓] Go.wp_at_zero Go.wp_at_succ

set_option maxHeartbeats 400000 in
theorem eqKept_yes (k : Kd) (a a' : Option Addr) (cap cap' : Nat) (w : World) (hrow : SRow w w.heap.size a k.refs) (hrow' : SRow w w.heap.size a' k.refs) (hl : k.refs.length ≤ 1048576) :
    Calls Tryz.prog 105 #[.agg #[.string k.sum, .int .i64 k.born, .string k.text, .slice a k.refs.length cap], .agg #[.string k.sum, .int .i64 k.born, .string k.text, .slice a' k.refs.length cap']] w fun e w' => e = .returned (.bool true) ∧ Below w.heap.size w w' := by
  have hb : ∀ o1 o2, Below w.heap.size w ((w.alloc o1).alloc o2) := fun o1 o2 => ((Below.refl _ _).alloc (Nat.le_refl _) _).alloc (by simp) _
  go_enter Tryz.func105, Tryz.ntmps105
  go_wp2_with fail
  refine (eqThing_yes k.text a a' cap cap' k.refs _ (hrow.below' (hb _ _)) (hrow'.below' (hb _ _)) hl).mono ?_
  rintro e w1 ⟨rfl, hb1⟩
  go_wp2
  go_ret
  exact ⟨rfl, (hb _ _).trans (hb1.mono (by simp; omega))⟩

set_option maxHeartbeats 400000 in
theorem eqPin_yes (p : Pd) (w : World) :
    Calls Tryz.prog 106 #[.agg #[.string p.name, .string p.sum], .agg #[.string p.name, .string p.sum]] w fun e w' => e = .returned (.bool true) ∧ Below w.heap.size w w' := by
  go_enter Tryz.func106, Tryz.ntmps106
  go_wp2
  go_ret
  exact ⟨rfl, ((Below.refl _ _).alloc (Nat.le_refl _) _).alloc (by simp) _⟩

set_option maxHeartbeats 400000 in
theorem eqLease_yes (p : Ld) (w : World) :
    Calls Tryz.prog 107 #[.agg #[.int .i64 p.num, .string p.sum, .int .i64 p.til], .agg #[.int .i64 p.num, .string p.sum, .int .i64 p.til]] w fun e w' => e = .returned (.bool true) ∧ Below w.heap.size w w' := by
  go_enter Tryz.func107, Tryz.ntmps107
  go_wp2
  go_ret
  exact ⟨rfl, ((Below.refl _ _).alloc (Nat.le_refl _) _).alloc (by simp) _⟩

set_option maxHeartbeats 400000 in
theorem eqPinS_yes (a a' : Option Addr) (cap cap' : Nat) (ps : List Pd) (w : World) (hrow : PRow w w.heap.size a ps) (hrow' : PRow w w.heap.size a' ps) (hl : ps.length ≤ 1048576) :
    Calls Tryz.prog 48 #[.slice a ps.length cap, .slice a' ps.length cap'] w fun e w' => e = .returned (.bool true) ∧ Below w.heap.size w w' := by
  go_enter Tryz.func48, Tryz.ntmps48
  go_wp2
  go_loopw [5] (fun i wr => ∃ k : Nat, k ≤ ps.length ∧ i = .int .i64 k ∧ Below w.heap.size w wr) (fun i _ => ps.length - (intOf i).toNat)
  case atStart => exact ⟨0, Nat.zero_le _, rfl, Below.refl _ _⟩
  case round =>
    obtain ⟨k, hk, rfl, hbel⟩ := hrel
    by_cases hlt : k < ps.length
    · obtain ⟨b, off, ha, hb, hc⟩ := (hrow.below hbel).at hlt
      obtain ⟨b', off', ha', hb', hc'⟩ := (hrow'.below hbel).at hlt
      subst ha ha'
      obtain ⟨c0, c1⟩ := hc k _ (List.getElem?_eq_getElem hlt)
      obtain ⟨d0, d1⟩ := hc' k _ (List.getElem?_eq_getElem hlt)
      clear hc hc' hrow hrow'
      generalize ps[k] = x at *
      go_wp2
      go_region_with (go_at_call 106; refine (eqPin_yes x _).mono ?_; rintro e w1 ⟨rfl, hb1⟩)
      all_goals
        have hB := hbel.drew.trans (hb1.mono hbel.size)
        go_wp2
        exact ⟨⟨k + 1, by omega, by go_num, hB⟩, by simp [intOf]; omega⟩
    · go_wp2
      go_ret
      exact ⟨rfl, hbel⟩

set_option maxHeartbeats 400000 in
theorem eqLeaseS_yes (a a' : Option Addr) (cap cap' : Nat) (ls : List Ld) (w : World) (hrow : LRow w w.heap.size a ls) (hrow' : LRow w w.heap.size a' ls) (hl : ls.length ≤ 1048576) :
    Calls Tryz.prog 49 #[.slice a ls.length cap, .slice a' ls.length cap'] w fun e w' => e = .returned (.bool true) ∧ Below w.heap.size w w' := by
  go_enter Tryz.func49, Tryz.ntmps49
  go_wp2
  go_loopw [5] (fun i wr => ∃ k : Nat, k ≤ ls.length ∧ i = .int .i64 k ∧ Below w.heap.size w wr) (fun i _ => ls.length - (intOf i).toNat)
  case atStart => exact ⟨0, Nat.zero_le _, rfl, Below.refl _ _⟩
  case round =>
    obtain ⟨k, hk, rfl, hbel⟩ := hrel
    by_cases hlt : k < ls.length
    · obtain ⟨b, off, ha, hb, hc⟩ := (hrow.below hbel).at hlt
      obtain ⟨b', off', ha', hb', hc'⟩ := (hrow'.below hbel).at hlt
      subst ha ha'
      obtain ⟨c0, c1, c2⟩ := hc k _ (List.getElem?_eq_getElem hlt)
      obtain ⟨d0, d1, d2⟩ := hc' k _ (List.getElem?_eq_getElem hlt)
      clear hc hc' hrow hrow'
      generalize ls[k] = x at *
      go_wp2
      go_region_with (go_at_call 107; refine (eqLease_yes x _).mono ?_; rintro e w1 ⟨rfl, hb1⟩)
      all_goals
        have hB := hbel.drew.trans (hb1.mono hbel.size)
        go_wp2
        exact ⟨⟨k + 1, by omega, by go_num, hB⟩, by simp [intOf]; omega⟩
    · go_wp2
      go_ret
      exact ⟨rfl, hbel⟩

set_option maxHeartbeats 1000000 in
theorem eqKeptS_yes (a a' : Option Addr) (cap cap' : Nat) (ks : List Kd) (w : World) (hrow : KRow w w.heap.size a ks) (hrow' : KRow w w.heap.size a' ks) (hl : ks.length ≤ 1048576) (hrl : ∀ k ∈ ks, k.refs.length ≤ 1048576) :
    Calls Tryz.prog 47 #[.slice a ks.length cap, .slice a' ks.length cap'] w fun e w' => e = .returned (.bool true) ∧ Below w.heap.size w w' := by
  go_enter Tryz.func47, Tryz.ntmps47
  go_wp2
  go_loopw [5] (fun i wr => ∃ k : Nat, k ≤ ks.length ∧ i = .int .i64 k ∧ Below w.heap.size w wr) (fun i _ => ks.length - (intOf i).toNat)
  case atStart => exact ⟨0, Nat.zero_le _, rfl, Below.refl _ _⟩
  case round =>
    obtain ⟨k, hk, rfl, hbel⟩ := hrel
    by_cases hlt : k < ks.length
    · obtain ⟨b, off, ha, hb, hc⟩ := (hrow.below hbel).at hlt
      obtain ⟨b', off', ha', hb', hc'⟩ := (hrow'.below hbel).at hlt
      subst ha ha'
      obtain ⟨c0, c1, c2, ra, rc, c3, hr⟩ := hc k _ (List.getElem?_eq_getElem hlt)
      obtain ⟨d0, d1, d2, ra', rc', d3, hr'⟩ := hc' k _ (List.getElem?_eq_getElem hlt)
      have hrk := hrl _ (List.getElem_mem hlt)
      clear hc hc' hrow hrow' hrl
      generalize ks[k] = x at *
      have hcon := eqKept_yes x ra ra' rc rc' wr.drew (hr.mono hbel.size) (hr'.mono hbel.size) hrk
      have HC : Hid _ := hcon
      clear hcon hr hr'
      go_wp2
      go_region_with (go_at_call 105; refine Calls.mono HC.out ?_; rintro e w1 ⟨rfl, hb1⟩)
      all_goals
        have hB := hbel.drew.trans (hb1.mono hbel.size)
        go_wp2
        exact ⟨⟨k + 1, by omega, by go_num, hB⟩, by simp [intOf]; omega⟩
    · go_wp2
      go_ret
      exact ⟨rfl, hbel⟩

set_option maxHeartbeats 1000000 in
theorem eqState_yes (wd now given births : Int) (a p l a' p' l' : Option Addr) (ac pc lc ac' pc' lc' : Nat) (ks : List Kd) (ps : List Pd) (ls : List Ld) (w : World) (hrow : SRows w w.heap.size a p l ks ps ls) (hrow' : SRows w w.heap.size a' p' l' ks ps ls) (hf : SFit ks ps ls) :
    Calls Tryz.prog 12 #[.agg #[.int .i64 wd, .int .i64 now, .int .i64 given, .int .i64 births, .slice a ks.length ac, .slice p ps.length pc, .slice l ls.length lc], .agg #[.int .i64 wd, .int .i64 now, .int .i64 given, .int .i64 births, .slice a' ks.length ac', .slice p' ps.length pc', .slice l' ls.length lc']] w fun e w' => e = .returned (.bool true) ∧ Below w.heap.size w w' := by
  have hb0 : ∀ o1 o2, Below w.heap.size w ((w.alloc o1).alloc o2) := fun o1 o2 => ((Below.refl _ _).alloc (Nat.le_refl _) _).alloc (by simp) _
  have hx := SBox.below (SBox.new w wd now given births (.slice a ks.length ac) (.slice p ps.length pc) (.slice l ls.length lc) 36) ((Below.refl _ _).alloc (Nat.le_refl _) (.cells #[.int .i64 wd, .int .i64 now, .int .i64 given, .int .i64 births, .slice a' ks.length ac', .slice p' ps.length pc', .slice l' ls.length lc'] 36))
  have hy := SBox.new (w.alloc (.cells #[.int .i64 wd, .int .i64 now, .int .i64 given, .int .i64 births, .slice a ks.length ac, .slice p ps.length pc, .slice l ls.length lc] 36)) wd now given births (.slice a' ks.length ac') (.slice p' ps.length pc') (.slice l' ls.length lc') 36
  go_enter Tryz.func12, Tryz.ntmps12
  go_wp2_with fail
  refine (eqKeptS_yes a a' ac ac' ks _ (hrow.below' (hb0 _ _)).k (hrow'.below' (hb0 _ _)).k hf.k hf.r).mono ?_
  rintro e w1 ⟨rfl, hb1⟩
  have hB1 := (hb0 _ _).trans (hb1.mono (by simp; omega))
  obtain ⟨_, _, _, _, _, x5, x6, x7⟩ := hx.below hb1
  obtain ⟨_, _, _, _, _, y5, y6, y7⟩ := hy.below hb1
  simp [go_sem] at y5 y6 y7
  clear hb1 hx hy
  go_wp2_with fail
  refine (eqPinS_yes p p' pc pc' ps _ (hrow.below' hB1).p (hrow'.below' hB1).p hf.p).mono ?_
  rintro e w2 ⟨rfl, hb2⟩
  have hB2 := hB1.trans (hb2.mono hB1.size)
  replace x6 := (hb2.cell (p := ⟨w.heap.size, 6, none⟩) x7).trans x6
  replace y6 := (hb2.cell (p := ⟨w.heap.size + 1, 6, none⟩) y7).trans y6
  have z2 := hb2.size
  clear hb2 x5 y5
  go_wp2_with fail
  refine (eqLeaseS_yes l l' lc lc' ls _ (hrow.below' hB2).l (hrow'.below' hB2).l hf.l).mono ?_
  rintro e w3 ⟨rfl, hb3⟩
  go_wp2
  go_ret
  exact ⟨rfl, hB2.trans (hb3.mono hB2.size)⟩

end Go.Proofs.YthkmpihfhkmaoaaGreat

/-
  laws.markCleared, heldCleared, eqCleared.
-/
namespace Go.Proofs.YthkmpihfhkmaoaaGreat
open Go.ChangeShapes Go.WideShapes Go.ChangeAt Go.RowKit

/-- The blocks of a Cleared. -/
def cB (T P L Q M D : Value) (rs : List Value) : List Nat := blks T P L rs ++ ((sBlk Q).toList ++ (sBlk M).toList) ++ (sBlk D).toList

theorem SAns.lts {w : World} {base : Nat} {T P L : Value} {rs : List Value} {ks : List Kd} {ps : List Pd} {ls : List Ld} (h : SAns w base T P L rs ks ps ls) : ∀ g ∈ blks T P L rs, g < w.heap.size := by
  intro g hg
  unfold blks at hg
  simp only [List.mem_append, Option.mem_toList, List.mem_filterMap] at hg
  rcases hg with hg | hg | hg | ⟨r, hr, hg⟩
  · exact (own_lt h.things hg).2
  · exact (own_lt h.pins hg).2
  · exact (own_lt h.leases hg).2
  · obtain ⟨i, hi⟩ := List.getElem?_of_mem hr
    have hl := (List.getElem?_eq_some_iff.1 hi).1
    rw [h.len] at hl
    exact (own_lt (h.refs i _ r (List.getElem?_eq_getElem hl) hi) hg).2

theorem CAns.below {w w' : World} {base : Nat} {T P L Q M D : Value} {rs : List Value} {ks : List Kd} {ps : List Pd} {ls : List Ld} {qs ms ds : List ByteArray} (h : CAns w base T P L Q M D rs ks ps ls qs ms ds) (hb : Below w.heap.size w w') : CAns w' base T P L Q M D rs ks ps ls qs ms ds :=
  ⟨h.st.below hb, h.q.below hb, h.mr.below hb, h.dd.below hb, h.ap, h.apS⟩

/-- A state that another's marks leave. -/
theorem SAns.apart {w w' : World} {base : Nat} {T P L : Value} {rs : List Value} {ks : List Kd} {ps : List Pd} {ls : List Ld} (h : SAns w base T P L rs ks ps ls) {V : List Nat} (ht : Tn V w w') (hV : ∀ b ∈ V, b ∉ blks T P L rs) : SAns w' base T P L rs ks ps ls := by
  have hmem : ∀ g, g ∈ blks T P L rs → g < w.heap.size → w'.heap[g]? = w.heap[g]? := fun g hg hl => ht.block g hl (fun e => hV g e hg)
  refine ⟨h.len, own_same h.things (fun g hg => hmem g (by unfold blks; simp [hg]) (own_lt h.things hg).2), fun i k r hk hr => own_same (h.refs i k r hk hr) (fun g hg => hmem g (by unfold blks; simp only [List.mem_append, List.mem_filterMap]; exact .inr (.inr (.inr ⟨r, List.mem_of_getElem? hr, hg⟩))) (own_lt (h.refs i k r hk hr) hg).2), own_same h.pins (fun g hg => hmem g (by unfold blks; simp [hg]) (own_lt h.pins hg).2), own_same h.leases (fun g hg => hmem g (by unfold blks; simp [hg]) (own_lt h.leases hg).2), h.nd⟩

set_option maxRecDepth 20000 in
set_option maxHeartbeats 4000000 in
theorem markClearedO (code wd now given births ph top at_ ro : Int) (base k : Nat) (T P L Q M D : Value) (rs : List Value) (ks : List Kd) (ps : List Pd) (ls : List Ld) (qs ms ds : List ByteArray) (w : World) (h : CAns w base T P L Q M D rs ks ps ls qs ms ds) (hk : 1 ≤ k) (hkn : k + cntS ks ps ls + qs.length + ms.length + ds.length ≤ 100000000) :
    Calls Tryz.prog 16 #[.agg #[.int .i64 code, .int .i64 wd, .int .i64 now, .int .i64 given, .int .i64 births, T, P, L, .int .i64 ph, Q, M, .int .i64 top, .int .i64 at_, .int .i64 ro, D], .int .i64 k] w fun e w' => e = .returned (.int .i64 (k + cntS ks ps ls + qs.length + ms.length + ds.length : Nat)) ∧ CAns w' base T P L Q M D rs (markK k ks) (markP (k + ks.length * 3 + refsN ks) ps) (markL (k + ks.length * 3 + refsN ks + ps.length * 2) ls) (marks (k + cntS ks ps ls) qs.length) (marks (k + cntS ks ps ls + qs.length) ms.length) (marks (k + cntS ks ps ls + qs.length + ms.length) ds.length) ∧ Tn (cB T P L Q M D rs) w w' := by
  obtain ⟨ta, tc, rfl⟩ := own_val h.st.things
  obtain ⟨pa, pc, rfl⟩ := own_val h.st.pins
  obtain ⟨la, lc, rfl⟩ := own_val h.st.leases
  obtain ⟨qa, qc, rfl, _⟩ := h.q.row
  obtain ⟨ma, mc, rfl, _⟩ := h.mr.row
  obtain ⟨da, dc, rfl, _⟩ := h.dd.row
  obtain ⟨W, hW⟩ : ∃ W, W = w.alloc (.cells #[.int .i64 code, .int .i64 wd, .int .i64 now, .int .i64 given, .int .i64 births, .slice ta ks.length tc, .slice pa ps.length pc, .slice la ls.length lc, .int .i64 ph, .slice qa qs.length qc, .slice ma ms.length mc, .int .i64 top, .int .i64 at_, .int .i64 ro, .slice da ds.length dc] 39) := ⟨_, rfl⟩
  have hb : Below w.heap.size w W := by rw [hW]; exact (Below.refl _ _).alloc (Nat.le_refl _) _
  have hz : CellsAt W w.heap.size [.int .i64 code, .int .i64 wd, .int .i64 now, .int .i64 given, .int .i64 births, .slice ta ks.length tc, .slice pa ps.length pc, .slice la ls.length lc, .int .i64 ph, .slice qa qs.length qc, .slice ma ms.length mc, .int .i64 top, .int .i64 at_, .int .i64 ro, .slice da ds.length dc] := by rw [hW]; exact CellsAt.new w _ _
  have HZ : Hid (CellsAt W w.heap.size [.int .i64 code, .int .i64 wd, .int .i64 now, .int .i64 given, .int .i64 births, .slice ta ks.length tc, .slice pa ps.length pc, .slice la ls.length lc, .int .i64 ph, .slice qa qs.length qc, .slice ma ms.length mc, .int .i64 top, .int .i64 at_, .int .i64 ro, .slice da ds.length dc]) := hz
  have HC : Hid (CAns W base (.slice ta ks.length tc) (.slice pa ps.length pc) (.slice la ls.length lc) (.slice qa qs.length qc) (.slice ma ms.length mc) (.slice da ds.length dc) rs ks ps ls qs ms ds) := h.below hb
  have HLt : Hid ((∀ g ∈ blks (.slice ta ks.length tc) (.slice pa ps.length pc) (.slice la ls.length lc) rs, g < w.heap.size) ∧ (∀ g, sBlk (.slice qa qs.length qc) = some g → g < w.heap.size) ∧ (∀ g, sBlk (.slice ma ms.length mc) = some g → g < w.heap.size) ∧ (∀ g, sBlk (.slice da ds.length dc) = some g → g < w.heap.size)) := ⟨h.st.lts, fun g hg => (h.q.blk hg).2, fun g hg => (h.mr.blk hg).2, fun g hg => (h.dd.blk hg).2⟩
  obtain ⟨c1, _⟩ := hz 1 _ rfl
  obtain ⟨c2, _⟩ := hz 2 _ rfl
  obtain ⟨c3, _⟩ := hz 3 _ rfl
  obtain ⟨c4, _⟩ := hz 4 _ rfl
  obtain ⟨c5, _⟩ := hz 5 _ rfl
  obtain ⟨c6, _⟩ := hz 6 _ rfl
  obtain ⟨c7, _⟩ := hz 7 _ rfl
  have HW : Hid _ := hW
  have HB : Hid (Below w.heap.size w W) := hb
  have hwz : w.heap.size < W.heap.size := CellsAt.lt hz
  clear h hW hz hb
  go_enter Tryz.func16, Tryz.ntmps16
  go_upto_region 1 with fail
  rw [← HW.out]
  clear HW
  go_wp2_with fail
  refine (markStateX wd now given births base k _ _ _ rs ks ps ls W HC.out.st hk (by omega)).mono ?_
  rintro e w1 ⟨rfl, hs1, ht1⟩
  have z1 : CellsAt w1 w.heap.size [.int .i64 code, .int .i64 wd, .int .i64 now, .int .i64 given, .int .i64 births, .slice ta ks.length tc, .slice pa ps.length pc, .slice la ls.length lc, .int .i64 ph, .slice qa qs.length qc, .slice ma ms.length mc, .int .i64 top, .int .i64 at_, .int .i64 ro, .slice da ds.length dc] := CellsAt.same HZ.out (ht1.block _ hwz (fun e => by have := HLt.out.1 _ e; omega))
  have hq1 : ORow w1 base (.slice qa qs.length qc) qs := HC.out.q.turn ht1 (fun g hg e => HC.out.apS g (.inl hg) e)
  have hm1 : ORow w1 base (.slice ma ms.length mc) ms := HC.out.mr.turn ht1 (fun g hg e => HC.out.apS g (.inr (.inl hg)) e)
  have hd1 : ORow w1 base (.slice da ds.length dc) ds := HC.out.dd.turn ht1 (fun g hg e => HC.out.apS g (.inr (.inr hg)) e)
  have H1 : Hid (SAns w1 base (.slice ta ks.length tc) (.slice pa ps.length pc) (.slice la ls.length lc) rs (markK k ks) (markP (k + ks.length * 3 + refsN ks) ps) (markL (k + ks.length * 3 + refsN ks + ps.length * 2) ls) ∧ ORow w1 base (.slice qa qs.length qc) qs ∧ ORow w1 base (.slice ma ms.length mc) ms ∧ ORow w1 base (.slice da ds.length dc) ds ∧ Tn (blks (.slice ta ks.length tc) (.slice pa ps.length pc) (.slice la ls.length lc) rs) W w1) := ⟨hs1, hq1, hm1, hd1, ht1⟩
  have HZ1 : Hid (CellsAt w1 w.heap.size [.int .i64 code, .int .i64 wd, .int .i64 now, .int .i64 given, .int .i64 births, .slice ta ks.length tc, .slice pa ps.length pc, .slice la ls.length lc, .int .i64 ph, .slice qa qs.length qc, .slice ma ms.length mc, .int .i64 top, .int .i64 at_, .int .i64 ro, .slice da ds.length dc]) := z1
  have hwz1 : w.heap.size < w1.heap.size := Nat.lt_of_lt_of_le hwz ht1.size
  clear c1 c2 c3 c4 c5 c6 c7 hs1 hq1 hm1 hd1 ht1
  obtain ⟨c8, _⟩ := z1 8 _ rfl
  obtain ⟨c9, _⟩ := z1 9 _ rfl
  obtain ⟨c10, _⟩ := z1 10 _ rfl
  obtain ⟨c11, _⟩ := z1 11 _ rfl
  obtain ⟨c12, _⟩ := z1 12 _ rfl
  obtain ⟨c13, _⟩ := z1 13 _ rfl
  clear z1
  go_wp2_with fail
  refine (markRoundO ph top at_ ro base (k + cntS ks ps ls) _ _ qs ms w1 H1.out.2.1 H1.out.2.2.1 (fun g hg => (HC.out.ap.1 g hg).1) (by omega) (by omega)).mono ?_
  rintro e w2 ⟨rfl, hq2, hm2, ht2⟩
  have z2 : CellsAt w2 w.heap.size [.int .i64 code, .int .i64 wd, .int .i64 now, .int .i64 given, .int .i64 births, .slice ta ks.length tc, .slice pa ps.length pc, .slice la ls.length lc, .int .i64 ph, .slice qa qs.length qc, .slice ma ms.length mc, .int .i64 top, .int .i64 at_, .int .i64 ro, .slice da ds.length dc] := CellsAt.same HZ1.out (ht2.block _ hwz1 (fun e => by
    rcases List.mem_append.1 e with e | e
    · have := HLt.out.2.1 _ (by simpa using e); omega
    · have := HLt.out.2.2.1 _ (by simpa using e); omega))
  have hs2 := H1.out.1.apart ht2 (fun b hb e => by
    rcases List.mem_append.1 hb with hb | hb
    · exact HC.out.apS b (.inl (by simpa using hb)) e
    · exact HC.out.apS b (.inr (.inl (by simpa using hb))) e)
  have hd2 : ORow w2 base (.slice da ds.length dc) ds := H1.out.2.2.2.1.turn ht2 (fun g hg e => by
    rcases List.mem_append.1 e with e | e
    · exact (HC.out.ap.1 g (by simpa using e)).2 hg
    · exact HC.out.ap.2 g (by simpa using e) hg)
  have H2 : Hid (SAns w2 base (.slice ta ks.length tc) (.slice pa ps.length pc) (.slice la ls.length lc) rs (markK k ks) (markP (k + ks.length * 3 + refsN ks) ps) (markL (k + ks.length * 3 + refsN ks + ps.length * 2) ls) ∧ ORow w2 base (.slice qa qs.length qc) (marks (k + cntS ks ps ls) qs.length) ∧ ORow w2 base (.slice ma ms.length mc) (marks (k + cntS ks ps ls + qs.length) ms.length) ∧ ORow w2 base (.slice da ds.length dc) ds ∧ Tn (blks (.slice ta ks.length tc) (.slice pa ps.length pc) (.slice la ls.length lc) rs ++ ((sBlk (.slice qa qs.length qc)).toList ++ (sBlk (.slice ma ms.length mc)).toList)) W w2) := ⟨hs2, hq2, hm2, hd2, (H1.out.2.2.2.2.mono (fun b hb => List.mem_append.2 (.inl hb))).trans (ht2.mono (fun b hb => List.mem_append.2 (.inr hb)))⟩
  obtain ⟨c14, _⟩ := z2 14 _ rfl
  clear c8 c9 c10 c11 c12 c13 hs2 hq2 hm2 hd2 ht2 z2 HZ1 H1
  go_wp2_with fail
  refine (markO_any base (k + cntS ks ps ls + qs.length + ms.length) _ ds w2 H2.out.2.2.2.1 (by omega) (by omega)).mono ?_
  rintro e w3 ⟨rfl, hd3, hg3⟩
  have ht3 := tn_grown hg3
  have hD : ∀ g, g ∈ (sBlk (.slice da ds.length dc)).toList → sBlk (.slice da ds.length dc) = some g := fun g hg => by simpa using hg
  have H3 : Hid (CAns w3 base (.slice ta ks.length tc) (.slice pa ps.length pc) (.slice la ls.length lc) (.slice qa qs.length qc) (.slice ma ms.length mc) (.slice da ds.length dc) rs (markK k ks) (markP (k + ks.length * 3 + refsN ks) ps) (markL (k + ks.length * 3 + refsN ks + ps.length * 2) ls) (marks (k + cntS ks ps ls) qs.length) (marks (k + cntS ks ps ls + qs.length) ms.length) (marks (k + cntS ks ps ls + qs.length + ms.length) ds.length)) :=
    ⟨H2.out.1.apart ht3 (fun b hb e => HC.out.apS b (.inr (.inr (hD b hb))) e), H2.out.2.1.turn ht3 (fun g hg e => (HC.out.ap.1 g hg).2 (hD g e)), H2.out.2.2.1.turn ht3 (fun g hg e => HC.out.ap.2 g hg (hD g e)), hd3, HC.out.ap, HC.out.apS⟩
  have HT3 : Hid (Tn (cB (.slice ta ks.length tc) (.slice pa ps.length pc) (.slice la ls.length lc) (.slice qa qs.length qc) (.slice ma ms.length mc) (.slice da ds.length dc) rs) w w3) := (Tn.of HB.out).trans ((H2.out.2.2.2.2.mono (fun b hb => List.mem_append.2 (.inl hb))).trans (ht3.mono (fun b hb => List.mem_append.2 (.inr hb))))
  clear c14 hd3 hg3 ht3 hD H2
  go_wp2
  go_ret
  exact ⟨rfl, H3.out, HT3.out⟩

theorem refsN_markK : ∀ (ks : List Kd) (k : Nat), refsN (markK k ks) = refsN ks
  | [], _ => rfl
  | x :: xs, k => by
    rw [refsN_cons]
    show refsN (markX k x :: markK _ xs) = _
    rw [refsN_cons, refsN_markK xs]
    simp [markX, marks_length]

set_option maxRecDepth 20000 in
set_option maxHeartbeats 4000000 in
theorem heldClearedO (code wd now given births ph top at_ ro : Int) (base k : Nat) (T P L Q M D : Value) (rs : List Value) (ks : List Kd) (ps : List Pd) (ls : List Ld) (qs ms ds : List ByteArray) (w : World) (h : CAns w base T P L Q M D rs (markK k ks) (markP (k + ks.length * 3 + refsN ks) ps) (markL (k + ks.length * 3 + refsN ks + ps.length * 2) ls) (marks (k + cntS ks ps ls) qs.length) (marks (k + cntS ks ps ls + qs.length) ms.length) (marks (k + cntS ks ps ls + qs.length + ms.length) ds.length)) (hk : 1 ≤ k) (hkn : k + cntS ks ps ls + qs.length + ms.length + ds.length ≤ 100000000) :
    Calls Tryz.prog 17 #[.agg #[.int .i64 code, .int .i64 wd, .int .i64 now, .int .i64 given, .int .i64 births, T, P, L, .int .i64 ph, Q, M, .int .i64 top, .int .i64 at_, .int .i64 ro, D], .int .i64 k] w fun e w' => e = .returned (.int .i64 (k + cntS ks ps ls + qs.length + ms.length + ds.length : Nat)) ∧ Below w.heap.size w w' := by
  obtain ⟨ta, tc, rfl⟩ := own_val h.st.things
  obtain ⟨pa, pc, rfl⟩ := own_val h.st.pins
  obtain ⟨la, lc, rfl⟩ := own_val h.st.leases
  obtain ⟨qa, qc, rfl, hq⟩ := h.q.row
  obtain ⟨ma, mc, rfl, hm⟩ := h.mr.row
  obtain ⟨da, dc, rfl, hd⟩ := h.dd.row
  have hst := h.st
  rw [markK_length, markP_length, markL_length] at hst ⊢
  rw [marks_length, marks_length, marks_length]
  obtain ⟨W, hW⟩ : ∃ W, W = w.alloc (.cells #[.int .i64 code, .int .i64 wd, .int .i64 now, .int .i64 given, .int .i64 births, .slice ta ks.length tc, .slice pa ps.length pc, .slice la ls.length lc, .int .i64 ph, .slice qa qs.length qc, .slice ma ms.length mc, .int .i64 top, .int .i64 at_, .int .i64 ro, .slice da ds.length dc] 39) := ⟨_, rfl⟩
  have hb : Below w.heap.size w W := by rw [hW]; exact (Below.refl _ _).alloc (Nat.le_refl _) _
  have hz : CellsAt W w.heap.size [.int .i64 code, .int .i64 wd, .int .i64 now, .int .i64 given, .int .i64 births, .slice ta ks.length tc, .slice pa ps.length pc, .slice la ls.length lc, .int .i64 ph, .slice qa qs.length qc, .slice ma ms.length mc, .int .i64 top, .int .i64 at_, .int .i64 ro, .slice da ds.length dc] := by rw [hW]; exact CellsAt.new w _ _
  have HZ : Hid (CellsAt W w.heap.size [.int .i64 code, .int .i64 wd, .int .i64 now, .int .i64 given, .int .i64 births, .slice ta ks.length tc, .slice pa ps.length pc, .slice la ls.length lc, .int .i64 ph, .slice qa qs.length qc, .slice ma ms.length mc, .int .i64 top, .int .i64 at_, .int .i64 ro, .slice da ds.length dc]) := hz
  have HS : Hid (SAns W base (.slice ta ks.length tc) (.slice pa ps.length pc) (.slice la ls.length lc) rs (markK k ks) (markP (k + ks.length * 3 + refsN ks) ps) (markL (k + ks.length * 3 + refsN ks + ps.length * 2) ls)) := hst.below hb
  have HQ : Hid (SRow w w.heap.size qa (marks (k + cntS ks ps ls) qs.length) ∧ SRow w w.heap.size ma (marks (k + cntS ks ps ls + qs.length) ms.length) ∧ SRow w w.heap.size da (marks (k + cntS ks ps ls + qs.length + ms.length) ds.length)) := ⟨hq, hm, hd⟩
  obtain ⟨c1, _⟩ := hz 1 _ rfl
  obtain ⟨c2, _⟩ := hz 2 _ rfl
  obtain ⟨c3, _⟩ := hz 3 _ rfl
  obtain ⟨c4, _⟩ := hz 4 _ rfl
  obtain ⟨c5, _⟩ := hz 5 _ rfl
  obtain ⟨c6, _⟩ := hz 6 _ rfl
  obtain ⟨c7, _⟩ := hz 7 _ rfl
  have HW : Hid _ := hW
  clear h hW hz hst hq hm hd
  have e1 : ¬ (((k + cntS ks ps ls : Nat) : Int) < 0) := by omega
  have e2 : ¬ (((k + cntS ks ps ls + qs.length + ms.length : Nat) : Int) < 0) := by omega
  have e3 : ¬ (((k + cntS ks ps ls + qs.length + ms.length + ds.length : Nat) : Int) < 0) := by omega
  go_enter Tryz.func17, Tryz.ntmps17
  go_upto_region 1 with fail
  rw [← HW.out]
  clear HW
  go_wp2_with fail
  refine (heldStateX wd now given births base k _ _ _ rs ks ps ls W HS.out hk (by omega)).mono ?_
  rintro e w1 ⟨rfl, hb1⟩
  have hB1 : Below w.heap.size w w1 := hb.trans (hb1.mono hb.size)
  have z1 := CellsAt.below HZ.out hb1
  obtain ⟨d8, _⟩ := z1 8 _ rfl
  obtain ⟨d9, _⟩ := z1 9 _ rfl
  obtain ⟨d10, _⟩ := z1 10 _ rfl
  obtain ⟨d11, _⟩ := z1 11 _ rfl
  obtain ⟨d12, _⟩ := z1 12 _ rfl
  obtain ⟨d13, _⟩ := z1 13 _ rfl
  have HZ1 : Hid (CellsAt w1 w.heap.size [.int .i64 code, .int .i64 wd, .int .i64 now, .int .i64 given, .int .i64 births, .slice ta ks.length tc, .slice pa ps.length pc, .slice la ls.length lc, .int .i64 ph, .slice qa qs.length qc, .slice ma ms.length mc, .int .i64 top, .int .i64 at_, .int .i64 ro, .slice da ds.length dc]) := z1
  have hr := heldRound_any ph top at_ ro qa ma qs.length ms.length qc mc (k + cntS ks ps ls) w1 (HQ.out.1.below' hB1) (HQ.out.2.1.below' hB1) (by omega) (by omega)
  clear c1 c2 c3 c4 c5 c6 c7 z1
  go_wp2_with fail
  refine hr.mono ?_
  rintro e w2 ⟨rfl, hb2⟩
  have hB2 : Below w.heap.size w w2 := hB1.trans (hb2.mono hB1.size)
  have z2 := CellsAt.below HZ1.out hb2
  obtain ⟨f14, _⟩ := z2 14 _ rfl
  have hr2 := heldS_any da ds.length dc (k + cntS ks ps ls + qs.length + ms.length) w2.heap.size w2 (HQ.out.2.2.below' hB2) (Nat.le_refl _) (by omega) (by omega)
  clear z2 d8 d9 d10 d11 d12 d13 hr
  rw [show ((k + cntS ks ps ls : Nat) : Int) + qs.length + ms.length = ((k + cntS ks ps ls + qs.length + ms.length : Nat) : Int) by omega]
  go_wp2_with fail
  refine hr2.mono ?_
  rintro e w3 ⟨rfl, hb3⟩
  rw [show ((k + cntS ks ps ls + qs.length + ms.length : Nat) : Int) + ds.length = ((k + cntS ks ps ls + qs.length + ms.length + ds.length : Nat) : Int) by omega]
  clear f14 hr2
  go_wp2
  go_ret
  exact ⟨rfl, hB2.trans (hb3.mono hB2.size)⟩

end Go.Proofs.YthkmpihfhkmaoaaGreat

/-
  laws.eqCleared of equals.
-/
namespace Go.Proofs.YthkmpihfhkmaoaaGreat
open Go.ChangeShapes Go.WideShapes Go.ChangeAt Go.RowKit

set_option maxRecDepth 20000 in
set_option maxHeartbeats 4000000 in
theorem eqCleared_row (code wd now given births ph top at_ ro : Int) (ta pa la qa ma da : Option Addr) (tc pc lc qc mc dc : Nat) (ta' pa' la' qa' ma' da' : Option Addr) (tc' pc' lc' qc' mc' dc' : Nat) (ks : List Kd) (ps : List Pd) (ls : List Ld) (qs ms ds : List ByteArray) (w : World) (hs : SRows w w.heap.size ta pa la ks ps ls) (hq : SRow w w.heap.size qa qs) (hm : SRow w w.heap.size ma ms) (hd : SRow w w.heap.size da ds) (hs' : SRows w w.heap.size ta' pa' la' ks ps ls) (hq' : SRow w w.heap.size qa' qs) (hm' : SRow w w.heap.size ma' ms) (hd' : SRow w w.heap.size da' ds) (hf : SFit ks ps ls) (hrf : RFit qs ms) (hdl : ds.length ≤ 1048576) :
    Calls Tryz.prog 11 #[.agg #[.int .i64 code, .int .i64 wd, .int .i64 now, .int .i64 given, .int .i64 births, .slice ta ks.length tc, .slice pa ps.length pc, .slice la ls.length lc, .int .i64 ph, .slice qa qs.length qc, .slice ma ms.length mc, .int .i64 top, .int .i64 at_, .int .i64 ro, .slice da ds.length dc], .agg #[.int .i64 code, .int .i64 wd, .int .i64 now, .int .i64 given, .int .i64 births, .slice ta' ks.length tc', .slice pa' ps.length pc', .slice la' ls.length lc', .int .i64 ph, .slice qa' qs.length qc', .slice ma' ms.length mc', .int .i64 top, .int .i64 at_, .int .i64 ro, .slice da' ds.length dc']] w fun e w' => e = .returned (.bool true) ∧ Below w.heap.size w w' := by
  obtain ⟨W, hW⟩ : ∃ W, W = (w.alloc (.cells #[.int .i64 code, .int .i64 wd, .int .i64 now, .int .i64 given, .int .i64 births, .slice ta ks.length tc, .slice pa ps.length pc, .slice la ls.length lc, .int .i64 ph, .slice qa qs.length qc, .slice ma ms.length mc, .int .i64 top, .int .i64 at_, .int .i64 ro, .slice da ds.length dc] 39)).alloc (.cells #[.int .i64 code, .int .i64 wd, .int .i64 now, .int .i64 given, .int .i64 births, .slice ta' ks.length tc', .slice pa' ps.length pc', .slice la' ls.length lc', .int .i64 ph, .slice qa' qs.length qc', .slice ma' ms.length mc', .int .i64 top, .int .i64 at_, .int .i64 ro, .slice da' ds.length dc'] 39) := ⟨_, rfl⟩
  have hb : Below w.heap.size w W := by rw [hW]; exact ((Below.refl _ _).alloc (Nat.le_refl _) _).alloc (by simp) _
  have hz : CellsAt W w.heap.size [.int .i64 code, .int .i64 wd, .int .i64 now, .int .i64 given, .int .i64 births, .slice ta ks.length tc, .slice pa ps.length pc, .slice la ls.length lc, .int .i64 ph, .slice qa qs.length qc, .slice ma ms.length mc, .int .i64 top, .int .i64 at_, .int .i64 ro, .slice da ds.length dc] := by rw [hW]; exact CellsAt.below (CellsAt.new w _ _) ((Below.refl _ _).alloc (Nat.le_refl _) _)
  have hy : CellsAt W (w.heap.size + 1) [.int .i64 code, .int .i64 wd, .int .i64 now, .int .i64 given, .int .i64 births, .slice ta' ks.length tc', .slice pa' ps.length pc', .slice la' ls.length lc', .int .i64 ph, .slice qa' qs.length qc', .slice ma' ms.length mc', .int .i64 top, .int .i64 at_, .int .i64 ro, .slice da' ds.length dc'] := by
    have h1 := CellsAt.new (w.alloc (.cells #[.int .i64 code, .int .i64 wd, .int .i64 now, .int .i64 given, .int .i64 births, .slice ta ks.length tc, .slice pa ps.length pc, .slice la ls.length lc, .int .i64 ph, .slice qa qs.length qc, .slice ma ms.length mc, .int .i64 top, .int .i64 at_, .int .i64 ro, .slice da ds.length dc] 39)) [.int .i64 code, .int .i64 wd, .int .i64 now, .int .i64 given, .int .i64 births, .slice ta' ks.length tc', .slice pa' ps.length pc', .slice la' ls.length lc', .int .i64 ph, .slice qa' qs.length qc', .slice ma' ms.length mc', .int .i64 top, .int .i64 at_, .int .i64 ro, .slice da' ds.length dc'] 39
    rw [World.size_alloc] at h1
    rw [hW]
    exact h1
  have HZ : Hid (CellsAt W w.heap.size [.int .i64 code, .int .i64 wd, .int .i64 now, .int .i64 given, .int .i64 births, .slice ta ks.length tc, .slice pa ps.length pc, .slice la ls.length lc, .int .i64 ph, .slice qa qs.length qc, .slice ma ms.length mc, .int .i64 top, .int .i64 at_, .int .i64 ro, .slice da ds.length dc] ∧ CellsAt W (w.heap.size + 1) [.int .i64 code, .int .i64 wd, .int .i64 now, .int .i64 given, .int .i64 births, .slice ta' ks.length tc', .slice pa' ps.length pc', .slice la' ls.length lc', .int .i64 ph, .slice qa' qs.length qc', .slice ma' ms.length mc', .int .i64 top, .int .i64 at_, .int .i64 ro, .slice da' ds.length dc']) := ⟨hz, hy⟩
  have HR : Hid ((SRows w w.heap.size ta pa la ks ps ls ∧ SRows w w.heap.size ta' pa' la' ks ps ls) ∧ (SRow w w.heap.size qa qs ∧ SRow w w.heap.size ma ms ∧ SRow w w.heap.size qa' qs ∧ SRow w w.heap.size ma' ms) ∧ SRow w w.heap.size da ds ∧ SRow w w.heap.size da' ds) := ⟨⟨hs, hs'⟩, ⟨hq, hm, hq', hm'⟩, hd, hd'⟩
  obtain ⟨c0, _⟩ := hz 0 _ rfl
  obtain ⟨c1, _⟩ := hz 1 _ rfl
  obtain ⟨c2, _⟩ := hz 2 _ rfl
  obtain ⟨c3, _⟩ := hz 3 _ rfl
  obtain ⟨c4, _⟩ := hz 4 _ rfl
  obtain ⟨c5, _⟩ := hz 5 _ rfl
  obtain ⟨c6, _⟩ := hz 6 _ rfl
  obtain ⟨c7, _⟩ := hz 7 _ rfl
  obtain ⟨e0, _⟩ := hy 0 _ rfl
  obtain ⟨e1, _⟩ := hy 1 _ rfl
  obtain ⟨e2, _⟩ := hy 2 _ rfl
  obtain ⟨e3, _⟩ := hy 3 _ rfl
  obtain ⟨e4, _⟩ := hy 4 _ rfl
  obtain ⟨e5, _⟩ := hy 5 _ rfl
  obtain ⟨e6, _⟩ := hy 6 _ rfl
  obtain ⟨e7, _⟩ := hy 7 _ rfl
  have HW : Hid _ := hW
  clear hW hz hy hs hs' hq hm hq' hm' hd hd'
  go_enter Tryz.func11, Tryz.ntmps11
  go_upto_region 1 with fail
  rw [← HW.out]
  clear HW
  go_wp2_with fail
  refine (eqState_yes wd now given births ta pa la ta' pa' la' tc pc lc tc' pc' lc' ks ps ls W (HR.out.1.1.below' hb) (HR.out.1.2.below' hb) hf).mono ?_
  rintro e w1 ⟨rfl, hb1⟩
  have hB1 : Below w.heap.size w w1 := hb.trans (hb1.mono hb.size)
  have z1 := CellsAt.below HZ.out.1 hb1
  have y1 := CellsAt.below HZ.out.2 hb1
  have HZ1 : Hid (CellsAt w1 w.heap.size [.int .i64 code, .int .i64 wd, .int .i64 now, .int .i64 given, .int .i64 births, .slice ta ks.length tc, .slice pa ps.length pc, .slice la ls.length lc, .int .i64 ph, .slice qa qs.length qc, .slice ma ms.length mc, .int .i64 top, .int .i64 at_, .int .i64 ro, .slice da ds.length dc] ∧ CellsAt w1 (w.heap.size + 1) [.int .i64 code, .int .i64 wd, .int .i64 now, .int .i64 given, .int .i64 births, .slice ta' ks.length tc', .slice pa' ps.length pc', .slice la' ls.length lc', .int .i64 ph, .slice qa' qs.length qc', .slice ma' ms.length mc', .int .i64 top, .int .i64 at_, .int .i64 ro, .slice da' ds.length dc']) := ⟨z1, y1⟩
  clear c0 c1 c2 c3 c4 c5 c6 c7 e0 e1 e2 e3 e4 e5 e6 e7
  obtain ⟨c8, _⟩ := z1 8 _ rfl
  obtain ⟨c9, _⟩ := z1 9 _ rfl
  obtain ⟨c10, _⟩ := z1 10 _ rfl
  obtain ⟨c11, _⟩ := z1 11 _ rfl
  obtain ⟨c12, _⟩ := z1 12 _ rfl
  obtain ⟨c13, _⟩ := z1 13 _ rfl
  obtain ⟨e8, _⟩ := y1 8 _ rfl
  obtain ⟨e9, _⟩ := y1 9 _ rfl
  obtain ⟨e10, _⟩ := y1 10 _ rfl
  obtain ⟨e11, _⟩ := y1 11 _ rfl
  obtain ⟨e12, _⟩ := y1 12 _ rfl
  obtain ⟨e13, _⟩ := y1 13 _ rfl
  clear z1 y1 HZ
  go_wp2_with fail
  refine (eqRound_yes ph top at_ ro qa ma qa' ma' qc mc qc' mc' qs ms w1 (HR.out.2.1.1.below' hB1) (HR.out.2.1.2.1.below' hB1) (HR.out.2.1.2.2.1.below' hB1) (HR.out.2.1.2.2.2.below' hB1) hrf).mono ?_
  rintro e w2 ⟨rfl, hb2⟩
  have hB2 : Below w.heap.size w w2 := hB1.trans (hb2.mono hB1.size)
  have z2 := CellsAt.below HZ1.out.1 hb2
  have y2 := CellsAt.below HZ1.out.2 hb2
  clear c8 c9 c10 c11 c12 c13 e8 e9 e10 e11 e12 e13
  obtain ⟨c14, _⟩ := z2 14 _ rfl
  obtain ⟨e14, _⟩ := y2 14 _ rfl
  clear z2 y2 HZ1
  go_wp2_with fail
  refine (eqS_yes da da' dc dc' ds w2 w2.heap.size w2.heap.size (HR.out.2.2.1.below' hB2) (HR.out.2.2.2.below' hB2) hdl).mono ?_
  rintro e w3 ⟨rfl, n, rfl⟩
  have hB3 : Below w.heap.size w (w2.drewN n) := ⟨hB2.os, hB2.tape, hB2.output, hB2.size, hB2.block⟩
  clear c14 e14
  go_wp2
  go_ret
  exact ⟨rfl, hB3⟩

theorem eqCleared_yes (o : UOut) (T P L Q M D T' P' L' Q' M' D' : Value) (w : World) (h : CRd w T P L Q M D o.r.ks o.ps o.ls o.r.qs o.r.ms o.r.ds) (h' : CRd w T' P' L' Q' M' D' o.r.ks o.ps o.ls o.r.qs o.r.ms o.r.ds) (hf : SFit o.r.ks o.ps o.ls) (hrf : RFit o.r.qs o.r.ms) (hdl : o.r.ds.length ≤ 1048576) :
    Calls Tryz.prog 11 #[clV o T P L Q M D, clV o T' P' L' Q' M' D'] w fun e w' => e = .returned (.bool true) ∧ Below w.heap.size w w' := by
  obtain ⟨⟨ta, tc, pa, pc, la, lc, rfl, rfl, rfl, h4⟩, ⟨qa, qc, rfl, h6⟩, ⟨ma, mc, rfl, h8⟩, ⟨da, dc, rfl, h10⟩⟩ := h
  obtain ⟨⟨ta', tc', pa', pc', la', lc', rfl, rfl, rfl, h4'⟩, ⟨qa', qc', rfl, h6'⟩, ⟨ma', mc', rfl, h8'⟩, ⟨da', dc', rfl, h10'⟩⟩ := h'
  exact eqCleared_row o.code o.wd o.now o.given o.births o.r.ph o.r.top o.r.at_ o.r.ro ta pa la qa ma da tc pc lc qc mc dc ta' pa' la' qa' ma' da' tc' pc' lc' qc' mc' dc' o.r.ks o.ps o.ls o.r.qs o.r.ms o.r.ds w h4 h6 h8 h10 h4' h6' h8' h10' hf hrf hdl

/-- The things of an answer can be read. -/
theorem SAns.rows {w : World} {base : Nat} {T P L : Value} {rs : List Value} {ks : List Kd} {ps : List Pd} {ls : List Ld} (h : SAns w base T P L rs ks ps ls) : ∃ ta tc pa pc la lc, T = .slice ta ks.length tc ∧ P = .slice pa ps.length pc ∧ L = .slice la ls.length lc ∧ SRows w w.heap.size ta pa la ks ps ls := by
  obtain ⟨ta, tc, rfl⟩ := own_val h.things
  obtain ⟨pa, pc, rfl⟩ := own_val h.pins
  obtain ⟨la, lc, rfl⟩ := own_val h.leases
  refine ⟨ta, tc, pa, pc, la, lc, rfl, rfl, rfl, ⟨?_, PRow.own h.pins, LRow.own h.leases⟩⟩
  rcases h.things.2 with ⟨_, hn⟩ | ⟨g, cap, cur, e, hb, hg, _⟩
  · exact .inl (List.length_eq_zero_iff.1 hn)
  · cases e
    refine .inr ⟨g, 0, rfl, (Array.getElem?_eq_some_iff.1 hg).1, fun i k hk => ?_⟩
    have hi := (List.getElem?_eq_some_iff.1 hk).1
    have hlen := h.len
    have hr : rs[i]? = some rs[i] := List.getElem?_eq_getElem (by omega)
    have hz : (ks.zip rs)[i]? = some (k, rs[i]) := List.getElem?_zip_eq_some.2 ⟨hk, hr⟩
    have hzl : (ks.zip rs).length = ks.length := by rw [List.length_zip]; omega
    have hc : ∀ j, j < 4 → w.cell? ⟨g, i * 4 + j, none⟩ = (kC (k, rs[i]))[j]? := fun j hj => (h.things.cellAt (i * 4 + j) (by omega)).trans (row_get kC_len4 hz hj)
    have ho := h.refs i k _ hk hr
    obtain ⟨ra, rc, hra⟩ := own_val ho
    rw [Nat.zero_add]
    refine ⟨by simpa [kC] using hc 0 (by decide), by simpa [kC] using hc 1 (by decide), by simpa [kC] using hc 2 (by decide), ra, rc, ?_, ?_⟩
    · have := hc 3 (by decide)
      rw [← hra]
      simpa [kC] using this
    · rw [hra] at ho
      obtain ⟨a2, c2, e2, hs⟩ := (ORow.own ho).row
      cases e2
      exact hs

theorem CAns.rd {w : World} {base : Nat} {T P L Q M D : Value} {rs : List Value} {ks : List Kd} {ps : List Pd} {ls : List Ld} {qs ms ds : List ByteArray} (h : CAns w base T P L Q M D rs ks ps ls qs ms ds) : CRd w T P L Q M D ks ps ls qs ms ds :=
  ⟨h.st.rows, h.q.row, h.mr.row, h.dd.row⟩

end Go.Proofs.YthkmpihfhkmaoaaGreat

/-
  impl.Unit.
-/
namespace Go.Proofs.YthkmpihfhkmaoaaGreat
open Go.ChangeShapes Go.WideShapes Go.ChangeAt Go.RowKit

set_option maxRecDepth 20000 in
set_option maxHeartbeats 16000000 in
theorem iUnit_any (wd now given births : Int) (ga gp gl : Nat) (ac pc lc : Nat) (ks : List Kd) (ps : List Pd) (ls : List Ld) (ph top at_ ro : Int) (g h : Nat) (qac mac : Nat) (qs ms : List ByteArray) (w : World)
    (hrow : SRows w w.heap.size (some ⟨ga, 0, none⟩) (some ⟨gp, 0, none⟩) (some ⟨gl, 0, none⟩) ks ps ls) (hk : KMem ks) (hp : PMem ps) (hl : LMem ls) (hf : SFit ks ps ls) (hbw : ∀ k ∈ ks, (Lit.int .i64 k.born).wf = true) (hq : SRow w w.heap.size (some ⟨g, 0, none⟩) qs) (hm : SRow w w.heap.size (some ⟨h, 0, none⟩) ms) (hrf : RFit qs ms) :
    Calls Tryz.prog 10 #[.agg #[.int .i64 wd, .int .i64 now, .int .i64 given, .int .i64 births, .slice (some ⟨ga, 0, none⟩) ks.length ac, .slice (some ⟨gp, 0, none⟩) ps.length pc, .slice (some ⟨gl, 0, none⟩) ls.length lc], .agg #[.int .i64 ph, .slice (some ⟨g, 0, none⟩) qs.length qac, .slice (some ⟨h, 0, none⟩) ms.length mac, .int .i64 top, .int .i64 at_, .int .i64 ro]] w fun e w' => ∃ o T P L Q M D rs, e = .returned (clV o T P L Q M D) ∧ UnitTo wd now given births ks ps ls ph top at_ ro qs ms o ∧ CAns w' w.heap.size T P L Q M D rs o.r.ks o.ps o.ls o.r.qs o.r.ms o.r.ds ∧ Below w.heap.size w w' := by
  obtain ⟨W, hW⟩ : ∃ W, W = ((w.alloc (.cells #[.int .i64 wd, .int .i64 now, .int .i64 given, .int .i64 births, .slice (some ⟨ga, 0, none⟩) ks.length ac, .slice (some ⟨gp, 0, none⟩) ps.length pc, .slice (some ⟨gl, 0, none⟩) ls.length lc] 36)).alloc (.cells #[.int .i64 ph, .slice (some ⟨g, 0, none⟩) qs.length qac, .slice (some ⟨h, 0, none⟩) ms.length mac, .int .i64 top, .int .i64 at_, .int .i64 ro] 37)).alloc (.cells #[.int .i64 0, .int .i64 0, .int .i64 0, .int .i64 0, .int .i64 0, .slice none 0 0, .slice none 0 0, .slice none 0 0, .int .i64 0, .slice none 0 0, .slice none 0 0, .int .i64 0, .int .i64 0, .int .i64 0, .slice none 0 0] 39) := ⟨_, rfl⟩
  have hbW : Below w.heap.size w W := by rw [hW]; exact (((Below.refl _ _).alloc (Nat.le_refl _) _).alloc (by simp) _).alloc (by simp; omega) _
  have x2 : CellsAt W (w.heap.size + 2) z15 := by
    have h1 := CellsAt.new ((w.alloc (.cells #[.int .i64 wd, .int .i64 now, .int .i64 given, .int .i64 births, .slice (some ⟨ga, 0, none⟩) ks.length ac, .slice (some ⟨gp, 0, none⟩) ps.length pc, .slice (some ⟨gl, 0, none⟩) ls.length lc] 36)).alloc (.cells #[.int .i64 ph, .slice (some ⟨g, 0, none⟩) qs.length qac, .slice (some ⟨h, 0, none⟩) ms.length mac, .int .i64 top, .int .i64 at_, .int .i64 ro] 37)) z15 39
    rw [hW]
    simpa [z15] using h1
  have x1 : RBox W (w.heap.size + 1) ph (.slice (some ⟨g, 0, none⟩) qs.length qac) (.slice (some ⟨h, 0, none⟩) ms.length mac) top at_ ro := by
    rw [hW]; exact ⟨by simp [go_sem], by simp [go_sem], by simp [go_sem], by simp [go_sem], by simp [go_sem], by simp [go_sem], by simp <;> omega⟩
  have x0 : SBox W w.heap.size wd now given births (.slice (some ⟨ga, 0, none⟩) ks.length ac) (.slice (some ⟨gp, 0, none⟩) ps.length pc) (.slice (some ⟨gl, 0, none⟩) ls.length lc) := by
    rw [hW]; exact ⟨by simp [go_sem], by simp [go_sem], by simp [go_sem], by simp [go_sem], by simp [go_sem], by simp [go_sem], by simp [go_sem], by simp <;> omega⟩
  have hzW : W.heap.size = w.heap.size + 3 := by rw [hW]; simp
  have HW : Hid _ := hW
  clear hW
  go_enter Tryz.func10, Tryz.ntmps10
  go_wp2_with fail
  rw [← HW.out]
  refine (iValidRound_any wd now given births _ _ _ _ _ _ ks ps ls ph top at_ ro _ _ _ _ qs ms W (hrow.below' hbW) hk hp hl hf hbw (hq.below' hbW) (hm.below' hbW) hrf).mono ?_
  rintro e w2 ⟨b2, rfl, hs2, hb2⟩
  have hB2 := hbW.trans (hb2.mono hbW.size)
  have HX0 : Hid _ := x0.below hb2
  have HX1 : Hid _ := x1.below hb2
  have HX2 : Hid (CellsAt w2 (w.heap.size + 2) z15) := CellsAt.below (v := .int .i64 0) x2 hb2
  have hz2 : w.heap.size + 3 ≤ w2.heap.size := by have := hb2.size; omega
  have HS2 : Hid _ := hs2
  have HB2 : Hid _ := hB2
  clear hb2 x0 x1 x2 HW hs2 hbW hzW
  by_cases hgood : b2 = true ∧ ro ≠ 1000000000
  · obtain ⟨rfl, hro⟩ := hgood
    have hro' : (ro == 1000000000) = false := by simpa using hro
    have hP := HS2.out.1 rfl
    have HP : Hid ((StateOk wd now given births ks ps ls ∧ RoundOk wd births ph top at_ ro qs ms) ∧ ro ≠ 1000000000) := ⟨hP, hro⟩
    have hU := uok_of hP.1 hP.2
    have HUO : Hid (UOk wd births ks ps ls ph ro qs ms) := hU
    have HSR : Hid (∀ X, Below w2.heap.size w2 X → X.cell? ⟨w.heap.size, 0, none⟩ = some (.int .i64 wd) ∧ X.cell? ⟨w.heap.size, 1, none⟩ = some (.int .i64 now) ∧ X.cell? ⟨w.heap.size, 2, none⟩ = some (.int .i64 given) ∧ X.cell? ⟨w.heap.size, 3, none⟩ = some (.int .i64 births) ∧ X.cell? ⟨w.heap.size, 4, none⟩ = some (.slice (some ⟨ga, 0, none⟩) ks.length ac) ∧ X.cell? ⟨w.heap.size, 5, none⟩ = some (.slice (some ⟨gp, 0, none⟩) ps.length pc) ∧ X.cell? ⟨w.heap.size, 6, none⟩ = some (.slice (some ⟨gl, 0, none⟩) ls.length lc) ∧ X.cell? ⟨w.heap.size + 1, 0, none⟩ = some (.int .i64 ph) ∧ X.cell? ⟨w.heap.size + 1, 1, none⟩ = some (.slice (some ⟨g, 0, none⟩) qs.length qac) ∧ X.cell? ⟨w.heap.size + 1, 2, none⟩ = some (.slice (some ⟨h, 0, none⟩) ms.length mac) ∧ X.cell? ⟨w.heap.size + 1, 3, none⟩ = some (.int .i64 top) ∧ X.cell? ⟨w.heap.size + 1, 4, none⟩ = some (.int .i64 at_) ∧ X.cell? ⟨w.heap.size + 1, 5, none⟩ = some (.int .i64 ro)) := fun X hX => by
      have h1 := sq7 (SBox.below HX0.out hX)
      have h2 := rq6 (RBox.below HX1.out hX)
      exact ⟨h1.1, h1.2.1, h1.2.2.1, h1.2.2.2.1, h1.2.2.2.2.1, h1.2.2.2.2.2.1, h1.2.2.2.2.2.2, h2⟩
    have HRow : Hid (SRows w2.drew w2.drew.heap.size (some ⟨ga, 0, none⟩) (some ⟨gp, 0, none⟩) (some ⟨gl, 0, none⟩) ks ps ls) := hrow.below' hB2.drew
    have HQM : Hid (∀ X, Below w2.heap.size w2 X → SRow X X.heap.size (some ⟨g, 0, none⟩) qs ∧ SRow X X.heap.size (some ⟨h, 0, none⟩) ms) := fun X hX => ⟨hq.below' (hB2.trans (hX.mono hB2.size)), hm.below' (hB2.trans (hX.mono hB2.size))⟩
    have hkl := hU.ok.len
    have hpl := hU.pl
    have hll := hU.ll
    have h8 := hU.ok.w8
    have HSZ : Hid (∀ k ∈ ks, (k.sum.size : Int) = wd) := hU.ok.sz
    have D0 : Below w2.heap.size w2 w2.drew := (Below.refl _ _).drew
    obtain ⟨p0, p1, p2, p3, p4, p5, p6⟩ := HX1.out
    clear hrow hk hp hl hf hbw hq hm hB2 HS2 hP hU
    go_upto_region 3 with fail
    clear p0 p1 p2 p3 p4 p5 p6
    go_region_held3 (fun X => X.cell? ⟨w.heap.size, 0, none⟩ = some (.int .i64 wd) ∧ X.cell? ⟨w.heap.size, 1, none⟩ = some (.int .i64 now) ∧ X.cell? ⟨w.heap.size, 2, none⟩ = some (.int .i64 given) ∧ X.cell? ⟨w.heap.size, 3, none⟩ = some (.int .i64 births) ∧ X.cell? ⟨w.heap.size, 4, none⟩ = some (.slice (some ⟨ga, 0, none⟩) ks.length ac) ∧ X.cell? ⟨w.heap.size, 5, none⟩ = some (.slice (some ⟨gp, 0, none⟩) ps.length pc) ∧ X.cell? ⟨w.heap.size, 6, none⟩ = some (.slice (some ⟨gl, 0, none⟩) ls.length lc) ∧ X.cell? ⟨w.heap.size + 1, 0, none⟩ = some (.int .i64 ph) ∧ X.cell? ⟨w.heap.size + 1, 1, none⟩ = some (.slice (some ⟨g, 0, none⟩) qs.length qac) ∧ X.cell? ⟨w.heap.size + 1, 2, none⟩ = some (.slice (some ⟨h, 0, none⟩) ms.length mac) ∧ X.cell? ⟨w.heap.size + 1, 3, none⟩ = some (.int .i64 top) ∧ X.cell? ⟨w.heap.size + 1, 4, none⟩ = some (.int .i64 at_) ∧ X.cell? ⟨w.heap.size + 1, 5, none⟩ = some (.int .i64 ro))
      (first | with_reducible exact HSR.out _ D0 | with_reducible exact HSR.out _ B3 | with_reducible exact HSR.out _ B4)
      (first
        | (go_at_call 43; refine (draftOfU_any wd now given births _ _ _ ac pc lc ks ps ls w2.drew HRow.out hkl hpl hll HSZ.out h8).mono ?_; rintro e w3 ⟨d, m, O, P, L, rfl, hD, hHU, hb3⟩; have B3 : Below w2.heap.size w2 w3 := D0.trans hb3; have HD : Hid (Dr w3 (w2.heap.size + 1) d m O P L wd now given births ks ps ls ∧ HU w3 (w2.heap.size + 1) m wd ks) := ⟨hD, hHU⟩; clear hD hHU hb3)
        | (go_at_call 42; refine (clearingOf_any d ph top at_ ro g h qac mac qs ms w3 (HQM.out _ B3).1 (HQM.out _ B3).2 hrf).mono ?_; rintro e w4 ⟨c, x, cx, y, cy, mm, n, cc, f, rfl, hbox, hx, hy, hM, hF, hn, hcb, hnd, hc1, hc2, hb4⟩; have B4 : Below w2.heap.size w2 w4 := B3.trans (hb4.mono B3.size); have HC : Hid (CM w4 (w2.heap.size + 1) c d m O P L wd now given births ks ps ls ph top at_ ro (.slice (some ⟨x, 0, none⟩) qs.length cx) (.slice (some ⟨y, 0, none⟩) ms.length cy) mm qs ms ms) := CM.made HD.out.1 HD.out.2 hb4 hbox hx hy hM hF hn hcb hnd hc1 hc2; clear hbox hx hy hM hF hn hcb hnd hc1 hc2 hb4))
    clear HSR HRow HQM D0
    go_wp2_with fail
    refine (unit_any (w2.heap.size + 1) c d m O P L wd now given births ks ps ls ph top at_ ro _ _ mm qs ms w4 HC.out HUO.out).mono ?_
    rintro e w5 ⟨rfl, r, Q, M, D, hT5, hE5, hb5⟩
    obtain ⟨da, dc, rfl, _⟩ := hE5.dd.row
    obtain ⟨qa, qc, rfl, _⟩ := hE5.q.row
    obtain ⟨ma, mc, rfl, _⟩ := hE5.mr.row
    have hlo5 : w2.heap.size + 1 ≤ w5.heap.size := Nat.le_trans HC.out.lo hb5.size
    have B5 : Below w2.heap.size w2 w5 := B4.trans (hb5.mono (Nat.le_succ _))
    obtain ⟨O', hD5⟩ := hE5.dr
    obtain ⟨mm', hbox5⟩ := hE5.box
    have hsub := hT5.sub
    have HT : Hid (∀ X, Below w5.heap.size w5 X → Calls Tryz.prog 45 #[.pointer (some ⟨d, 0, none⟩)] X fun e w' => ∃ T P' L' rs, e = .returned (.agg #[.int .i64 wd, .int .i64 now, .int .i64 given, .int .i64 births, T, P', L']) ∧ SAns w' X.heap.size T P' L' rs r.ks ps ls ∧ Below X.heap.size X w') := fun X hX => state_any (w2.heap.size + 1) d m O' P L wd now given births r.ks ps ls X (hD5.below hX) ((hsub.map _).nodup HUO.out.ok.nd) (fun k hk => HUO.out.ok.sz k (hsub.subset hk)) (Nat.le_trans hsub.length_le HUO.out.ok.len) HUO.out.pl HUO.out.ll (fun k hk => (HUO.out.refs k (hsub.subset hk)).1)
    have HS5 : Hid (∀ X, Below w5.heap.size w5 X → X.cell? ⟨c, 0, none⟩ = some (.pointer (some ⟨d, 0, none⟩)) ∧ X.cell? ⟨c, 1, none⟩ = some (.int .i64 r.ph) ∧ X.cell? ⟨c, 2, none⟩ = some (.slice qa r.qs.length qc) ∧ X.cell? ⟨c, 3, none⟩ = some (.slice ma r.ms.length mc) ∧ X.cell? ⟨c, 4, none⟩ = some (.int .i64 r.top) ∧ X.cell? ⟨c, 5, none⟩ = some (.int .i64 r.at_) ∧ X.cell? ⟨c, 6, none⟩ = some (.int .i64 r.ro) ∧ X.cell? ⟨c, 8, none⟩ = some (.slice da r.ds.length dc)) := fun X hX => by
      have h1 := hbox5.below hX
      exact ⟨(h1 0 _ rfl).1, (h1 1 _ rfl).1, (h1 2 _ rfl).1, (h1 3 _ rfl).1, (h1 4 _ rfl).1, (h1 5 _ rfl).1, (h1 6 _ rfl).1, (h1 8 _ rfl).1⟩
    have hcb5 : w2.heap.size + 1 ≤ c := HC.out.bc
    have HS5b : Hid (∀ X Y, Below w5.heap.size w5 X → Tn [w.heap.size + 1 + 1] X Y → Y.cell? ⟨c, 0, none⟩ = some (.pointer (some ⟨d, 0, none⟩)) ∧ Y.cell? ⟨c, 1, none⟩ = some (.int .i64 r.ph) ∧ Y.cell? ⟨c, 2, none⟩ = some (.slice qa r.qs.length qc) ∧ Y.cell? ⟨c, 3, none⟩ = some (.slice ma r.ms.length mc) ∧ Y.cell? ⟨c, 4, none⟩ = some (.int .i64 r.top) ∧ Y.cell? ⟨c, 5, none⟩ = some (.int .i64 r.at_) ∧ Y.cell? ⟨c, 6, none⟩ = some (.int .i64 r.ro) ∧ Y.cell? ⟨c, 8, none⟩ = some (.slice da r.ds.length dc)) := fun X Y hX hY => by
      have h0 := hbox5.below hX
      have h1 := CellsAt.same h0 (hY.block c h0.lt (by simp; omega))
      exact ⟨(h1 0 _ rfl).1, (h1 1 _ rfl).1, (h1 2 _ rfl).1, (h1 3 _ rfl).1, (h1 4 _ rfl).1, (h1 5 _ rfl).1, (h1 6 _ rfl).1, (h1 8 _ rfl).1⟩
    have HR : Hid (UTo ks ps ls births ph top at_ ro qs ms r ∧ UE w5 (w2.heap.size + 1) c d m P L wd now given births r.ks ps ls r.ph r.top r.at_ r.ro (.slice qa r.qs.length qc) (.slice ma r.ms.length mc) (.slice da r.ds.length dc) r.qs r.ms r.ds) := ⟨hT5, hE5⟩
    have D5 : Below w5.heap.size w5 w5.drew := (Below.refl _ _).drew
    have HZ5 : Hid (CellsAt w5 (w.heap.size + 2) z15) := CellsAt.below (v := .int .i64 0) HX2.out B5
    have HX5 : Hid (Below w.heap.size w w5) := HB2.out.trans (B5.mono HB2.out.size)
    clear hT5 hE5 hb5 hD5 hbox5 hsub HC HD HX0 HX1 HX2 B3 B4 B5
    go_upto_region 5 with fail
    go_region_held3 (fun X => X.cell? ⟨c, 0, none⟩ = some (.pointer (some ⟨d, 0, none⟩)) ∧ X.cell? ⟨c, 1, none⟩ = some (.int .i64 r.ph) ∧ X.cell? ⟨c, 2, none⟩ = some (.slice qa r.qs.length qc) ∧ X.cell? ⟨c, 3, none⟩ = some (.slice ma r.ms.length mc) ∧ X.cell? ⟨c, 4, none⟩ = some (.int .i64 r.top) ∧ X.cell? ⟨c, 5, none⟩ = some (.int .i64 r.at_) ∧ X.cell? ⟨c, 6, none⟩ = some (.int .i64 r.ro) ∧ X.cell? ⟨c, 8, none⟩ = some (.slice da r.ds.length dc))
      (first | with_reducible exact HS5.out _ D5 | with_reducible exact HS5.out _ B6 | with_reducible exact HS5b.out _ _ B6 (tn15 _ _ _ _ _ _ _ _ _ _ _ _ _ _ _ _ _))
      (first
        | (go_at_call 45; refine Calls.mono (HT.out w5.drew D5) ?_; rintro e w6 ⟨T, P', L', rs, rfl, hS6, hb6⟩; have B6 : Below w5.heap.size w5 w6 := D5.trans hb6; have Z6 : CellsAt w6 (w.heap.size + 1 + 1) z15 := CellsAt.below (v := .int .i64 0) HZ5.out B6; have HS6 : Hid (SAns w6 w5.heap.size T P' L' rs r.ks ps ls) := hS6; obtain ⟨ta, tc, rfl⟩ := own_val hS6.things; obtain ⟨pa, pca, rfl⟩ := own_val hS6.pins; obtain ⟨la, lca, rfl⟩ := own_val hS6.leases; clear hS6 hb6; obtain ⟨⟨y0, q0⟩, ⟨y1, q1⟩, ⟨y2, q2⟩, ⟨y3, q3⟩, ⟨y4, q4⟩, ⟨y5, q5⟩, ⟨y6, q6⟩, ⟨y7, q7⟩, ⟨y8, q8⟩, ⟨y9, q9⟩, ⟨y10, q10⟩, ⟨y11, q11⟩, ⟨y12, q12⟩, ⟨y13, q13⟩, y14, q14⟩ := c15 Z6))
    go_wp2
    refine bodyPost_ret (v := clV ⟨0, wd, now, given, births, ps, ls, r⟩ (.slice ta r.ks.length tc) (.slice pa ps.length pca) (.slice la ls.length lca) (.slice qa r.qs.length qc) (.slice ma r.ms.length mc) (.slice da r.ds.length dc)) (by simp [results, Tryz.results10, go_sem, y0, y1, y2, y3, y4, y5, y6, y7, y8, y9, y10, y11, y12, y13, y14, clV]) rfl ?_
    exact ⟨_, _, _, _, _, _, _, rs, rfl, .good HP.out r HR.out.1, CAns.made HR.out.2 HS6.out B6 (tn15 w6 _ _ _ _ _ _ _ _ _ _ _ _ _ _ _ _) (by omega) (by omega) hlo5, HX5.out.trans ((B6.mono HX5.out.size).trans ((tn15 w6 _ _ _ _ _ _ _ _ _ _ _ _ _ _ _ _).below (Nat.le_trans HX5.out.size B6.size) (by intro b hb; simp at hb; omega)))⟩
  · have HP : Hid (¬ ((StateOk wd now given births ks ps ls ∧ RoundOk wd births ph top at_ ro qs ms) ∧ ro ≠ 1000000000)) := fun hp => hgood ⟨HS2.out.2 hp.1, hp.2⟩
    obtain ⟨⟨y0, q0⟩, ⟨y1, q1⟩, ⟨y2, q2⟩, ⟨y3, q3⟩, ⟨y4, q4⟩, ⟨y5, q5⟩, ⟨y6, q6⟩, ⟨y7, q7⟩, ⟨y8, q8⟩, ⟨y9, q9⟩, ⟨y10, q10⟩, ⟨y11, q11⟩, ⟨y12, q12⟩, ⟨y13, q13⟩, y14, q14⟩ := c15 HX2.out
    obtain ⟨a0, a1, a2, a3, a4, a5, a6⟩ := HX1.out
    have hdec : b2 = false ∨ (b2 = true ∧ ro = 1000000000) := by
      cases b2 with
      | false => exact .inl rfl
      | true => exact .inr ⟨rfl, Classical.byContradiction fun e => hgood ⟨rfl, e⟩⟩
    clear hrow hk hp hl hf hbw hq hm hB2 HX0 HX1 HX2 HS2 hgood
    rcases hdec with rfl | ⟨rfl, hro⟩
    all_goals
      go_wp2
      refine bodyPost_ret (v := clV ⟨1, 0, 0, 0, 0, [], [], ⟨[], 0, 0, 0, 0, [], [], []⟩⟩ (.slice none 0 0) (.slice none 0 0) (.slice none 0 0) (.slice none 0 0) (.slice none 0 0) (.slice none 0 0)) (by simp [results, Tryz.results10, go_sem, y0, y1, y2, y3, y4, y5, y6, y7, y8, y9, y10, y11, y12, y13, y14, clV]) rfl ?_
      exact ⟨_, _, _, _, _, _, _, [], rfl, .bad HP.out, nilAns _ _, HB2.out.trans ((tn15 w2 _ _ _ _ _ _ _ _ _ _ _ _ _ _ _ _).below (Nat.le_trans (Nat.le_add_right _ 3) hz2) (by intro b hb; simp at hb; omega))⟩

end Go.Proofs.YthkmpihfhkmaoaaGreat
