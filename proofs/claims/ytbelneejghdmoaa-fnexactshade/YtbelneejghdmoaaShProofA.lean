/-
  laws.FnExactShade, at every input.
-/
import Derived.Test.YtbelneejghdmoaaShT
import Derived.Test.YtbelneejghdmoaaStMark
import Derived.Test.YtbelneejghdmoaaRdRead
import Derived.Test.YtbelneejghdmoaaStEq
import Derived.Deep.RegionWith
import Derived.Deep.DeepCutAuto
namespace Go.Proofs.Ytbelneejghdmoaa
namespace ExactShade
open Go.ChangeShapes Go.WideShapes Go.ChangeAt Go.RowKit
open Go.ChangeMaps (open_string shut_string)

/-- What was there before the first call of the program: the arguments' boxes, the other side's answer; all below L. -/
structure E1 (w wx : World) (L B8 : Nat) (wd now given births ph top at_ ro PH TOP AT RO : Int) (T P' L' Q' M' : Value) (a3 b3 : Option Addr) (c3 d3 : Nat) (Q M : List ByteArray) : Prop where
  sx : SBox wx w.heap.size wd now given births T P' L'
  rx : RBox wx (w.heap.size + 1) ph Q' M' top at_ ro
  r8 : RBox wx B8 PH (.slice a3 Q.length c3) (.slice b3 M.length d3) TOP AT RO
  q : SRow wx L a3 Q
  m : SRow wx L b3 M
  bel : Below w.heap.size w wx
  l1 : w.heap.size + 1 < L
  l8 : B8 < L
  le : L ≤ wx.heap.size

theorem E1.keep {w wx wy : World} {L B8 : Nat} {wd now given births ph top at_ ro PH TOP AT RO : Int} {T P' L' Q' M' : Value} {a3 b3 : Option Addr} {c3 d3 : Nat} {Q M : List ByteArray} (h : E1 w wx L B8 wd now given births ph top at_ ro PH TOP AT RO T P' L' Q' M' a3 b3 c3 d3 Q M) (hb : Below L wx wy) : E1 w wy L B8 wd now given births ph top at_ ro PH TOP AT RO T P' L' Q' M' a3 b3 c3 d3 Q M :=
  ⟨h.sx.keep hb (by have := h.l1; omega), h.rx.keep hb h.l1, h.r8.keep hb h.l8, h.q.below hb, h.m.below hb, h.bel.trans (hb.mono (by have := h.l1; omega)), h.l1, h.l8, Nat.le_trans h.le hb.size⟩

theorem set6_box (w5 : World) (B : Nat) (p0 r0 s0 t0 p1 r1 s1 t1 : Int) (Q0 M0 Q1 M1 : Value) (z : RBox w5 B p0 Q0 M0 r0 s0 t0) :
    RBox ((((((w5.setCell ⟨B, 0, none⟩ (.int .i64 p1)).setCell ⟨B, 1, none⟩ Q1).setCell ⟨B, 2, none⟩ M1).setCell ⟨B, 3, none⟩ (.int .i64 r1)).setCell ⟨B, 4, none⟩ (.int .i64 s1)).setCell ⟨B, 5, none⟩ (.int .i64 t1)) B p1 Q1 M1 r1 s1 t1 := by
  obtain ⟨z0, z1, z2, z3, z4, z5, z6⟩ := z
  exact ⟨by simp [go_sem, z0], by simp [go_sem, z1], by simp [go_sem, z2], by simp [go_sem, z3], by simp [go_sem, z4], by simp [go_sem, z5], by simpa using z6⟩

theorem RBox.blk {w w' : World} {b : Nat} {ph top at_ ro : Int} {Q M : Value} (h : RBox w b ph Q M top at_ ro) (e : w'.heap[b]? = w.heap[b]?) (hz : w.heap.size ≤ w'.heap.size) : RBox w' b ph Q M top at_ ro := by
  obtain ⟨x0, x1, x2, x3, x4, x5, x6⟩ := h
  exact ⟨(World.cell?_of_block (a := ⟨b, 0, none⟩) e).trans x0, (World.cell?_of_block (a := ⟨b, 1, none⟩) e).trans x1, (World.cell?_of_block (a := ⟨b, 2, none⟩) e).trans x2, (World.cell?_of_block (a := ⟨b, 3, none⟩) e).trans x3, (World.cell?_of_block (a := ⟨b, 4, none⟩) e).trans x4, (World.cell?_of_block (a := ⟨b, 5, none⟩) e).trans x5, Nat.lt_of_lt_of_le x6 hz⟩

theorem own_blk {a b : World} {base : Nat} {e : TypeId} {v : Value} {n : Nat} {xs : List Value} (ho : a.ownsRow base e 1 v n xs) (h : ∀ g, v.ownBlock = some g → b.heap[g]? = a.heap[g]?) : b.ownsRow base e 1 v n xs := by
  refine ⟨ho.1, ?_⟩
  rcases ho.2 with h2 | ⟨g, cap, cur, rfl, hb, hg, h4⟩
  · exact .inl h2
  · exact .inr ⟨g, cap, cur, rfl, hb, (h g rfl).trans hg, h4⟩

/-- An answer laid into a box that was made ahead of it. -/
theorem shut8 {w2 w5 : World} {B base : Nat} {p0 r0 s0 t0 p1 r1 s1 t1 : Int} {Q0 M0 : Value} {a3 b3 : Option Addr} {c3 d3 : Nat} {Q M : List ByteArray} (z : RBox w5 B p0 Q0 M0 r0 s0 t0)
    (oa : w5.ownsRow base 9 1 (.slice a3 Q.length c3) Q.length (Q.map Value.string)) (ob : w5.ownsRow base 9 1 (.slice b3 M.length d3) M.length (M.map Value.string)) (h : Below w2.heap.size w2 w5) (h1 : w2.heap.size ≤ B) (h2 : B < base) :
    RBox ((((((w5.setCell ⟨B, 0, none⟩ (.int .i64 p1)).setCell ⟨B, 1, none⟩ (.slice a3 Q.length c3)).setCell ⟨B, 2, none⟩ (.slice b3 M.length d3)).setCell ⟨B, 3, none⟩ (.int .i64 r1)).setCell ⟨B, 4, none⟩ (.int .i64 s1)).setCell ⟨B, 5, none⟩ (.int .i64 t1)) B p1 (.slice a3 Q.length c3) (.slice b3 M.length d3) r1 s1 t1 ∧
      SRow ((((((w5.setCell ⟨B, 0, none⟩ (.int .i64 p1)).setCell ⟨B, 1, none⟩ (.slice a3 Q.length c3)).setCell ⟨B, 2, none⟩ (.slice b3 M.length d3)).setCell ⟨B, 3, none⟩ (.int .i64 r1)).setCell ⟨B, 4, none⟩ (.int .i64 s1)).setCell ⟨B, 5, none⟩ (.int .i64 t1)) ((((((w5.setCell ⟨B, 0, none⟩ (.int .i64 p1)).setCell ⟨B, 1, none⟩ (.slice a3 Q.length c3)).setCell ⟨B, 2, none⟩ (.slice b3 M.length d3)).setCell ⟨B, 3, none⟩ (.int .i64 r1)).setCell ⟨B, 4, none⟩ (.int .i64 s1)).setCell ⟨B, 5, none⟩ (.int .i64 t1)).heap.size a3 Q ∧
      SRow ((((((w5.setCell ⟨B, 0, none⟩ (.int .i64 p1)).setCell ⟨B, 1, none⟩ (.slice a3 Q.length c3)).setCell ⟨B, 2, none⟩ (.slice b3 M.length d3)).setCell ⟨B, 3, none⟩ (.int .i64 r1)).setCell ⟨B, 4, none⟩ (.int .i64 s1)).setCell ⟨B, 5, none⟩ (.int .i64 t1)) ((((((w5.setCell ⟨B, 0, none⟩ (.int .i64 p1)).setCell ⟨B, 1, none⟩ (.slice a3 Q.length c3)).setCell ⟨B, 2, none⟩ (.slice b3 M.length d3)).setCell ⟨B, 3, none⟩ (.int .i64 r1)).setCell ⟨B, 4, none⟩ (.int .i64 s1)).setCell ⟨B, 5, none⟩ (.int .i64 t1)).heap.size b3 M ∧
      Below w2.heap.size w2 ((((((w5.setCell ⟨B, 0, none⟩ (.int .i64 p1)).setCell ⟨B, 1, none⟩ (.slice a3 Q.length c3)).setCell ⟨B, 2, none⟩ (.slice b3 M.length d3)).setCell ⟨B, 3, none⟩ (.int .i64 r1)).setCell ⟨B, 4, none⟩ (.int .i64 s1)).setCell ⟨B, 5, none⟩ (.int .i64 t1)) := by
  refine ⟨set6_box w5 B _ _ _ _ _ _ _ _ _ _ _ _ z, own_row (base := base) (c := c3) ?_, own_row (base := base) (c := d3) ?_, ?_⟩
  · iterate 6 (refine ownsRow_setCell_below ?_ (by simpa using h2) _)
    exact oa
  · iterate 6 (refine ownsRow_setCell_below ?_ (by simpa using h2) _)
    exact ob
  · iterate 6 (refine Below.setCell ?_ (by simpa using h1) _)
    exact h

set_option maxRecDepth 20000 in
set_option maxHeartbeats 16000000 in
theorem walk (wd now given births : Int) (a p l : Option Addr) (ac pc lc : Nat) (ks : List Kd) (ps : List Pd) (ls : List Ld) (ph top at_ ro : Int) (qa ma : Option Addr) (qac mac : Nat) (qs ms : List ByteArray) (s : ByteArray) (w : World)
    (hrow : SRows w w.heap.size a p l ks ps ls) (hk : KMem ks) (hp : PMem ps) (hl : LMem ls) (hbw : ∀ k ∈ ks, (Lit.int .i64 k.born).wf = true)
    (hq : SRow w w.heap.size qa qs) (hm : SRow w w.heap.size ma ms) (hql : qs.length ≤ maxLen) (hqs : ∀ s ∈ qs, s.size ≤ maxLen) (hml : ms.length ≤ maxLen) (hms : ∀ s ∈ ms, s.size ≤ maxLen) :
    Calls Try.prog 6 #[.agg #[.int .i64 wd, .int .i64 now, .int .i64 given, .int .i64 births, .slice a ks.length ac, .slice p ps.length pc, .slice l ls.length lc], .agg #[.int .i64 ph, .slice qa qs.length qac, .slice ma ms.length mac, .int .i64 top, .int .i64 at_, .int .i64 ro], .string s] w fun e w' => e = .returned (.bool true) ∧ Below w.heap.size w w' := by
  have hb0 : Below w.heap.size w ((w.alloc (.cells #[.int .i64 wd, .int .i64 now, .int .i64 given, .int .i64 births, .slice a ks.length ac, .slice p ps.length pc, .slice l ls.length lc] 26)).alloc (.cells #[.int .i64 ph, .slice qa qs.length qac, .slice ma ms.length mac, .int .i64 top, .int .i64 at_, .int .i64 ro] 40)) := ((Below.refl _ _).alloc (Nat.le_refl _) _).alloc (by simp) _
  have hsx := (SBox.new w wd now given births (.slice a ks.length ac) (.slice p ps.length pc) (.slice l ls.length lc) 26).below ((Below.refl _ _).alloc (Nat.le_refl _) (.cells #[.int .i64 ph, .slice qa qs.length qac, .slice ma ms.length mac, .int .i64 top, .int .i64 at_, .int .i64 ro] 40))
  have hrx := RBox.new (w.alloc (.cells #[.int .i64 wd, .int .i64 now, .int .i64 given, .int .i64 births, .slice a ks.length ac, .slice p ps.length pc, .slice l ls.length lc] 26)) ph top at_ ro (.slice qa qs.length qac) (.slice ma ms.length mac) 40
  rw [World.size_alloc] at hrx
  by_cases hen1 : 1048576 < s.size
  · have hend : decide ((1048576 : Int) < (s.size : Int)) = true := by simp; omega
    clear hrow hk hp hl hbw hq hm hqs hms hsx hrx
    go_enter Try.func6, Try.ntmps6
    go_wp2
    go_ret
    exact ⟨rfl, hb0⟩
  have hend : decide ((1048576 : Int) < (s.size : Int)) = false := by simp; omega
  go_enter Try.func6, Try.ntmps6
  go_wp2_with fail
  refine (szState_t wd now given births a p l ac pc lc ks ps ls _ _ (hrow.below' hb0) hk hp hl (by omega) (by omega)).mono ?_
  rintro e w1 ⟨left, rfl, hw1, hle, hfit⟩
  have hB1 := hb0.trans (hw1.mono (by simp; omega))
  have HSX : Hid (SBox w1 w.heap.size wd now given births (.slice a ks.length ac) (.slice p ps.length pc) (.slice l ls.length lc)) := hsx.below hw1
  have HRX : Hid (RBox w1 (w.heap.size + 1) ph (.slice qa qs.length qac) (.slice ma ms.length mac) top at_ ro) := hrx.below hw1
  clear hw1 hsx hrx hb0
  by_cases hneg : left < 0
  · clear hrow hk hp hl hbw hq hm hqs hms hfit
    go_wp2
    go_ret
    exact ⟨rfl, hB1⟩
  have hf : SFit ks ps ls := (hfit (by omega)).1
  have hrn : refsN ks ≤ 1048576 := (hfit (by omega)).2
  obtain ⟨x0, x1, x2, x3, x4, x5, x6⟩ := HRX.out
  have HSZ : Hid _ := szRound_any ph top at_ ro qa ma qac mac qs ms left w1 (hq.below' hB1) (hm.below' hB1) hql hqs hml hms (by omega) (by omega)
  have hT : ∀ W, Below w.heap.size w W → Calls Try.prog 11 #[.agg #[.int .i64 wd, .int .i64 now, .int .i64 given, .int .i64 births, .slice a ks.length ac, .slice p ps.length pc, .slice l ls.length lc]] W fun e w' => ∃ g q r, e = .returned (.agg #[.int .i64 wd, .int .i64 now, .int .i64 given, .int .i64 births, .slice (some ⟨g, 0, none⟩) ks.length ks.length, .slice (some ⟨q, 0, none⟩) ps.length ps.length, .slice (some ⟨r, 0, none⟩) ls.length ls.length]) ∧ SOwn w' W.heap.size g q r ks ps ls ∧ Below W.heap.size W w' := fun W hB => toState_any wd now given births a p l ac pc lc ks ps ls W (hrow.below' hB) hf
  have hTR : ∀ W, Below w.heap.size w W → RFit qs ms → Calls Try.prog 18 #[.agg #[.int .i64 ph, .slice qa qs.length qac, .slice ma ms.length mac, .int .i64 top, .int .i64 at_, .int .i64 ro]] W fun e w' => ∃ g k, e = .returned (.agg #[.int .i64 ph, .slice (some ⟨g, 0, none⟩) qs.length qs.length, .slice (some ⟨k, 0, none⟩) ms.length ms.length, .int .i64 top, .int .i64 at_, .int .i64 ro]) ∧ W.heap.size ≤ g ∧ g < k ∧
      w'.ownsRow W.heap.size 9 1 (.slice (some ⟨g, 0, none⟩) qs.length qs.length) qs.length (qs.map Value.string) ∧ w'.ownsRow W.heap.size 9 1 (.slice (some ⟨k, 0, none⟩) ms.length ms.length) ms.length (ms.map Value.string) ∧ Below W.heap.size W w' := fun W hB hrf => toRound_any ph top at_ ro qa ma qac mac qs ms W (hq.below' hB) (hm.below' hB) hrf
  have hS : ∀ (W : World) (g q r g' k' : Nat), SRows W W.heap.size (some ⟨g, 0, none⟩) (some ⟨q, 0, none⟩) (some ⟨r, 0, none⟩) ks ps ls → SRow W W.heap.size (some ⟨g', 0, none⟩) qs → SRow W W.heap.size (some ⟨k', 0, none⟩) ms → RFit qs ms → Calls Try.prog 21 #[.agg #[.int .i64 wd, .int .i64 now, .int .i64 given, .int .i64 births, .slice (some ⟨g, 0, none⟩) ks.length ks.length, .slice (some ⟨q, 0, none⟩) ps.length ps.length, .slice (some ⟨r, 0, none⟩) ls.length ls.length], .agg #[.int .i64 ph, .slice (some ⟨g', 0, none⟩) qs.length qs.length, .slice (some ⟨k', 0, none⟩) ms.length ms.length, .int .i64 top, .int .i64 at_, .int .i64 ro], .string s] W fun e w' => ∃ a' b' c' d', e = .returned (.agg #[.int .i64 (sel (StateOk wd now given births ks ps ls ∧ RoundOk wd births ph top at_ ro qs ms) ph 0), .slice a' (sel (StateOk wd now given births ks ps ls ∧ RoundOk wd births ph top at_ ro qs ms) (shQ ph ks qs ms s) []).length c', .slice b' (sel (StateOk wd now given births ks ps ls ∧ RoundOk wd births ph top at_ ro qs ms) ms []).length d', .int .i64 (sel (StateOk wd now given births ks ps ls ∧ RoundOk wd births ph top at_ ro qs ms) top 0), .int .i64 (sel (StateOk wd now given births ks ps ls ∧ RoundOk wd births ph top at_ ro qs ms) at_ 0), .int .i64 (sel (StateOk wd now given births ks ps ls ∧ RoundOk wd births ph top at_ ro qs ms) ro 0)]) ∧ w'.ownsRow W.heap.size 9 1 (.slice a' (sel (StateOk wd now given births ks ps ls ∧ RoundOk wd births ph top at_ ro qs ms) (shQ ph ks qs ms s) []).length c') (sel (StateOk wd now given births ks ps ls ∧ RoundOk wd births ph top at_ ro qs ms) (shQ ph ks qs ms s) []).length ((sel (StateOk wd now given births ks ps ls ∧ RoundOk wd births ph top at_ ro qs ms) (shQ ph ks qs ms s) []).map Value.string) ∧ w'.ownsRow W.heap.size 9 1 (.slice b' (sel (StateOk wd now given births ks ps ls ∧ RoundOk wd births ph top at_ ro qs ms) ms []).length d') (sel (StateOk wd now given births ks ps ls ∧ RoundOk wd births ph top at_ ro qs ms) ms []).length ((sel (StateOk wd now given births ks ps ls ∧ RoundOk wd births ph top at_ ro qs ms) ms []).map Value.string) ∧ ((Value.slice b' (sel (StateOk wd now given births ks ps ls ∧ RoundOk wd births ph top at_ ro qs ms) ms []).length d').ownBlock = none ∨ (Value.slice b' (sel (StateOk wd now given births ks ps ls ∧ RoundOk wd births ph top at_ ro qs ms) ms []).length d').ownBlock ≠ (Value.slice a' (sel (StateOk wd now given births ks ps ls ∧ RoundOk wd births ph top at_ ro qs ms) (shQ ph ks qs ms s) []).length c').ownBlock) ∧ Below W.heap.size W w' := fun W g q r g' k' h1 h2 h3 hrf => sShade_any wd now given births g q r _ _ _ ks ps ls ph top at_ ro g' k' _ _ qs ms s W h1 hk hp hf h2 h3 hrf (Nat.le_refl _)
  have hI : ∀ (W : World) (g q r g' k' : Nat), SRows W W.heap.size (some ⟨g, 0, none⟩) (some ⟨q, 0, none⟩) (some ⟨r, 0, none⟩) ks ps ls → SRow W W.heap.size (some ⟨g', 0, none⟩) qs → SRow W W.heap.size (some ⟨k', 0, none⟩) ms → RFit qs ms → Calls Try.prog 22 #[.agg #[.int .i64 wd, .int .i64 now, .int .i64 given, .int .i64 births, .slice (some ⟨g, 0, none⟩) ks.length ks.length, .slice (some ⟨q, 0, none⟩) ps.length ps.length, .slice (some ⟨r, 0, none⟩) ls.length ls.length], .agg #[.int .i64 ph, .slice (some ⟨g', 0, none⟩) qs.length qs.length, .slice (some ⟨k', 0, none⟩) ms.length ms.length, .int .i64 top, .int .i64 at_, .int .i64 ro], .string s] W fun e w' => ∃ a' b' c' d', e = .returned (.agg #[.int .i64 (sel (StateOk wd now given births ks ps ls ∧ RoundOk wd births ph top at_ ro qs ms) ph 0), .slice a' (sel (StateOk wd now given births ks ps ls ∧ RoundOk wd births ph top at_ ro qs ms) (shQ ph ks qs ms s) []).length c', .slice b' (sel (StateOk wd now given births ks ps ls ∧ RoundOk wd births ph top at_ ro qs ms) ms []).length d', .int .i64 (sel (StateOk wd now given births ks ps ls ∧ RoundOk wd births ph top at_ ro qs ms) top 0), .int .i64 (sel (StateOk wd now given births ks ps ls ∧ RoundOk wd births ph top at_ ro qs ms) at_ 0), .int .i64 (sel (StateOk wd now given births ks ps ls ∧ RoundOk wd births ph top at_ ro qs ms) ro 0)]) ∧ w'.ownsRow W.heap.size 9 1 (.slice a' (sel (StateOk wd now given births ks ps ls ∧ RoundOk wd births ph top at_ ro qs ms) (shQ ph ks qs ms s) []).length c') (sel (StateOk wd now given births ks ps ls ∧ RoundOk wd births ph top at_ ro qs ms) (shQ ph ks qs ms s) []).length ((sel (StateOk wd now given births ks ps ls ∧ RoundOk wd births ph top at_ ro qs ms) (shQ ph ks qs ms s) []).map Value.string) ∧ w'.ownsRow W.heap.size 9 1 (.slice b' (sel (StateOk wd now given births ks ps ls ∧ RoundOk wd births ph top at_ ro qs ms) ms []).length d') (sel (StateOk wd now given births ks ps ls ∧ RoundOk wd births ph top at_ ro qs ms) ms []).length ((sel (StateOk wd now given births ks ps ls ∧ RoundOk wd births ph top at_ ro qs ms) ms []).map Value.string) ∧ ((Value.slice b' (sel (StateOk wd now given births ks ps ls ∧ RoundOk wd births ph top at_ ro qs ms) ms []).length d').ownBlock = none ∨ (Value.slice b' (sel (StateOk wd now given births ks ps ls ∧ RoundOk wd births ph top at_ ro qs ms) ms []).length d').ownBlock ≠ (Value.slice a' (sel (StateOk wd now given births ks ps ls ∧ RoundOk wd births ph top at_ ro qs ms) (shQ ph ks qs ms s) []).length c').ownBlock) ∧ Below W.heap.size W w' := fun W g q r g' k' h1 h2 h3 hrf => iShade_any wd now given births g q r _ _ _ ks ps ls ph top at_ ro g' k' _ _ qs ms s W h1 hk hp hl hf hbw h2 h3 hrf
  have HT : Hid _ := hT
  have HTR : Hid _ := hTR
  have HS : Hid _ := hS
  have HI : Hid _ := hI
  have HFit : Hid _ := And.intro hf hrn
  clear hT hTR hS hI hf hrn hfit hrow hk hp hl hbw hq hm hqs hms hql hml
  go_wp2_with fail
  refine Calls.mono HSZ.out ?_
  rintro e w2 ⟨left2, rfl, hw2, hrfit⟩
  have hB2 := hB1.trans (hw2.mono hB1.size)
  replace HSX : Hid (SBox w2 w.heap.size wd now given births (.slice a ks.length ac) (.slice p ps.length pc) (.slice l ls.length lc)) := SBox.below HSX.out hw2
  replace HRX : Hid (RBox w2 (w.heap.size + 1) ph (.slice qa qs.length qac) (.slice ma ms.length mac) top at_ ro) := RBox.below HRX.out hw2
  clear hw2 hB1 x0 x1 x2 x3 x4 x5 x6
  by_cases hneg2 : left2 < 0
  · clear hrfit HSZ HT HTR HS HI HFit
    go_wp2
    go_ret
    exact ⟨rfl, hB2⟩
  have hrf : RFit qs ms := hrfit (by omega)
  have hrfq := hrf.q
  have hrfm := hrf.m
  have HRF : Hid _ := hrf
  clear hrfit hrf HSZ
  have hQl : (sel (StateOk wd now given births ks ps ls ∧ RoundOk wd births ph top at_ ro qs ms) (shQ ph ks qs ms s) []).length ≤ 23201 := by
    unfold sel; split
    · rename_i hP
      have := hP.2.sums.nq
      unfold shQ; split
      · simp; omega
      · omega
    · simp
  have hMl : (sel (StateOk wd now given births ks ps ls ∧ RoundOk wd births ph top at_ ro qs ms) ms []).length ≤ 1048576 := by
    unfold sel; split
    · omega
    · simp
  generalize sel (StateOk wd now given births ks ps ls ∧ RoundOk wd births ph top at_ ro qs ms) (shQ ph ks qs ms s) [] = Q at *
  generalize sel (StateOk wd now given births ks ps ls ∧ RoundOk wd births ph top at_ ro qs ms) ms [] = M at *
  generalize sel (StateOk wd now given births ks ps ls ∧ RoundOk wd births ph top at_ ro qs ms) ph 0 = PH at *
  generalize sel (StateOk wd now given births ks ps ls ∧ RoundOk wd births ph top at_ ro qs ms) top 0 = TOP at *
  generalize sel (StateOk wd now given births ks ps ls ∧ RoundOk wd births ph top at_ ro qs ms) at_ 0 = AT at *
  generalize sel (StateOk wd now given births ks ps ls ∧ RoundOk wd births ph top at_ ro qs ms) ro 0 = RO at *
  obtain ⟨x0, x1, x2, x3, x4, x5, x6⟩ := HRX.out
  obtain ⟨y0, y1, y2, y3, y4, y5, y6, y7⟩ := HSX.out
  go_upto_region 10 with fail
  go_cut [8] (fun v wx => ∃ (B8 : Nat) (a3 b3 : Option Addr) (c3 d3 : Nat), v = .pointer (some ⟨B8, 0, none⟩) ∧ Hid (RBox wx B8 PH (.slice a3 Q.length c3) (.slice b3 M.length d3) TOP AT RO ∧ SRow wx wx.heap.size a3 Q ∧ SRow wx wx.heap.size b3 M ∧ Below w2.heap.size w2 wx))
  case first =>
    go_region_with (first
      | (go_at_call 11; refine (HT.out w2.drew hB2.drew).mono ?_; rintro e w3 ⟨g, q, r, rfl, ho3, hw3⟩; have h23 : Below w2.heap.size w2 w3 := (Below.refl w2.heap.size w2).drew.trans hw3; have hB3 := hB2.trans (h23.mono hB2.size); obtain ⟨u0, u1, u2, u3, u4, u5, u6⟩ := RBox.below HRX.out h23; have hr3 := ho3.rows)
      | (go_at_call 11; refine (HT.out (w2.alloc (.cells #[.int .i64 0, .slice none 0 0, .slice none 0 0, .int .i64 0, .int .i64 0, .int .i64 0] 43)).drew (hB2.alloc hB2.size _).drew).mono ?_; rintro e w3 ⟨g, q, r, rfl, ho3, hw3⟩; have h2Z : Below w2.heap.size w2 (w2.alloc (.cells #[.int .i64 0, .slice none 0 0, .slice none 0 0, .int .i64 0, .int .i64 0, .int .i64 0] 43)) := (Below.refl _ _).alloc (Nat.le_refl _) _; have hZ3 : Below (w2.alloc (.cells #[.int .i64 0, .slice none 0 0, .slice none 0 0, .int .i64 0, .int .i64 0, .int .i64 0] 43)).heap.size (w2.alloc (.cells #[.int .i64 0, .slice none 0 0, .slice none 0 0, .int .i64 0, .int .i64 0, .int .i64 0] 43)) w3 := (Below.refl (w2.alloc (.cells #[.int .i64 0, .slice none 0 0, .slice none 0 0, .int .i64 0, .int .i64 0, .int .i64 0] 43)).heap.size (w2.alloc (.cells #[.int .i64 0, .slice none 0 0, .slice none 0 0, .int .i64 0, .int .i64 0, .int .i64 0] 43))).drew.trans hw3; have h23 : Below w2.heap.size w2 w3 := h2Z.trans (hZ3.mono (by simp)); have hB3 := hB2.trans (h23.mono hB2.size); obtain ⟨u0, u1, u2, u3, u4, u5, u6⟩ := RBox.below HRX.out h23; have hr3 := ho3.rows; have hl3 : w2.heap.size < w3.heap.size := (by have := hZ3.size; simp at this; omega); have zA3 : RBox w3 w2.heap.size 0 (.slice none 0 0) (.slice none 0 0) 0 0 0 := RBox.below (RBox.new w2 0 0 0 0 (.slice none 0 0) (.slice none 0 0) 43) hZ3; have fA3 : ∀ o, w3.frozen? ⟨w2.heap.size, o, none⟩ = false := (fun o => (hZ3.frozen (p := ⟨w2.heap.size, o, none⟩) (by simp <;> omega)).trans (by simp [go_sem])))
      | (go_at_call 18; have hzt := zA3; refine (HTR.out w3 hB3 HRF.out).mono ?_; rintro e w4 ⟨g4, k4, rfl, _, _, ho4, ho4', hw4⟩; have h24 := h23.trans (hw4.mono h23.size); have hr4 := hr3.below' hw4; have hq4 := SRow.own ho4; have hm4 := SRow.own ho4'; have zA4 : RBox w4 w2.heap.size 0 (.slice none 0 0) (.slice none 0 0) 0 0 0 := RBox.below zA3 hw4; have fA4 : ∀ o, w4.frozen? ⟨w2.heap.size, o, none⟩ = false := (fun o => (hw4.frozen (p := ⟨w2.heap.size, o, none⟩) (by simp <;> omega)).trans (fA3 o)))
      | (go_at_call 18; refine (HTR.out w3 hB3 HRF.out).mono ?_; rintro e w4 ⟨g4, k4, rfl, _, _, ho4, ho4', hw4⟩; have h24 := h23.trans (hw4.mono h23.size); have hr4 := hr3.below' hw4; have hq4 := SRow.own ho4; have hm4 := SRow.own ho4')
      | (go_at_call 18; refine (HTR.out (w3.alloc (.cells #[.int .i64 0, .slice none 0 0, .slice none 0 0, .int .i64 0, .int .i64 0, .int .i64 0] 43)) (hB3.alloc hB3.size _) HRF.out).mono ?_; rintro e w4 ⟨g4, k4, rfl, _, _, ho4, ho4', hw4⟩; have h3Z : Below w3.heap.size w3 (w3.alloc (.cells #[.int .i64 0, .slice none 0 0, .slice none 0 0, .int .i64 0, .int .i64 0, .int .i64 0] 43)) := (Below.refl _ _).alloc (Nat.le_refl _) _; have h34 : Below w3.heap.size w3 w4 := h3Z.trans (hw4.mono (by simp)); have h24 := h23.trans (h34.mono h23.size); have hr4 := hr3.below' h34; have hq4 := SRow.own ho4; have hm4 := SRow.own ho4'; have hl4 : w3.heap.size < w4.heap.size := (by have := hw4.size; simp at this; omega); have hl34 := h23.size; have zB4 : RBox w4 w3.heap.size 0 (.slice none 0 0) (.slice none 0 0) 0 0 0 := RBox.below (RBox.new w3 0 0 0 0 (.slice none 0 0) (.slice none 0 0) 43) hw4; have fB4 : ∀ o, w4.frozen? ⟨w3.heap.size, o, none⟩ = false := (fun o => (hw4.frozen (p := ⟨w3.heap.size, o, none⟩) (by simp <;> omega)).trans (by simp [go_sem])))
      | (go_at_call 21; have hzt := zA4; refine (HS.out w4 g q r g4 k4 hr4 hq4 hm4 HRF.out).mono ?_; rintro e w5 ⟨a3, b3, c3, d3, rfl, oa, ob, _, hw5⟩; have h25 := h24.trans (hw5.mono h24.size); have hl45 := h24.size; have lz4 := zA4.2.2.2.2.2.2; have zA5 : RBox w5 w2.heap.size 0 (.slice none 0 0) (.slice none 0 0) 0 0 0 := RBox.below zA4 hw5; have fA5 : ∀ o, w5.frozen? ⟨w2.heap.size, o, none⟩ = false := (fun o => (hw5.frozen (p := ⟨w2.heap.size, o, none⟩) (by simp <;> omega)).trans (fA4 o)); obtain ⟨t0, t1, t2, t3, t4, t5, t6⟩ := zA5)
      | (go_at_call 21; have hzt := zB4; refine (HS.out w4 g q r g4 k4 hr4 hq4 hm4 HRF.out).mono ?_; rintro e w5 ⟨a3, b3, c3, d3, rfl, oa, ob, _, hw5⟩; have h25 := h24.trans (hw5.mono h24.size); have hl45 := h24.size; have lz4 := zB4.2.2.2.2.2.2; have zB5 : RBox w5 w3.heap.size 0 (.slice none 0 0) (.slice none 0 0) 0 0 0 := RBox.below zB4 hw5; have fB5 : ∀ o, w5.frozen? ⟨w3.heap.size, o, none⟩ = false := (fun o => (hw5.frozen (p := ⟨w3.heap.size, o, none⟩) (by simp <;> omega)).trans (fB4 o)); obtain ⟨t0, t1, t2, t3, t4, t5, t6⟩ := zB5)
      | (go_at_call 21; refine (HS.out w4 g q r g4 k4 hr4 hq4 hm4 HRF.out).mono ?_; rintro e w5 ⟨a3, b3, c3, d3, rfl, oa, ob, _, hw5⟩; have h25 := h24.trans (hw5.mono h24.size); have tagD := h25)
      | (go_at_call 21; refine (HS.out (w4.alloc (.cells #[.int .i64 0, .slice none 0 0, .slice none 0 0, .int .i64 0, .int .i64 0, .int .i64 0] 43)) g q r g4 k4 (hr4.below' ((Below.refl _ _).alloc (Nat.le_refl _) _)) (hq4.below' ((Below.refl _ _).alloc (Nat.le_refl _) _)) (hm4.below' ((Below.refl _ _).alloc (Nat.le_refl _) _)) HRF.out).mono ?_; rintro e w5 ⟨a3, b3, c3, d3, rfl, oa, ob, _, hw5⟩; have h4Z : Below w4.heap.size w4 (w4.alloc (.cells #[.int .i64 0, .slice none 0 0, .slice none 0 0, .int .i64 0, .int .i64 0, .int .i64 0] 43)) := (Below.refl _ _).alloc (Nat.le_refl _) _; have h45 : Below w4.heap.size w4 w5 := h4Z.trans (hw5.mono (by simp)); have h25 := h24.trans (h45.mono h24.size); have hl45 := h24.size; have zC5 : RBox w5 w4.heap.size 0 (.slice none 0 0) (.slice none 0 0) 0 0 0 := RBox.below (RBox.new w4 0 0 0 0 (.slice none 0 0) (.slice none 0 0) 43) hw5; have fC5 : ∀ o, w5.frozen? ⟨w4.heap.size, o, none⟩ = false := (fun o => (hw5.frozen (p := ⟨w4.heap.size, o, none⟩) (by simp <;> omega)).trans (by simp [go_sem])); obtain ⟨t0, t1, t2, t3, t4, t5, t6⟩ := zC5; have tagC := h45))
    all_goals
      go_wp2_with fail
      go_meet
      first
        | (have ht := zA4; exact ⟨w2.heap.size, a3, b3, c3, d3, rfl, shut8 ⟨t0, t1, t2, t3, t4, t5, t6⟩ oa ob h25 (by omega) (by omega)⟩)
        | (have ht := zB4; exact ⟨w3.heap.size, a3, b3, c3, d3, rfl, shut8 ⟨t0, t1, t2, t3, t4, t5, t6⟩ oa ob h25 (by omega) (by omega)⟩)
        | (have ht := tagC; exact ⟨w4.heap.size, a3, b3, c3, d3, rfl, shut8 ⟨t0, t1, t2, t3, t4, t5, t6⟩ oa ob h25 (by omega) (by simp)⟩)
        | (have ht := tagD; exact ⟨w5.heap.size, a3, b3, c3, d3, rfl, RBox.new _ _ _ _ _ _ _ _, (own_row oa).below' ((Below.refl _ _).alloc (Nat.le_refl _) _), (own_row ob).below' ((Below.refl _ _).alloc (Nat.le_refl _) _), h25.alloc h25.size _⟩)
  case rest =>
  clear x0 x1 x2 x3 x4 x5 x6 y0 y1 y2 y3 y4 y5 y6 y7 HS
  obtain ⟨B8, a3, b3, c3, d3, rfl, H8⟩ := hcut
  have hB3 := hB2.trans (H8.out.2.2.2.mono hB2.size)
  have hlt8 := H8.out.1.2.2.2.2.2.2
  have hw2z := HRX.out.2.2.2.2.2.2
  have hcz := H8.out.2.2.2.size
  obtain ⟨L, hL⟩ : ∃ L, L = wc.heap.size := ⟨_, rfl⟩
  have E : Hid (E1 w wc L B8 wd now given births ph top at_ ro PH TOP AT RO (.slice a ks.length ac) (.slice p ps.length pc) (.slice l ls.length lc) (.slice qa qs.length qac) (.slice ma ms.length mac) a3 b3 c3 d3 Q M) := ⟨SBox.below HSX.out H8.out.2.2.2, RBox.below HRX.out H8.out.2.2.2, H8.out.1, hL ▸ H8.out.2.1, hL ▸ H8.out.2.2.1, hB3, by omega, by omega, by omega⟩
  clear HSX HRX H8 hB2 hcz hw2z hlt8
  obtain ⟨y0, y1, y2, y3, y4, y5, y6, y7⟩ := E.out.sx
  go_wp2_with fail
  refine (HT.out wc hB3).mono ?_
  rintro e w4 ⟨g4, q4, r4, rfl, ho4, hw4⟩
  have hB4 := hB3.trans (hw4.mono hB3.size)
  rw [← hL] at ho4
  clear y0 y1 y2 y3 y4 y5 y6 y7
  replace E : Hid _ := E1.keep E.out (hw4.mono E.out.le)
  have R9 : Hid _ := ho4.rows
  have SO : Hid _ := ho4
  have hz4 : L ≤ w4.heap.size := by have := hw4.size; omega
  clear ho4 hw4 hB3
  obtain ⟨x0, x1, x2, x3, x4, x5, x6⟩ := E.out.rx
  obtain ⟨W4, hW4⟩ : ∃ W, W = w4.alloc (.cells #[.int .i64 wd, .int .i64 now, .int .i64 given, .int .i64 births, .slice (some ⟨g4, 0, none⟩) ks.length ks.length, .slice (some ⟨q4, 0, none⟩) ps.length ps.length, .slice (some ⟨r4, 0, none⟩) ls.length ls.length] 33) := ⟨_, rfl⟩
  have h44 : Below w4.heap.size w4 W4 := by rw [hW4]; exact (Below.refl _ _).alloc (Nat.le_refl _) _
  have X9 : Hid (SBox W4 w4.heap.size wd now given births (.slice (some ⟨g4, 0, none⟩) ks.length ks.length) (.slice (some ⟨q4, 0, none⟩) ps.length ps.length) (.slice (some ⟨r4, 0, none⟩) ls.length ls.length)) := by show SBox W4 w4.heap.size wd now given births (.slice (some ⟨g4, 0, none⟩) ks.length ks.length) (.slice (some ⟨q4, 0, none⟩) ps.length ps.length) (.slice (some ⟨r4, 0, none⟩) ls.length ls.length); rw [hW4]; exact SBox.new _ _ _ _ _ _ _ _ _
  have O9 : Hid (Below w4.heap.size w4 W4) := h44
  have s4 : W4.heap.size = w4.heap.size + 1 := by rw [hW4]; simp
  replace E : Hid _ := E1.keep E.out (h44.mono E.out.le)
  replace R9 : Hid _ := SRows.below' R9.out h44
  have hB4' := E.out.bel
  have HW4 : Hid _ := hW4
  clear h44 hW4
  go_wp2_with fail
  rw [← HW4.out]
  refine (HTR.out W4 hB4' HRF.out).mono ?_
  rintro e w5 ⟨g5, k5, rfl, _, _, ho5, ho5', hw5⟩
  replace E : Hid _ := E1.keep E.out (hw5.mono E.out.le)
  replace R9 : Hid _ := SRows.below' R9.out hw5
  replace X9 : Hid _ := SBox.below X9.out hw5
  replace O9 : Hid _ := O9.out.trans (hw5.mono O9.out.size)
  have lg5 := ho5.lt g5 rfl
  have lk5 := ho5'.lt k5 rfl
  have hz5 := hw5.size
  have O10 : Hid _ := And.intro ho5 ho5'
  clear x0 x1 x2 x3 x4 x5 x6 ho5 ho5' hw5 hB4 hB4' HW4
  obtain ⟨y0, y1, y2, y3, y4, y5, y6, y7⟩ := X9.out
  obtain ⟨W5, hW5⟩ : ∃ W, W = w5.alloc (.cells #[.int .i64 ph, .slice (some ⟨g5, 0, none⟩) qs.length qs.length, .slice (some ⟨k5, 0, none⟩) ms.length ms.length, .int .i64 top, .int .i64 at_, .int .i64 ro] 43) := ⟨_, rfl⟩
  have h55 : Below w5.heap.size w5 W5 := by rw [hW5]; exact (Below.refl _ _).alloc (Nat.le_refl _) _
  have X10 : Hid (RBox W5 w5.heap.size ph (.slice (some ⟨g5, 0, none⟩) qs.length qs.length) (.slice (some ⟨k5, 0, none⟩) ms.length ms.length) top at_ ro) := by show RBox W5 w5.heap.size ph (.slice (some ⟨g5, 0, none⟩) qs.length qs.length) (.slice (some ⟨k5, 0, none⟩) ms.length ms.length) top at_ ro; rw [hW5]; exact RBox.new _ _ _ _ _ _ _ _
  have s5 : W5.heap.size = w5.heap.size + 1 := by rw [hW5]; simp
  replace E : Hid _ := E1.keep E.out (h55.mono E.out.le)
  replace R9 : Hid _ := SRows.below' R9.out h55
  replace X9 : Hid _ := SBox.below X9.out h55
  replace O9 : Hid _ := O9.out.trans (h55.mono O9.out.size)
  replace O10 : Hid _ := And.intro (own_keep O10.out.1 h55) (own_keep O10.out.2 h55)
  have HW5 : Hid _ := hW5
  clear h55 hW5
  go_wp2_with fail
  rw [← HW5.out]
  refine (HI.out W5 g4 q4 r4 g5 k5 R9.out (SRow.own O10.out.1) (SRow.own O10.out.2) HRF.out).mono ?_
  rintro e w6 ⟨a6, b6, c6, d6, rfl, ho6, ho6', hap6, hw6⟩
  replace E : Hid _ := E1.keep E.out (hw6.mono E.out.le)
  replace R9 : Hid _ := SRows.below' R9.out hw6
  replace X9 : Hid _ := SBox.below X9.out hw6
  replace O9 : Hid _ := O9.out.trans (hw6.mono O9.out.size)
  replace X10 : Hid _ := RBox.below X10.out hw6
  replace O10 : Hid _ := And.intro (own_keep O10.out.1 hw6) (own_keep O10.out.2 hw6)
  have hv6 : ∀ g, (Value.slice a6 Q.length c6).ownBlock = some g → W5.heap.size ≤ g ∧ g < w6.heap.size := fun g hg => ho6.lt g hg
  have hu6 : ∀ g, (Value.slice b6 M.length d6).ownBlock = some g → W5.heap.size ≤ g ∧ g < w6.heap.size := fun g hg => ho6'.lt g hg
  have hz6 := hw6.size
  have O11 : Hid _ := And.intro ho6 ho6'
  have HAp : Hid _ := hap6
  clear y0 y1 y2 y3 y4 y5 y6 y7 ho6 ho6' hw6 HW5 hap6
  obtain ⟨W6, hW6⟩ : ∃ W, W = w6.alloc (.cells #[.int .i64 PH, .slice a6 Q.length c6, .slice b6 M.length d6, .int .i64 TOP, .int .i64 AT, .int .i64 RO] 43) := ⟨_, rfl⟩
  have h66 : Below w6.heap.size w6 W6 := by rw [hW6]; exact (Below.refl _ _).alloc (Nat.le_refl _) _
  have X11 : Hid (RBox W6 w6.heap.size PH (.slice a6 Q.length c6) (.slice b6 M.length d6) TOP AT RO) := by show RBox W6 w6.heap.size PH (.slice a6 Q.length c6) (.slice b6 M.length d6) TOP AT RO; rw [hW6]; exact RBox.new _ _ _ _ _ _ _ _
  have s6 : W6.heap.size = w6.heap.size + 1 := by rw [hW6]; simp
  obtain ⟨y0, y1, y2, y3, y4, y5, y6⟩ := E.out.r8
  replace E : Hid _ := E1.keep E.out (h66.mono E.out.le)
  replace R9 : Hid _ := SRows.below' R9.out h66
  replace X9 : Hid _ := SBox.below X9.out h66
  replace O9 : Hid _ := O9.out.trans (h66.mono O9.out.size)
  replace X10 : Hid _ := RBox.below X10.out h66
  replace O10 : Hid _ := And.intro (own_keep O10.out.1 h66) (own_keep O10.out.2 h66)
  replace O11 : Hid _ := And.intro (own_keep O11.out.1 h66) (own_keep O11.out.2 h66)
  have HW6 : Hid _ := hW6
  clear h66 hW6
  go_wp2_with fail
  rw [← HW6.out]
  refine (eqRound_yes PH TOP AT RO a6 b6 a3 b3 c6 d6 c3 d3 Q M W6 (own_row O11.out.1) (own_row O11.out.2) (E.out.q.mono E.out.le) (E.out.m.mono E.out.le) ⟨by omega, hMl⟩).mono ?_
  rintro e w7 ⟨rfl, hw7⟩
  replace E : Hid _ := E1.keep E.out (hw7.mono E.out.le)
  replace R9 : Hid _ := SRows.below' R9.out hw7
  replace X9 : Hid _ := SBox.below X9.out hw7
  replace O9 : Hid _ := O9.out.trans (hw7.mono O9.out.size)
  replace X10 : Hid _ := RBox.below X10.out hw7
  replace O10 : Hid _ := And.intro (own_keep O10.out.1 hw7) (own_keep O10.out.2 hw7)
  replace X11 : Hid _ := RBox.below X11.out hw7
  replace O11 : Hid _ := And.intro (own_keep O11.out.1 hw7) (own_keep O11.out.2 hw7)
  have hz7 := hw7.size
  clear y0 y1 y2 y3 y4 y5 y6 hw7 HW6
  have hB7 := E.out.bel
  obtain ⟨x0, x1, x2, x3, x4, x5, x6, x7⟩ := X9.out
  obtain ⟨y0, y1, y2, y3, y4, y5, y6, y7⟩ := E.out.sx
  go_upto_region 16 with fail
  go_cut [51] (fun v wx => v = .bool false ∧ Below w7.heap.size w7 wx)
  case first =>
    go_region_with (first
      | (go_at_call 11; refine (HT.out _ hB7.drew).mono ?_; rintro e w8 ⟨g7, q7, r7, rfl, ho7, hw8⟩; have h78 : Below w7.heap.size w7 w8 := (Below.refl w7.heap.size w7).drew.trans hw8; obtain ⟨z0, z1, z2, z3, z4, z5, z6, z7⟩ := SBox.below X9.out h78; have hr7 := ho7.rows; have hr47 := SRows.below' R9.out h78)
      | (go_at_call 13; refine (eqState_yes wd now given births _ _ _ _ _ _ _ _ _ _ _ _ ks ps ls _ hr47 hr7 HFit.out.1).mono ?_; rintro e w9 ⟨rfl, hw9⟩; have h79 := h78.trans (hw9.mono h78.size)))
    all_goals (go_wp2_with fail; go_meet; exact ⟨rfl, h79⟩)
  case rest =>
  revert wc
  intro w8 hcut
  obtain ⟨rfl, hw8⟩ := hcut
  clear x0 x1 x2 x3 x4 x5 x6 x7 y0 y1 y2 y3 y4 y5 y6 y7 hB7 R9
  replace E : Hid _ := E1.keep E.out (hw8.mono E.out.le)
  replace X9 : Hid _ := SBox.below X9.out hw8
  replace O9 : Hid _ := O9.out.trans (hw8.mono O9.out.size)
  replace X10 : Hid _ := RBox.below X10.out hw8
  replace O10 : Hid _ := And.intro (own_keep O10.out.1 hw8) (own_keep O10.out.2 hw8)
  replace X11 : Hid _ := RBox.below X11.out hw8
  replace O11 : Hid _ := And.intro (own_keep O11.out.1 hw8) (own_keep O11.out.2 hw8)
  have hz8 := hw8.size
  clear hw8
  have hB8 := E.out.bel
  obtain ⟨x0, x1, x2, x3, x4, x5, x6⟩ := X10.out
  obtain ⟨y0, y1, y2, y3, y4, y5, y6⟩ := E.out.rx
  go_upto_region 18 with fail
  go_cut [56] (fun v wx => v = .bool false ∧ Below w8.heap.size w8 wx)
  case first =>
    go_region_with (first
      | (go_at_call 18; refine (HTR.out _ hB8.drew HRF.out).mono ?_; rintro e w9 ⟨g9, k9, rfl, _, _, ho9, ho9', hw9⟩; have h89 : Below w8.heap.size w8 w9 := (Below.refl w8.heap.size w8).drew.trans hw9; obtain ⟨z0, z1, z2, z3, z4, z5, z6⟩ := RBox.below X10.out h89; have hq9 := SRow.own ho9; have hm9 := SRow.own ho9'; have hq59 := SRow.below' (SRow.own O10.out.1) h89; have hm59 := SRow.below' (SRow.own O10.out.2) h89)
      | (go_at_call 20; refine (eqRound_yes ph top at_ ro _ _ _ _ _ _ _ _ qs ms _ hq59 hm59 hq9 hm9 HRF.out).mono ?_; rintro e w10 ⟨rfl, hw10⟩; have h810 := h89.trans (hw10.mono h89.size)))
    all_goals (go_wp2_with fail; go_meet; exact ⟨rfl, h810⟩)
  case rest =>
  revert wc
  intro w10 hcut
  obtain ⟨rfl, hw10⟩ := hcut
  clear x0 x1 x2 x3 x4 x5 x6 y0 y1 y2 y3 y4 y5 y6 hB8
  replace E : Hid _ := E1.keep E.out (hw10.mono E.out.le)
  replace X9 : Hid _ := SBox.below X9.out hw10
  replace O9 : Hid _ := O9.out.trans (hw10.mono O9.out.size)
  replace X10 : Hid _ := RBox.below X10.out hw10
  replace O10 : Hid _ := And.intro (own_keep O10.out.1 hw10) (own_keep O10.out.2 hw10)
  replace X11 : Hid _ := RBox.below X11.out hw10
  replace O11 : Hid _ := And.intro (own_keep O11.out.1 hw10) (own_keep O11.out.2 hw10)
  have hz10 := hw10.size
  clear hw10
  obtain ⟨x0, x1, x2, x3, x4, x5, x6, x7⟩ := X9.out
  go_wp2_with fail
  refine (markState_any wd now given births L g4 q4 r4 1 ks ps ls w4 w10 SO.out O9.out HFit.out.1 HFit.out.2 (by omega) (by omega)).mono ?_
  rintro e w11 ⟨⟨K1, rfl, hK1, hK1'⟩, hb11, _, hf11⟩
  have hz11 := hb11.size
  replace E : Hid _ := E1.keep E.out hb11
  replace X10 : Hid _ := RBox.blk X10.out (hf11 _ (by omega) (by omega)) hz11
  replace X11 : Hid _ := RBox.blk X11.out (hf11 _ (by omega) (by omega)) hz11
  replace O10 : Hid _ := And.intro (own_blk O10.out.1 (fun j hj => hf11 j (by simp [Value.ownBlock] at hj; omega) (by simp [Value.ownBlock] at hj; omega))) (own_blk O10.out.2 (fun j hj => hf11 j (by simp [Value.ownBlock] at hj; omega) (by simp [Value.ownBlock] at hj; omega)))
  replace O11 : Hid _ := And.intro (own_blk O11.out.1 (fun j hj => hf11 j (by have := hv6 j hj; omega) (by have := hv6 j hj; omega))) (own_blk O11.out.2 (fun j hj => hf11 j (by have := hu6 j hj; omega) (by have := hu6 j hj; omega)))
  clear x0 x1 x2 x3 x4 x5 x6 x7 hb11 hf11 X9 O9 SO
  obtain ⟨x0, x1, x2, x3, x4, x5, x6⟩ := X10.out
  go_wp2_with fail
  refine (markRound_any ph top at_ ro _ _ _ _ _ _ K1 _ _ _ _ w11 O10.out.1 O10.out.2 (.inr (by simp [Value.ownBlock]; omega)) (by omega) (by omega)).mono ?_
  rintro e w12 ⟨rfl, _, _, ht12⟩
  have hz12 := ht12.size
  replace E : Hid _ := E1.keep E.out (ht12.below (by omega) (fun j hj => by simp [Value.ownBlock] at hj; omega) (fun j hj => by simp [Value.ownBlock] at hj; omega))
  replace X11 : Hid _ := RBox.twice X11.out ht12 (by simp [Value.ownBlock]; omega) (by simp [Value.ownBlock]; omega)
  replace O11 : Hid _ := And.intro (ht12.row O11.out.1 (by cases hv : (Value.slice a6 Q.length c6).ownBlock with | none => exact .inl rfl | some g => exact .inr ⟨fun e => by have := (hv6 _ hv).1; simp [Value.ownBlock] at e; omega, fun e => by have := (hv6 _ hv).1; simp [Value.ownBlock] at e; omega⟩)) (ht12.row O11.out.2 (by cases hv : (Value.slice b6 M.length d6).ownBlock with | none => exact .inl rfl | some g => exact .inr ⟨fun e => by have := (hu6 _ hv).1; simp [Value.ownBlock] at e; omega, fun e => by have := (hu6 _ hv).1; simp [Value.ownBlock] at e; omega⟩))
  clear x0 x1 x2 x3 x4 x5 x6 ht12 X10 O10
  have hnn : decide ((K1 : Int) + qs.length + ms.length < 0) = false := by simp; omega
  obtain ⟨x0, x1, x2, x3, x4, x5, x6⟩ := X11.out
  obtain ⟨y0, y1, y2, y3, y4, y5, y6⟩ := E.out.r8
  go_wp2_with fail
  refine (eqRound_yes PH TOP AT RO a6 b6 a3 b3 c6 d6 c3 d3 Q M w12 (own_row O11.out.1) (own_row O11.out.2) (E.out.q.mono E.out.le) (E.out.m.mono E.out.le) ⟨by omega, hMl⟩).mono ?_
  rintro e w13 ⟨rfl, hw13⟩
  clear x0 x1 x2 x3 x4 x5 x6 y0 y1 y2 y3 y4 y5 y6
  replace E : Hid _ := E1.keep E.out (hw13.mono E.out.le)
  replace X11 : Hid _ := RBox.below X11.out hw13
  replace O11 : Hid _ := And.intro (own_keep O11.out.1 hw13) (own_keep O11.out.2 hw13)
  have hz13 := hw13.size
  clear hw13
  obtain ⟨x0, x1, x2, x3, x4, x5, x6⟩ := X11.out
  go_wp2_with fail
  refine (markRound_any PH TOP AT RO a6 b6 Q.length M.length c6 d6 1 _ _ _ _ w13 O11.out.1 O11.out.2 HAp.out (by omega) (by omega)).mono ?_
  rintro e w14 ⟨rfl, hm14, hm14', ht14⟩
  have hz14 := ht14.size
  replace E : Hid _ := E1.keep E.out (ht14.below (by omega) (fun j hj => by have := hv6 j hj; omega) (fun j hj => by have := hu6 j hj; omega))
  replace X11 : Hid _ := RBox.twice X11.out ht14 (fun e => by have := hv6 _ e.symm; omega) (fun e => by have := hu6 _ e.symm; omega)
  have H11 : Hid (SRow w14 w14.heap.size a6 (marks 1 Q.length) ∧ SRow w14 w14.heap.size b6 (marks (1 + Q.length) M.length)) := ⟨own_row (c := c6) (ss := marks 1 Q.length) (by rw [marks_length]; exact hm14), own_row (c := d6) (ss := marks (1 + Q.length) M.length) (by rw [marks_length]; exact hm14')⟩
  clear x0 x1 x2 x3 x4 x5 x6 ht14 hm14 hm14' O11
  obtain ⟨x0, x1, x2, x3, x4, x5, x6⟩ := X11.out
  go_wp2_with fail
  refine (heldRound_any PH TOP AT RO a6 b6 Q.length M.length c6 d6 1 w14 H11.out.1 H11.out.2 (by omega) (by omega)).mono ?_
  rintro e w15 ⟨rfl, hw15⟩
  clear x0 x1 x2 x3 x4 x5 x6
  replace E : Hid _ := E1.keep E.out (hw15.mono E.out.le)
  replace X11 : Hid _ := RBox.below X11.out hw15
  replace H11 : Hid _ := And.intro (SRow.below' H11.out.1 hw15) (SRow.below' H11.out.2 hw15)
  have hz15 := hw15.size
  clear hw15
  have hnq : decide ((1 : Int) + Q.length + M.length < 0) = false := by simp; omega
  have hB15 := E.out.bel
  obtain ⟨x0, x1, x2, x3, x4, x5, x6⟩ := E.out.rx
  obtain ⟨y0, y1, y2, y3, y4, y5, y6, y7⟩ := E.out.sx
  go_upto_region 33 with fail
  go_cut [15] (fun v wx => ∃ (B9 : Nat) (a7 b7 : Option Addr) (c7 d7 : Nat), v = .pointer (some ⟨B9, 0, none⟩) ∧ Hid (RBox wx B9 PH (.slice a7 Q.length c7) (.slice b7 M.length d7) TOP AT RO ∧ SRow wx wx.heap.size a7 Q ∧ SRow wx wx.heap.size b7 M ∧ Below w15.heap.size w15 wx))
  case first => 
    go_region_with (first
      | (go_at_call 11; refine (HT.out w15.drew hB15.drew).mono ?_; rintro e w3 ⟨g, q, r, rfl, ho3, hw3⟩; have h23 : Below w15.heap.size w15 w3 := (Below.refl w15.heap.size w15).drew.trans hw3; have hB3 := hB15.trans (h23.mono hB15.size); obtain ⟨u0, u1, u2, u3, u4, u5, u6⟩ := RBox.below E.out.rx h23; have hr3 := ho3.rows)
      | (go_at_call 11; refine (HT.out (w15.alloc (.cells #[.int .i64 0, .slice none 0 0, .slice none 0 0, .int .i64 0, .int .i64 0, .int .i64 0] 43)).drew (hB15.alloc hB15.size _).drew).mono ?_; rintro e w3 ⟨g, q, r, rfl, ho3, hw3⟩; have h2Z : Below w15.heap.size w15 (w15.alloc (.cells #[.int .i64 0, .slice none 0 0, .slice none 0 0, .int .i64 0, .int .i64 0, .int .i64 0] 43)) := (Below.refl _ _).alloc (Nat.le_refl _) _; have hZ3 : Below (w15.alloc (.cells #[.int .i64 0, .slice none 0 0, .slice none 0 0, .int .i64 0, .int .i64 0, .int .i64 0] 43)).heap.size (w15.alloc (.cells #[.int .i64 0, .slice none 0 0, .slice none 0 0, .int .i64 0, .int .i64 0, .int .i64 0] 43)) w3 := (Below.refl (w15.alloc (.cells #[.int .i64 0, .slice none 0 0, .slice none 0 0, .int .i64 0, .int .i64 0, .int .i64 0] 43)).heap.size (w15.alloc (.cells #[.int .i64 0, .slice none 0 0, .slice none 0 0, .int .i64 0, .int .i64 0, .int .i64 0] 43))).drew.trans hw3; have h23 : Below w15.heap.size w15 w3 := h2Z.trans (hZ3.mono (by simp)); have hB3 := hB15.trans (h23.mono hB15.size); obtain ⟨u0, u1, u2, u3, u4, u5, u6⟩ := RBox.below E.out.rx h23; have hr3 := ho3.rows; have hl3 : w15.heap.size < w3.heap.size := (by have := hZ3.size; simp at this; omega); have zA3 : RBox w3 w15.heap.size 0 (.slice none 0 0) (.slice none 0 0) 0 0 0 := RBox.below (RBox.new w15 0 0 0 0 (.slice none 0 0) (.slice none 0 0) 43) hZ3; have fA3 : ∀ o, w3.frozen? ⟨w15.heap.size, o, none⟩ = false := (fun o => (hZ3.frozen (p := ⟨w15.heap.size, o, none⟩) (by simp <;> omega)).trans (by simp [go_sem])))
      | (go_at_call 18; have hzt := zA3; refine (HTR.out w3 hB3 HRF.out).mono ?_; rintro e w4 ⟨g4, k4, rfl, _, _, ho4, ho4', hw4⟩; have h24 := h23.trans (hw4.mono h23.size); have hr4 := hr3.below' hw4; have hq4 := SRow.own ho4; have hm4 := SRow.own ho4'; have zA4 : RBox w4 w15.heap.size 0 (.slice none 0 0) (.slice none 0 0) 0 0 0 := RBox.below zA3 hw4; have fA4 : ∀ o, w4.frozen? ⟨w15.heap.size, o, none⟩ = false := (fun o => (hw4.frozen (p := ⟨w15.heap.size, o, none⟩) (by simp <;> omega)).trans (fA3 o)))
      | (go_at_call 18; refine (HTR.out w3 hB3 HRF.out).mono ?_; rintro e w4 ⟨g4, k4, rfl, _, _, ho4, ho4', hw4⟩; have h24 := h23.trans (hw4.mono h23.size); have hr4 := hr3.below' hw4; have hq4 := SRow.own ho4; have hm4 := SRow.own ho4')
      | (go_at_call 18; refine (HTR.out (w3.alloc (.cells #[.int .i64 0, .slice none 0 0, .slice none 0 0, .int .i64 0, .int .i64 0, .int .i64 0] 43)) (hB3.alloc hB3.size _) HRF.out).mono ?_; rintro e w4 ⟨g4, k4, rfl, _, _, ho4, ho4', hw4⟩; have h3Z : Below w3.heap.size w3 (w3.alloc (.cells #[.int .i64 0, .slice none 0 0, .slice none 0 0, .int .i64 0, .int .i64 0, .int .i64 0] 43)) := (Below.refl _ _).alloc (Nat.le_refl _) _; have h34 : Below w3.heap.size w3 w4 := h3Z.trans (hw4.mono (by simp)); have h24 := h23.trans (h34.mono h23.size); have hr4 := hr3.below' h34; have hq4 := SRow.own ho4; have hm4 := SRow.own ho4'; have hl4 : w3.heap.size < w4.heap.size := (by have := hw4.size; simp at this; omega); have hl34 := h23.size; have zB4 : RBox w4 w3.heap.size 0 (.slice none 0 0) (.slice none 0 0) 0 0 0 := RBox.below (RBox.new w3 0 0 0 0 (.slice none 0 0) (.slice none 0 0) 43) hw4; have fB4 : ∀ o, w4.frozen? ⟨w3.heap.size, o, none⟩ = false := (fun o => (hw4.frozen (p := ⟨w3.heap.size, o, none⟩) (by simp <;> omega)).trans (by simp [go_sem])))
      | (go_at_call 22; have hzt := zA4; refine (HI.out w4 g q r g4 k4 hr4 hq4 hm4 HRF.out).mono ?_; rintro e w5 ⟨a3, b3, c3, d3, rfl, oa, ob, _, hw5⟩; have h25 := h24.trans (hw5.mono h24.size); have hl45 := h24.size; have lz4 := zA4.2.2.2.2.2.2; have zA5 : RBox w5 w15.heap.size 0 (.slice none 0 0) (.slice none 0 0) 0 0 0 := RBox.below zA4 hw5; have fA5 : ∀ o, w5.frozen? ⟨w15.heap.size, o, none⟩ = false := (fun o => (hw5.frozen (p := ⟨w15.heap.size, o, none⟩) (by simp <;> omega)).trans (fA4 o)); obtain ⟨t0, t1, t2, t3, t4, t5, t6⟩ := zA5)
      | (go_at_call 22; have hzt := zB4; refine (HI.out w4 g q r g4 k4 hr4 hq4 hm4 HRF.out).mono ?_; rintro e w5 ⟨a3, b3, c3, d3, rfl, oa, ob, _, hw5⟩; have h25 := h24.trans (hw5.mono h24.size); have hl45 := h24.size; have lz4 := zB4.2.2.2.2.2.2; have zB5 : RBox w5 w3.heap.size 0 (.slice none 0 0) (.slice none 0 0) 0 0 0 := RBox.below zB4 hw5; have fB5 : ∀ o, w5.frozen? ⟨w3.heap.size, o, none⟩ = false := (fun o => (hw5.frozen (p := ⟨w3.heap.size, o, none⟩) (by simp <;> omega)).trans (fB4 o)); obtain ⟨t0, t1, t2, t3, t4, t5, t6⟩ := zB5)
      | (go_at_call 22; refine (HI.out w4 g q r g4 k4 hr4 hq4 hm4 HRF.out).mono ?_; rintro e w5 ⟨a3, b3, c3, d3, rfl, oa, ob, _, hw5⟩; have h25 := h24.trans (hw5.mono h24.size); have tagD := h25)
      | (go_at_call 22; refine (HI.out (w4.alloc (.cells #[.int .i64 0, .slice none 0 0, .slice none 0 0, .int .i64 0, .int .i64 0, .int .i64 0] 43)) g q r g4 k4 (hr4.below' ((Below.refl _ _).alloc (Nat.le_refl _) _)) (hq4.below' ((Below.refl _ _).alloc (Nat.le_refl _) _)) (hm4.below' ((Below.refl _ _).alloc (Nat.le_refl _) _)) HRF.out).mono ?_; rintro e w5 ⟨a3, b3, c3, d3, rfl, oa, ob, _, hw5⟩; have h4Z : Below w4.heap.size w4 (w4.alloc (.cells #[.int .i64 0, .slice none 0 0, .slice none 0 0, .int .i64 0, .int .i64 0, .int .i64 0] 43)) := (Below.refl _ _).alloc (Nat.le_refl _) _; have h45 : Below w4.heap.size w4 w5 := h4Z.trans (hw5.mono (by simp)); have h25 := h24.trans (h45.mono h24.size); have hl45 := h24.size; have zC5 : RBox w5 w4.heap.size 0 (.slice none 0 0) (.slice none 0 0) 0 0 0 := RBox.below (RBox.new w4 0 0 0 0 (.slice none 0 0) (.slice none 0 0) 43) hw5; have fC5 : ∀ o, w5.frozen? ⟨w4.heap.size, o, none⟩ = false := (fun o => (hw5.frozen (p := ⟨w4.heap.size, o, none⟩) (by simp <;> omega)).trans (by simp [go_sem])); obtain ⟨t0, t1, t2, t3, t4, t5, t6⟩ := zC5; have tagC := h45))
    all_goals
      go_wp2_with fail
      go_meet
      first
        | (have ht := zA4; exact ⟨w15.heap.size, a3, b3, c3, d3, rfl, shut8 ⟨t0, t1, t2, t3, t4, t5, t6⟩ oa ob h25 (by omega) (by omega)⟩)
        | (have ht := zB4; exact ⟨w3.heap.size, a3, b3, c3, d3, rfl, shut8 ⟨t0, t1, t2, t3, t4, t5, t6⟩ oa ob h25 (by omega) (by omega)⟩)
        | (have ht := tagC; exact ⟨w4.heap.size, a3, b3, c3, d3, rfl, shut8 ⟨t0, t1, t2, t3, t4, t5, t6⟩ oa ob h25 (by omega) (by simp)⟩)
        | (have ht := tagD; exact ⟨w5.heap.size, a3, b3, c3, d3, rfl, RBox.new _ _ _ _ _ _ _ _, (own_row oa).below' ((Below.refl _ _).alloc (Nat.le_refl _) _), (own_row ob).below' ((Below.refl _ _).alloc (Nat.le_refl _) _), h25.alloc h25.size _⟩)
  case rest =>
  revert wc
  intro w16 hcut
  obtain ⟨B9, a7, b7, c7, d7, rfl, H9⟩ := hcut
  clear x0 x1 x2 x3 x4 x5 x6 y0 y1 y2 y3 y4 y5 y6 y7 hB15 HT HTR HI
  have hw16 := H9.out.2.2.2
  replace E : Hid _ := E1.keep E.out (hw16.mono E.out.le)
  replace X11 : Hid _ := RBox.below X11.out hw16
  replace H11 : Hid _ := And.intro (SRow.below' H11.out.1 hw16) (SRow.below' H11.out.2 hw16)
  have hz16 := hw16.size
  clear hw16
  obtain ⟨x0, x1, x2, x3, x4, x5, x6⟩ := H9.out.1
  obtain ⟨y0, y1, y2, y3, y4, y5, y6⟩ := E.out.r8
  go_wp2_with fail
  refine (eqRound_yes PH TOP AT RO a7 b7 a3 b3 c7 d7 c3 d3 Q M w16 H9.out.2.1 H9.out.2.2.1 (E.out.q.mono E.out.le) (E.out.m.mono E.out.le) ⟨by omega, hMl⟩).mono ?_
  rintro e w17 ⟨rfl, hw17⟩
  clear x0 x1 x2 x3 x4 x5 x6 y0 y1 y2 y3 y4 y5 y6 H9
  replace E : Hid _ := E1.keep E.out (hw17.mono E.out.le)
  replace X11 : Hid _ := RBox.below X11.out hw17
  replace H11 : Hid _ := And.intro (SRow.below' H11.out.1 hw17) (SRow.below' H11.out.2 hw17)
  clear hw17
  obtain ⟨x0, x1, x2, x3, x4, x5, x6⟩ := X11.out
  go_wp2_with fail
  refine (heldRound_any PH TOP AT RO a6 b6 Q.length M.length c6 d6 1 w17 H11.out.1 H11.out.2 (by omega) (by omega)).mono ?_
  rintro e w18 ⟨rfl, hw18⟩
  have HE : Hid _ := E.out.bel.trans (hw18.mono E.out.bel.size)
  clear x0 x1 x2 x3 x4 x5 x6 hw18
  go_wp2
  go_ret
  exact ⟨rfl, HE.out⟩

set_option maxRecDepth 100000 in
theorem lifted (os : Os) (started : os.Started) (H : Type) (enc : TypeId × Value → H) :
    ReturnsInHanded {} Try.checked os 6 .any (Rows.fnExactShadeSpec.pre6 enc Try.prog Try.f6 Rows.fnExactShadeRow.domain false) (Rows.fnExactShadeSpec.post enc Try.prog Try.f6 false true false false) := by
  refine returnsInHanded_of_change (C := Try.checked) own started (by kernel_rfl) Try.func6
    (ChangeSpec.witness6 (enc := enc) (C := Try.checked) false ⟨#[], #[.agg #[.int .i64 0, .int .i64 0, .int .i64 0, .int .i64 0, .slice none 0 0, .slice none 0 0, .slice none 0 0], .agg #[.int .i64 0, .slice none 0 0, .slice none 0 0, .int .i64 0, .int .i64 0, .int .i64 0], .string ⟨#[]⟩], []⟩ 8 (by kernel_rfl) (by kernel_rfl) (by kernel_rfl) (by kernel_rfl)) ?_
  intro W base args ds gs before hval0 hW hcnd _
  have hval : ∀ (j : Nat) t v, Try.f6.params[j]? = some t → args[j]? = some v → Value.okWide Try.prog W .any base t v := hval0
  have hW' := hW
  obtain ⟨p, q, hA0, hV, rfl, hfz, hnd⟩ := hW
  have hA : DataW.TrodAll enc Try.prog W 0 (fun _ => true) true Try.f6.params.toList args.toList ds p := hA0
  rw [Try.params6] at hA hval
  obtain ⟨v0, vs0, d0, ds0, p0, q0, hargs, rfl, rfl, h0, r0⟩ := trodAll_cons hA
  obtain ⟨v1, vs1, d1, ds1, p1, q1, rfl, rfl, rfl, h1, r1⟩ := trodAll_cons r0
  obtain ⟨v2, vs2, d2, ds2, p2, q2, rfl, rfl, rfl, h2, r2⟩ := trodAll_cons r1
  obtain ⟨rfl, rfl, rfl⟩ := trodAll_nil r2
  obtain rfl : args = #[v0, v1, v2] := by cases args; simp_all
  obtain ⟨rfl, rfl⟩ := trodVars_none hV
  have k0 := h0
  have k1 := h1
  have lt0 : ∀ x ∈ p0, x.block < W.heap.size := by obtain ⟨m, hm⟩ := k0; exact DataW.trod_lt m _ _ _ hm
  have lt1 : ∀ x ∈ p1, x.block < W.heap.size := by obtain ⟨m, hm⟩ := k1; exact DataW.trod_lt m _ _ _ hm
  obtain ⟨wd, now, given, births, a, ac, p, pc, l, lc, ks, ps, ls, rfl, hrow, hk, hp, hl, hbw⟩ := read_state (hval 0 26 v0 rfl rfl) h0
  obtain ⟨ph, top, at_, ro, qa, qac, ma, mac, qs, ms, rfl, hq, hm, hql, hqs, hml, hms⟩ := read_round (hval 1 40 v1 rfl rfl) h1
  obtain ⟨a2, rfl, rfl, rfl, w2⟩ := open_string Try.underlying9 (hval 2 9 v2 rfl rfl) h2
  clear hA0 hval0
  refine (walk wd now given births a p l ac pc lc ks ps ls ph top at_ ro qa ma qac mac qs ms a2 W hrow hk hp hl hbw hq hm hql hqs hml hms).mono fun e W' ⟨he, bel⟩ => ?_
  subst he
  exact ⟨_, rfl, _, _, _, [], _, [], hW', trodAll_mk1 (shut_bool Try.underlying4 _), (trodAll_cons_mk (Below.trod laidOut (by kernel_rfl) (of_decide_eq_true (by kernel_rfl)) k0 bel lt0) (trodAll_cons_mk (Below.trod laidOut (by kernel_rfl) (of_decide_eq_true (by kernel_rfl)) k1 bel lt1) (trodAll_cons_mk (shut_string Try.underlying9 w2) trodAll_mk0))), rfl, bel.frame _, fun h => by cases h⟩

end ExactShade

end Go.Proofs.Ytbelneejghdmoaa
