import Derived.Test.YthkmpihfhkmaoaaGreatDoorV30
import Derived.Test.YthkmpihfhkmaoaaGreatDoorV23
import Derived.Test.YthkmpihfhkmaoaaGreatDoorV29
import Derived.Test.YthkmpihfhkmaoaaGreatDoorV11
import Derived.Deep.RegionWith
import Derived.Deep.RegionHeld3
import Derived.Deep.DeepCutAuto
/-
  laws.FnExactApply, the walk.
-/
namespace Go.Proofs.YthkmpihfhkmaoaaGreatDoor
namespace ExactApply
open Go.ChangeShapes Go.WideShapes Go.ChangeAt Go.RowKit

/-- What was there before the first call of the program: the arguments' boxes, the other side's answer; all below L. -/
structure E1 (w wx : World) (L B8 : Nat) (wd now given births kd num : Int) (s nm text : ByteArray) (T P' L' R' : Value) (o : An) (ta pa la : Option Addr) (tc pc lc : Nat) : Prop where
  sx : SBox wx w.heap.size wd now given births T P' L'
  rx : CellsAt wx (w.heap.size + 1) [.int .i64 kd, .string s, .string nm, .int .i64 num, .string text, R']
  r8 : CellsAt wx B8 [.int .i64 o.code, .int .i64 o.wd, .int .i64 o.now, .int .i64 o.given, .int .i64 o.births, .slice ta o.ks.length tc, .slice pa o.ps.length pc, .slice la o.ls.length lc, .string o.sm, .int .i64 o.le, .string o.a, .string o.b]
  k : KRow wx L ta o.ks
  p : PRow wx L pa o.ps
  l : LRow wx L la o.ls
  bel : Below w.heap.size w wx
  l1 : w.heap.size + 1 < L
  l8 : B8 < L
  le : L ≤ wx.heap.size

theorem E1.keep {w wx wy : World} {L B8 : Nat} {wd now given births kd num : Int} {s nm text : ByteArray} {T P' L' R' : Value} {o : An} {ta pa la : Option Addr} {tc pc lc : Nat} (h : E1 w wx L B8 wd now given births kd num s nm text T P' L' R' o ta pa la tc pc lc) (hb : Below L wx wy) : E1 w wy L B8 wd now given births kd num s nm text T P' L' R' o ta pa la tc pc lc :=
  ⟨h.sx.keep hb (by have := h.l1; omega), CellsAt.same h.rx (hb.block _ h.l1), CellsAt.same h.r8 (hb.block B8 h.l8), h.k.below hb, h.p.below hb, h.l.below hb, h.bel.trans (hb.mono (by have := h.l1; omega)), h.l1, h.l8, Nat.le_trans h.le hb.size⟩

theorem E1.st {w wx : World} {L B8 : Nat} {wd now given births kd num : Int} {s nm text : ByteArray} {T P' L' R' : Value} {o : An} {ta pa la : Option Addr} {tc pc lc : Nat} (h : E1 w wx L B8 wd now given births kd num s nm text T P' L' R' o ta pa la tc pc lc) : SRows wx wx.heap.size ta pa la o.ks o.ps o.ls :=
  ⟨h.k.mono h.le, h.p.mono h.le, h.l.mono h.le⟩

set_option maxRecDepth 20000 in
set_option maxHeartbeats 16000000 in
theorem walk (wd now given births : Int) (a p l : Option Addr) (ac pc lc : Nat) (ks : List Kd) (ps : List Pd) (ls : List Ld) (kd : Int) (s nm : ByteArray) (num : Int) (text : ByteArray) (ra : Option Addr) (rc : Nat) (refs : List ByteArray) (w : World) (hT0 : Tab w)
    (hrow : SRows w w.heap.size a p l ks ps ls) (hk : KMem ks) (hp : PMem ps) (hl : LMem ls) (hbw : ∀ k ∈ ks, (Lit.int .i64 k.born).wf = true)
    (hq : SRow w w.heap.size ra refs) (hsl : s.size ≤ maxLen) (hnl : nm.size ≤ maxLen) (htl : text.size ≤ maxLen) (hql : refs.length ≤ maxLen) (hqs : ∀ s ∈ refs, s.size ≤ maxLen) :
    Calls Tryz.prog 3 #[.agg #[.int .i64 wd, .int .i64 now, .int .i64 given, .int .i64 births, .slice a ks.length ac, .slice p ps.length pc, .slice l ls.length lc], .agg #[.int .i64 kd, .string s, .string nm, .int .i64 num, .string text, .slice ra refs.length rc]] w fun e w' => e = .returned (.bool true) ∧ Below w.heap.size w w' := by
  have hb0 : Below w.heap.size w ((w.alloc (.cells #[.int .i64 wd, .int .i64 now, .int .i64 given, .int .i64 births, .slice a ks.length ac, .slice p ps.length pc, .slice l ls.length lc] 26)).alloc (.cells #[.int .i64 kd, .string s, .string nm, .int .i64 num, .string text, .slice ra refs.length rc] 31)) := ((Below.refl _ _).alloc (Nat.le_refl _) _).alloc (by simp) _
  have hsx := (SBox.new w wd now given births (.slice a ks.length ac) (.slice p ps.length pc) (.slice l ls.length lc) 26).below ((Below.refl _ _).alloc (Nat.le_refl _) (.cells #[.int .i64 kd, .string s, .string nm, .int .i64 num, .string text, .slice ra refs.length rc] 31))
  have hrx := CellsAt.new (w.alloc (.cells #[.int .i64 wd, .int .i64 now, .int .i64 given, .int .i64 births, .slice a ks.length ac, .slice p ps.length pc, .slice l ls.length lc] 26)) [.int .i64 kd, .string s, .string nm, .int .i64 num, .string text, .slice ra refs.length rc] 31
  rw [World.size_alloc] at hrx
  go_enter Tryz.func3, Tryz.ntmps3
  go_wp2_with fail
  refine (szState_t wd now given births a p l ac pc lc ks ps ls _ _ (hrow.below' hb0) hk hp hl (by omega) (by omega)).mono ?_
  rintro e w1 ⟨left, rfl, hw1, hle, hfit⟩
  have hB1 := hb0.trans (hw1.mono (by simp; omega))
  have HSX : Hid (SBox w1 w.heap.size wd now given births (.slice a ks.length ac) (.slice p ps.length pc) (.slice l ls.length lc)) := hsx.below hw1
  have HRX : Hid (CellsAt w1 (w.heap.size + 1) [.int .i64 kd, .string s, .string nm, .int .i64 num, .string text, .slice ra refs.length rc]) := CellsAt.below hrx hw1
  clear hw1 hsx hrx hb0
  by_cases hneg : left < 0
  · clear hrow hk hp hl hbw hq hqs hfit
    go_wp2
    go_ret
    exact ⟨rfl, hB1⟩
  have hf : SFit ks ps ls := (hfit (by omega)).1
  have hrn : refsN ks ≤ 1048576 := (hfit (by omega)).2
  obtain ⟨⟨x0, _⟩, ⟨x1, _⟩, ⟨x2, _⟩, ⟨x3, _⟩, ⟨x4, _⟩, x5, _⟩ := c6 HRX.out
  have HSZ : Hid _ := szEntry_t kd s nm num text ra rc refs left w1 (hq.below' hB1) hsl hnl htl hql hqs (by omega) (by omega)
  have HT : Hid (∀ W, Below w.heap.size w W → Calls Tryz.prog 9 #[.agg #[.int .i64 wd, .int .i64 now, .int .i64 given, .int .i64 births, .slice a ks.length ac, .slice p ps.length pc, .slice l ls.length lc]] W fun e w' => ∃ g q r, e = .returned (.agg #[.int .i64 wd, .int .i64 now, .int .i64 given, .int .i64 births, .slice (some ⟨g, 0, none⟩) ks.length ks.length, .slice (some ⟨q, 0, none⟩) ps.length ps.length, .slice (some ⟨r, 0, none⟩) ls.length ls.length]) ∧ SOwn w' W.heap.size g q r ks ps ls ∧ Below W.heap.size W w') := fun W hB => toState_any wd now given births a p l ac pc lc ks ps ls W (hrow.below' hB) hf
  have HTE : Hid (∀ W, Below w.heap.size w W → refs.length ≤ 1048576 → Calls Tryz.prog 10 #[.agg #[.int .i64 kd, .string s, .string nm, .int .i64 num, .string text, .slice ra refs.length rc]] W fun e w' => ∃ g, e = .returned (.agg #[.int .i64 kd, .string s, .string nm, .int .i64 num, .string text, .slice (some ⟨g, 0, none⟩) refs.length refs.length]) ∧ W.heap.size ≤ g ∧ w'.ownsRow W.heap.size 9 1 (.slice (some ⟨g, 0, none⟩) refs.length refs.length) refs.length (refs.map Value.string) ∧ Below W.heap.size W w') := fun W hB hrf => toEntry_any kd s nm num text ra rc refs W (hq.below' hB) hrf
  have HS : Hid (∀ (W : World) (g q r g' : Nat), Below w.heap.size w W → SRows W W.heap.size (some ⟨g, 0, none⟩) (some ⟨q, 0, none⟩) (some ⟨r, 0, none⟩) ks ps ls → KSome W ⟨g, 0, none⟩ ks → SRow W W.heap.size (some ⟨g', 0, none⟩) refs → refs.length ≤ 1048576 → Calls Tryz.prog 8 #[.agg #[.int .i64 wd, .int .i64 now, .int .i64 given, .int .i64 births, .slice (some ⟨g, 0, none⟩) ks.length ks.length, .slice (some ⟨q, 0, none⟩) ps.length ps.length, .slice (some ⟨r, 0, none⟩) ls.length ls.length], .agg #[.int .i64 kd, .string s, .string nm, .int .i64 num, .string text, .slice (some ⟨g', 0, none⟩) refs.length refs.length]] W fun e w' => ∃ (o : An) (ta' : Option Addr) (tc' : Nat) (pa' : Option Addr) (pc' : Nat) (la' : Option Addr) (lc' : Nat), e = .returned (.agg #[.int .i64 o.code, .int .i64 o.wd, .int .i64 o.now, .int .i64 o.given, .int .i64 o.births, .slice ta' o.ks.length tc', .slice pa' o.ps.length pc', .slice la' o.ls.length lc', .string o.sm, .int .i64 o.le, .string o.a, .string o.b]) ∧ AnTo wd now given births ks ps ls kd s nm num text refs o ∧ RdS W.heap.size w' ta' pa' la' o.ks o.ps o.ls ∧ Below W.heap.size W w') := fun W g q r g' _ h1 h0 h2 hrf => by
    refine (sApply_any wd now given births g q r _ _ _ ks ps ls kd s nm num text refs ⟨g', 0, none⟩ _ W h1 (fun X hX => h0.below hX) hk hp hf h2 hrf htl hnl).mono ?_
    intro e w' hA
    obtain ⟨o, T, P, L, rs, hto, rfl, hS, hb⟩ := hA.ans
    obtain ⟨ta, tc, pa, pc, la, lc, rfl, rfl, rfl, _⟩ := hS.rows
    exact ⟨o, ta, tc, pa, pc, la, lc, rfl, hto, hS.rdS, hb⟩
  have HI : Hid (∀ (W : World) (g q r g' : Nat), Below w.heap.size w W → SRows W W.heap.size (some ⟨g, 0, none⟩) (some ⟨q, 0, none⟩) (some ⟨r, 0, none⟩) ks ps ls → SRow W W.heap.size (some ⟨g', 0, none⟩) refs → refs.length ≤ 1048576 → Calls Tryz.prog 11 #[.agg #[.int .i64 wd, .int .i64 now, .int .i64 given, .int .i64 births, .slice (some ⟨g, 0, none⟩) ks.length ks.length, .slice (some ⟨q, 0, none⟩) ps.length ps.length, .slice (some ⟨r, 0, none⟩) ls.length ls.length], .agg #[.int .i64 kd, .string s, .string nm, .int .i64 num, .string text, .slice (some ⟨g', 0, none⟩) refs.length refs.length]] W fun e w' => ∃ (o : An) (ta' : Option Addr) (tc' : Nat) (pa' : Option Addr) (pc' : Nat) (la' : Option Addr) (lc' : Nat) (rs : List Value), e = .returned (.agg #[.int .i64 o.code, .int .i64 o.wd, .int .i64 o.now, .int .i64 o.given, .int .i64 o.births, .slice ta' o.ks.length tc', .slice pa' o.ps.length pc', .slice la' o.ls.length lc', .string o.sm, .int .i64 o.le, .string o.a, .string o.b]) ∧ AnTo wd now given births ks ps ls kd s nm num text refs o ∧ SAns w' W.heap.size (.slice ta' o.ks.length tc') (.slice pa' o.ps.length pc') (.slice la' o.ls.length lc') rs o.ks o.ps o.ls ∧ Below W.heap.size W w') := fun W g q r g' hB h1 h2 hrf => by
    refine (iApply_any wd now given births _ _ _ _ _ _ ks ps ls kd s nm num text refs _ _ W h1 hk hp hl hf hbw (hT0.below hB) h2 hrf htl hnl).mono ?_
    intro e w' hA
    obtain ⟨o, T, P, L, rs, hto, rfl, hS, hb⟩ := hA.ans
    obtain ⟨ta, tc, pa, pc, la, lc, rfl, rfl, rfl, _⟩ := hS.rows
    exact ⟨o, ta, tc, pa, pc, la, lc, rs, rfl, hto, hS, hb⟩
  have HI2 : Hid (∀ (W : World) (g q r g' : Nat), Below w.heap.size w W → SRows W W.heap.size (some ⟨g, 0, none⟩) (some ⟨q, 0, none⟩) (some ⟨r, 0, none⟩) ks ps ls → KSome W ⟨g, 0, none⟩ ks → SRow W W.heap.size (some ⟨g', 0, none⟩) refs → refs.length ≤ 1048576 → Calls Tryz.prog 11 #[.agg #[.int .i64 wd, .int .i64 now, .int .i64 given, .int .i64 births, .slice (some ⟨g, 0, none⟩) ks.length ks.length, .slice (some ⟨q, 0, none⟩) ps.length ps.length, .slice (some ⟨r, 0, none⟩) ls.length ls.length], .agg #[.int .i64 kd, .string s, .string nm, .int .i64 num, .string text, .slice (some ⟨g', 0, none⟩) refs.length refs.length]] W fun e w' => ∃ (o : An) (ta' : Option Addr) (tc' : Nat) (pa' : Option Addr) (pc' : Nat) (la' : Option Addr) (lc' : Nat), e = .returned (.agg #[.int .i64 o.code, .int .i64 o.wd, .int .i64 o.now, .int .i64 o.given, .int .i64 o.births, .slice ta' o.ks.length tc', .slice pa' o.ps.length pc', .slice la' o.ls.length lc', .string o.sm, .int .i64 o.le, .string o.a, .string o.b]) ∧ AnTo wd now given births ks ps ls kd s nm num text refs o ∧ RdS W.heap.size w' ta' pa' la' o.ks o.ps o.ls ∧ Below W.heap.size W w') := fun W g q r g' hB h1 _ h2 hrf => by
    refine (HI.out W g q r g' hB h1 h2 hrf).mono ?_
    rintro e w' ⟨o, ta, tc, pa, pc, la, lc, rs, rfl, hto, hrd, hb⟩
    exact ⟨o, ta, tc, pa, pc, la, lc, rfl, hto, hrd.rdS, hb⟩
  have HFit : Hid (SFit ks ps ls ∧ refsN ks ≤ 1048576) := ⟨hf, hrn⟩
  clear hf hrn hfit hrow hk hp hl hbw hq hqs hql hT0 hsl hnl htl
  go_wp2_with fail
  refine Calls.mono HSZ.out ?_
  rintro e w2 ⟨left2, rfl, hw2, hrfit⟩
  have hB2 := hB1.trans (hw2.mono hB1.size)
  replace HSX : Hid (SBox w2 w.heap.size wd now given births (.slice a ks.length ac) (.slice p ps.length pc) (.slice l ls.length lc)) := SBox.below HSX.out hw2
  replace HRX : Hid (CellsAt w2 (w.heap.size + 1) [.int .i64 kd, .string s, .string nm, .int .i64 num, .string text, .slice ra refs.length rc]) := CellsAt.below HRX.out hw2
  clear hw2 hB1 x0 x1 x2 x3 x4 x5
  by_cases hneg2 : left2 < 0
  · clear hrfit HSZ HT HTE HS HI HI2 HFit
    go_wp2
    go_ret
    exact ⟨rfl, hB2⟩
  have hrf : refs.length ≤ 1048576 := hrfit (by omega)
  have HRF : Hid (refs.length ≤ 1048576) := hrf
  clear hrfit HSZ
  go_upto_region 8 with fail
  go_cut [6] (fun v wx => ∃ (B8 : Nat) (o : An) (ta3 : Option Addr) (tc3 : Nat) (pa3 : Option Addr) (pc3 : Nat) (la3 : Option Addr) (lc3 : Nat), v = .pointer (some ⟨B8, 0, none⟩) ∧ Hid (CellsAt wx B8 [.int .i64 o.code, .int .i64 o.wd, .int .i64 o.now, .int .i64 o.given, .int .i64 o.births, .slice ta3 o.ks.length tc3, .slice pa3 o.ps.length pc3, .slice la3 o.ls.length lc3, .string o.sm, .int .i64 o.le, .string o.a, .string o.b] ∧ AnTo wd now given births ks ps ls kd s nm num text refs o ∧ SRows wx wx.heap.size ta3 pa3 la3 o.ks o.ps o.ls ∧ Below w2.heap.size w2 wx))
  case first =>
    clear HI HI2 HFit hneg hneg2
    have HSR : Hid (∀ X, Below w2.heap.size w2 X → X.cell? ⟨w.heap.size, 0, none⟩ = some (.int .i64 wd) ∧ X.cell? ⟨w.heap.size, 1, none⟩ = some (.int .i64 now) ∧ X.cell? ⟨w.heap.size, 2, none⟩ = some (.int .i64 given) ∧ X.cell? ⟨w.heap.size, 3, none⟩ = some (.int .i64 births) ∧ X.cell? ⟨w.heap.size, 4, none⟩ = some (.slice a ks.length ac) ∧ X.cell? ⟨w.heap.size, 5, none⟩ = some (.slice p ps.length pc) ∧ X.cell? ⟨w.heap.size, 6, none⟩ = some (.slice l ls.length lc) ∧ X.cell? ⟨w.heap.size + 1, 0, none⟩ = some (.int .i64 kd) ∧ X.cell? ⟨w.heap.size + 1, 1, none⟩ = some (.string s) ∧ X.cell? ⟨w.heap.size + 1, 2, none⟩ = some (.string nm) ∧ X.cell? ⟨w.heap.size + 1, 3, none⟩ = some (.int .i64 num) ∧ X.cell? ⟨w.heap.size + 1, 4, none⟩ = some (.string text) ∧ X.cell? ⟨w.heap.size + 1, 5, none⟩ = some (.slice ra refs.length rc)) := fun X hX => by
      have h1 := sq7 (SBox.below HSX.out hX)
      obtain ⟨⟨u0, _⟩, ⟨u1, _⟩, ⟨u2, _⟩, ⟨u3, _⟩, ⟨u4, _⟩, u5, _⟩ := c6 (CellsAt.below HRX.out hX)
      exact ⟨h1.1, h1.2.1, h1.2.2.1, h1.2.2.2.1, h1.2.2.2.2.1, h1.2.2.2.2.2.1, h1.2.2.2.2.2.2, u0, u1, u2, u3, u4, u5⟩
    have HL : Hid (∀ X, Below w2.heap.size w2 X → Below w.heap.size w X) := fun X hX => hB2.trans (hX.mono hB2.size)
    have D0 : Below w2.heap.size w2 w2.drew := (Below.refl _ _).drew
    have D1 : ∀ o, Below w2.heap.size w2 (w2.alloc o).drew := fun o => ((Below.refl _ _).alloc (Nat.le_refl _) _).drew
    go_region_held3 (fun X => X.cell? ⟨w.heap.size, 0, none⟩ = some (.int .i64 wd) ∧ X.cell? ⟨w.heap.size, 1, none⟩ = some (.int .i64 now) ∧ X.cell? ⟨w.heap.size, 2, none⟩ = some (.int .i64 given) ∧ X.cell? ⟨w.heap.size, 3, none⟩ = some (.int .i64 births) ∧ X.cell? ⟨w.heap.size, 4, none⟩ = some (.slice a ks.length ac) ∧ X.cell? ⟨w.heap.size, 5, none⟩ = some (.slice p ps.length pc) ∧ X.cell? ⟨w.heap.size, 6, none⟩ = some (.slice l ls.length lc) ∧ X.cell? ⟨w.heap.size + 1, 0, none⟩ = some (.int .i64 kd) ∧ X.cell? ⟨w.heap.size + 1, 1, none⟩ = some (.string s) ∧ X.cell? ⟨w.heap.size + 1, 2, none⟩ = some (.string nm) ∧ X.cell? ⟨w.heap.size + 1, 3, none⟩ = some (.int .i64 num) ∧ X.cell? ⟨w.heap.size + 1, 4, none⟩ = some (.string text) ∧ X.cell? ⟨w.heap.size + 1, 5, none⟩ = some (.slice ra refs.length rc))
      (first
          | with_reducible exact HSR.out _ D0
          | with_reducible exact HSR.out _ (D1 _)
          | with_reducible exact HSR.out _ B3
          | with_reducible exact HSR.out _ (B3.alloc B3.size _)
          | with_reducible exact HSR.out _ B4
          | with_reducible exact HSR.out _ (B4.alloc B4.size _)
          | with_reducible exact HSR.out _ B5
          | with_reducible exact HSR.out _ (B5.alloc B5.size _)
          | with_reducible exact HSR.out _ (B5.trans ((tn12 wd' _ _ _ _ _ _ _ _ _ _ _ _ _).below B5.size (by intro v hv; simp at hv; omega))))
      (first
        | (go_at_call 9; guard_target =~ Calls Tryz.prog 9 _ (World.drew (World.alloc w2 _)) _; refine Calls.mono (HT.out (w2.alloc (.cells #[.int .i64 0, .int .i64 0, .int .i64 0, .int .i64 0, .int .i64 0, .slice none 0 0, .slice none 0 0, .slice none 0 0, .string ⟨#[]⟩, .int .i64 0, .string ⟨#[]⟩, .string ⟨#[]⟩] 40)).drew (HL.out _ (D1 _))) ?_; rintro e wa ⟨g, q, r, rfl, ho, hba⟩; have B3 : Below w2.heap.size w2 wa := (D1 _).trans (hba.mono (by simp)); have zA : CellsAt wa w2.heap.size z12 := CellsAt.below (v := .int .i64 0) (w := (w2.alloc (.cells #[.int .i64 0, .int .i64 0, .int .i64 0, .int .i64 0, .int .i64 0, .slice none 0 0, .slice none 0 0, .slice none 0 0, .string ⟨#[]⟩, .int .i64 0, .string ⟨#[]⟩, .string ⟨#[]⟩] 40))) (CellsAt.new w2 z12 40) (below_undrew hba); have hr3 := ho.rows; have hk3 := ho.ksome)
        | (go_at_call 9; guard_target =~ Calls Tryz.prog 9 _ (World.drew w2) _; refine Calls.mono (HT.out w2.drew (HL.out _ D0)) ?_; rintro e wa ⟨g, q, r, rfl, ho, hba⟩; have B3 : Below w2.heap.size w2 wa := D0.trans hba; have hr3 := ho.rows; have hk3 := ho.ksome)
        | (go_at_call 10; have tag := zA; refine Calls.mono (HTE.out wa (HL.out _ B3) HRF.out) ?_; rintro e wb ⟨g4, rfl, _, ox, hbb⟩; have B4 : Below w2.heap.size w2 wb := B3.trans (hbb.mono B3.size); have zA4 : CellsAt wb w2.heap.size z12 := CellsAt.below (v := .int .i64 0) zA hbb; have hr4 := hr3.below' hbb; have hk4 := hk3.below hbb)
        | (go_at_call 10; guard_target =~ Calls Tryz.prog 10 _ (World.alloc wa _) _; refine Calls.mono (HTE.out (wa.alloc (.cells #[.int .i64 0, .int .i64 0, .int .i64 0, .int .i64 0, .int .i64 0, .slice none 0 0, .slice none 0 0, .slice none 0 0, .string ⟨#[]⟩, .int .i64 0, .string ⟨#[]⟩, .string ⟨#[]⟩] 40)) (HL.out _ (B3.alloc B3.size _)) HRF.out) ?_; rintro e wb ⟨g4, rfl, _, ox, hbb⟩; have B4 : Below w2.heap.size w2 wb := (B3.alloc B3.size _).trans (hbb.mono (by have := B3.size; simp; omega)); have zB4 : CellsAt wb wa.heap.size z12 := CellsAt.below (v := .int .i64 0) (w := (wa.alloc (.cells #[.int .i64 0, .int .i64 0, .int .i64 0, .int .i64 0, .int .i64 0, .slice none 0 0, .slice none 0 0, .slice none 0 0, .string ⟨#[]⟩, .int .i64 0, .string ⟨#[]⟩, .string ⟨#[]⟩] 40))) (CellsAt.new wa z12 40) hbb; have hr4 := (hr3.below' ((Below.refl _ _).alloc (Nat.le_refl _) _)).below' hbb; have hk4 := (hk3.below ((Below.refl _ _).alloc (Nat.le_refl _) _)).below hbb)
        | (go_at_call 10; refine Calls.mono (HTE.out wa (HL.out _ B3) HRF.out) ?_; rintro e wb ⟨g4, rfl, _, ox, hbb⟩; have B4 : Below w2.heap.size w2 wb := B3.trans (hbb.mono B3.size); have hr4 := hr3.below' hbb; have hk4 := hk3.below hbb; have nAB := hbb)
        | (go_at_call 8; have tag := zA4; refine Calls.mono (HS.out wb g q r g4 (HL.out _ B4) hr4 hk4 (SRow.own ox) HRF.out) ?_; rintro e wd' ⟨o, ta7, tc7, pa7, pc7, la7, lc7, rfl, hto, hrd, hbd⟩; have HRD : Hid _ := And.intro hto hrd; clear hto hrd ox hr3 hr4 hk3 hk4 ho; have B5 : Below w2.heap.size w2 wd' := B4.trans (hbd.mono B4.size); have zA5 : CellsAt wd' w2.heap.size z12 := CellsAt.below (v := .int .i64 0) zA4 hbd; have hsb5 : w2.heap.size ≤ w2.heap.size := (by first | exact B3.size | exact Nat.le_refl _); have hlt5 : w2.heap.size < wb.heap.size := zA4.lt; obtain ⟨⟨y0, q0⟩, ⟨y1, q1⟩, ⟨y2, q2⟩, ⟨y3, q3⟩, ⟨y4, q4⟩, ⟨y5, q5⟩, ⟨y6, q6⟩, ⟨y7, q7⟩, ⟨y8, q8⟩, ⟨y9, q9⟩, ⟨y10, q10⟩, y11, q11⟩ := c12 zA5)
        | (go_at_call 8; have tag := zB4; refine Calls.mono (HS.out wb g q r g4 (HL.out _ B4) hr4 hk4 (SRow.own ox) HRF.out) ?_; rintro e wd' ⟨o, ta7, tc7, pa7, pc7, la7, lc7, rfl, hto, hrd, hbd⟩; have HRD : Hid _ := And.intro hto hrd; clear hto hrd ox hr3 hr4 hk3 hk4 ho; have B5 : Below w2.heap.size w2 wd' := B4.trans (hbd.mono B4.size); have zB5 : CellsAt wd' wa.heap.size z12 := CellsAt.below (v := .int .i64 0) zB4 hbd; have hsb5 : w2.heap.size ≤ wa.heap.size := (by first | exact B3.size | exact Nat.le_refl _); have hlt5 : wa.heap.size < wb.heap.size := zB4.lt; obtain ⟨⟨y0, q0⟩, ⟨y1, q1⟩, ⟨y2, q2⟩, ⟨y3, q3⟩, ⟨y4, q4⟩, ⟨y5, q5⟩, ⟨y6, q6⟩, ⟨y7, q7⟩, ⟨y8, q8⟩, ⟨y9, q9⟩, ⟨y10, q10⟩, y11, q11⟩ := c12 zB5)
        | (go_at_call 8; guard_target =~ Calls Tryz.prog 8 _ (World.alloc wb _) _; refine Calls.mono (HS.out (wb.alloc (.cells #[.int .i64 0, .int .i64 0, .int .i64 0, .int .i64 0, .int .i64 0, .slice none 0 0, .slice none 0 0, .slice none 0 0, .string ⟨#[]⟩, .int .i64 0, .string ⟨#[]⟩, .string ⟨#[]⟩] 40)) g q r g4 (HL.out _ (B4.alloc B4.size _)) (hr4.below' ((Below.refl _ _).alloc (Nat.le_refl _) _)) (hk4.below ((Below.refl _ _).alloc (Nat.le_refl _) _)) ((SRow.own ox).below' ((Below.refl _ _).alloc (Nat.le_refl _) _)) HRF.out) ?_; rintro e wd' ⟨o, ta7, tc7, pa7, pc7, la7, lc7, rfl, hto, hrd, hbd⟩; have HRD : Hid _ := And.intro hto hrd; clear hto hrd ox hr3 hr4 hk3 hk4 ho; have B5 : Below w2.heap.size w2 wd' := (B4.alloc B4.size _).trans (hbd.mono (by have := B4.size; simp; omega)); have zC5 : CellsAt wd' wb.heap.size z12 := CellsAt.below (v := .int .i64 0) (w := (wb.alloc (.cells #[.int .i64 0, .int .i64 0, .int .i64 0, .int .i64 0, .int .i64 0, .slice none 0 0, .slice none 0 0, .slice none 0 0, .string ⟨#[]⟩, .int .i64 0, .string ⟨#[]⟩, .string ⟨#[]⟩] 40))) (CellsAt.new wb z12 40) hbd; have hsb5 : w2.heap.size ≤ wb.heap.size := B4.size; have hlt5 : wb.heap.size < (wb.alloc (.cells #[.int .i64 0, .int .i64 0, .int .i64 0, .int .i64 0, .int .i64 0, .slice none 0 0, .slice none 0 0, .slice none 0 0, .string ⟨#[]⟩, .int .i64 0, .string ⟨#[]⟩, .string ⟨#[]⟩] 40)).heap.size := (by simp); obtain ⟨⟨y0, q0⟩, ⟨y1, q1⟩, ⟨y2, q2⟩, ⟨y3, q3⟩, ⟨y4, q4⟩, ⟨y5, q5⟩, ⟨y6, q6⟩, ⟨y7, q7⟩, ⟨y8, q8⟩, ⟨y9, q9⟩, ⟨y10, q10⟩, y11, q11⟩ := c12 zC5)
        | (go_at_call 8; have tag := nAB; refine Calls.mono (HS.out wb g q r g4 (HL.out _ B4) hr4 hk4 (SRow.own ox) HRF.out) ?_; rintro e wd' ⟨o, ta7, tc7, pa7, pc7, la7, lc7, rfl, hto, hrd, hbd⟩; have HRD : Hid _ := And.intro hto hrd; clear hto hrd ox hr3 hr4 hk3 hk4 ho; have B5 : Below w2.heap.size w2 wd' := B4.trans (hbd.mono B4.size); have nD := nAB))
    all_goals (go_wp2_with fail; go_meet)
    all_goals first
      | (have tag := zA5
         exact ⟨_, o, ta7, tc7, pa7, pc7, la7, lc7, rfl, set12 zA5 _ _ _ _ _ _ _ _ _ _ _ _, HRD.out.1, HRD.out.2 [_] _ (by simpa using hlt5) (tn12 wd' _ _ _ _ _ _ _ _ _ _ _ _ _), B5.trans ((tn12 wd' _ _ _ _ _ _ _ _ _ _ _ _ _).below B5.size (by simp))⟩)
      | (have tag := zB5
         exact ⟨_, o, ta7, tc7, pa7, pc7, la7, lc7, rfl, set12 zB5 _ _ _ _ _ _ _ _ _ _ _ _, HRD.out.1, HRD.out.2 [_] _ (by simpa using hlt5) (tn12 wd' _ _ _ _ _ _ _ _ _ _ _ _ _), B5.trans ((tn12 wd' _ _ _ _ _ _ _ _ _ _ _ _ _).below B5.size (by simpa using hsb5))⟩)
      | (have tag := zC5
         exact ⟨_, o, ta7, tc7, pa7, pc7, la7, lc7, rfl, set12 zC5 _ _ _ _ _ _ _ _ _ _ _ _, HRD.out.1, HRD.out.2 [_] _ (by simp) (tn12 wd' _ _ _ _ _ _ _ _ _ _ _ _ _), B5.trans ((tn12 wd' _ _ _ _ _ _ _ _ _ _ _ _ _).below B5.size (by simpa using hsb5))⟩)
      | (have tag := nD
         exact ⟨_, o, ta7, tc7, pa7, pc7, la7, lc7, rfl, CellsAt.new wd' _ _, HRD.out.1, HRD.out.2 [] _ (by simp) (Tn.of ((Below.refl _ _).alloc (Nat.le_refl _) _)), B5.alloc B5.size _⟩)
  case rest =>
  obtain ⟨B8, o, ta3, tc3, pa3, pc3, la3, lc3, rfl, H8⟩ := hcut
  clear HS
  have hB3 := hB2.trans (H8.out.2.2.2.mono hB2.size)
  have hlt8 : B8 < wc.heap.size := H8.out.1.lt
  have hw2z := HRX.out.lt
  have hcz := H8.out.2.2.2.size
  have hget := H8.out.2.2.1
  have HTo : Hid (AnTo wd now given births ks ps ls kd s nm num text refs o) := H8.out.2.1
  have HSm : Hid (AnSmall o) := H8.out.2.1.small
  obtain ⟨L, hL⟩ : ∃ L, L = wc.heap.size := ⟨_, rfl⟩
  have E : Hid (E1 w wc L B8 wd now given births kd num s nm text (.slice a ks.length ac) (.slice p ps.length pc) (.slice l ls.length lc) (.slice ra refs.length rc) o ta3 pa3 la3 tc3 pc3 lc3) := ⟨SBox.below HSX.out H8.out.2.2.2, CellsAt.below HRX.out H8.out.2.2.2, H8.out.1, hL ▸ hget.k, hL ▸ hget.p, hL ▸ hget.l, hB3, by omega, by omega, by omega⟩
  clear HSX HRX H8 hB2 hcz hw2z hlt8 hget
  as_aux_lemma =>
  obtain ⟨y0, y1, y2, y3, y4, y5, y6, y7⟩ := E.out.sx
  go_wp2_with fail
  refine (HT.out wc hB3).mono ?_
  rintro e w4 ⟨g4, q4, r4, rfl, ho4, hw4⟩
  have hB4 := hB3.trans (hw4.mono hB3.size)
  rw [← hL] at ho4
  clear y0 y1 y2 y3 y4 y5 y6 y7
  replace E : Hid _ := E1.keep E.out (hw4.mono E.out.le)
  have R9 : Hid _ := ho4.rows
  have SO : Hid _ := ho4
  have hz4 : L ≤ w4.heap.size := by have := hw4.size; omega
  clear ho4 hw4 hB3
  obtain ⟨⟨x0, _⟩, ⟨x1, _⟩, ⟨x2, _⟩, ⟨x3, _⟩, ⟨x4, _⟩, x5, _⟩ := c6 E.out.rx
  have hxl : w.heap.size + 1 < w4.heap.size := by have h1 := E.out.l1; have h2 := E.out.le; omega
  obtain ⟨W4, hW4⟩ : ∃ W, W = w4.alloc (.cells #[.int .i64 wd, .int .i64 now, .int .i64 given, .int .i64 births, .slice (some ⟨g4, 0, none⟩) ks.length ks.length, .slice (some ⟨q4, 0, none⟩) ps.length ps.length, .slice (some ⟨r4, 0, none⟩) ls.length ls.length] 38) := ⟨_, rfl⟩
  have h44 : Below w4.heap.size w4 W4 := by rw [hW4]; exact (Below.refl _ _).alloc (Nat.le_refl _) _
  have X9 : Hid (SBox W4 w4.heap.size wd now given births (.slice (some ⟨g4, 0, none⟩) ks.length ks.length) (.slice (some ⟨q4, 0, none⟩) ps.length ps.length) (.slice (some ⟨r4, 0, none⟩) ls.length ls.length)) := by show SBox W4 w4.heap.size wd now given births (.slice (some ⟨g4, 0, none⟩) ks.length ks.length) (.slice (some ⟨q4, 0, none⟩) ps.length ps.length) (.slice (some ⟨r4, 0, none⟩) ls.length ls.length); rw [hW4]; exact SBox.new _ _ _ _ _ _ _ _ _
  have O9 : Hid (Below w4.heap.size w4 W4) := h44
  have s4 : W4.heap.size = w4.heap.size + 1 := by rw [hW4]; simp
  replace E : Hid _ := E1.keep E.out (h44.mono E.out.le)
  replace R9 : Hid _ := SRows.below' R9.out h44
  have hB4' := E.out.bel
  have HW4 : Hid _ := hW4
  clear h44 hW4
  go_wp2_with fail
  rw [← HW4.out]
  refine (HTE.out W4 hB4' HRF.out).mono ?_
  rintro e w5 ⟨g5, rfl, hg5, ho5, hw5⟩
  replace E : Hid _ := E1.keep E.out (hw5.mono E.out.le)
  replace R9 : Hid _ := SRows.below' R9.out hw5
  replace X9 : Hid _ := SBox.below X9.out hw5
  replace O9 : Hid _ := O9.out.trans (hw5.mono O9.out.size)
  have lg5 := ho5.lt g5 rfl
  have hz5 := hw5.size
  have O10 : Hid _ := ho5
  clear x0 x1 x2 x3 x4 x5 hxl ho5 hw5 hB4 hB4' HW4
  obtain ⟨y0, y1, y2, y3, y4, y5, y6, y7⟩ := X9.out
  obtain ⟨W5, hW5⟩ : ∃ W, W = w5.alloc (.cells #[.int .i64 kd, .string s, .string nm, .int .i64 num, .string text, .slice (some ⟨g5, 0, none⟩) refs.length refs.length] 45) := ⟨_, rfl⟩
  have h55 : Below w5.heap.size w5 W5 := by rw [hW5]; exact (Below.refl _ _).alloc (Nat.le_refl _) _
  have X10 : Hid (CellsAt W5 w5.heap.size [.int .i64 kd, .string s, .string nm, .int .i64 num, .string text, .slice (some ⟨g5, 0, none⟩) refs.length refs.length]) := by show CellsAt W5 w5.heap.size [.int .i64 kd, .string s, .string nm, .int .i64 num, .string text, .slice (some ⟨g5, 0, none⟩) refs.length refs.length]; rw [hW5]; exact CellsAt.new w5 _ _
  have s5 : W5.heap.size = w5.heap.size + 1 := by rw [hW5]; simp
  replace E : Hid _ := E1.keep E.out (h55.mono E.out.le)
  replace R9 : Hid _ := SRows.below' R9.out h55
  replace X9 : Hid _ := SBox.below X9.out h55
  replace O9 : Hid _ := O9.out.trans (h55.mono O9.out.size)
  replace O10 : Hid _ := own_keep O10.out h55
  have HW5 : Hid _ := hW5
  clear h55 hW5
  as_aux_lemma =>
  go_wp2_with fail
  rw [← HW5.out]
  refine (HI.out W5 g4 q4 r4 g5 E.out.bel R9.out (SRow.own O10.out) HRF.out).mono ?_
  rintro e w6 ⟨o6, ta6, tc6, pa6, pc6, la6, lc6, rs, rfl, hto6, hA6, hw6⟩
  obtain rfl : o = o6 := HTo.out.det hto6
  replace E : Hid _ := E1.keep E.out (hw6.mono E.out.le)
  replace R9 : Hid _ := SRows.below' R9.out hw6
  replace X9 : Hid _ := SBox.below X9.out hw6
  replace O9 : Hid _ := O9.out.trans (hw6.mono O9.out.size)
  replace X10 : Hid _ := CellsAt.below X10.out hw6
  replace O10 : Hid _ := own_keep O10.out hw6
  have HV6 : Hid (∀ g ∈ blks (.slice ta6 o.ks.length tc6) (.slice pa6 o.ps.length pc6) (.slice la6 o.ls.length lc6) rs, W5.heap.size ≤ g ∧ g < w6.heap.size) := fun g hg => ⟨hA6.lo g hg, hA6.lts g hg⟩
  have hz6 := hw6.size
  have O11 : Hid (SAns w6 W5.heap.size (.slice ta6 o.ks.length tc6) (.slice pa6 o.ps.length pc6) (.slice la6 o.ls.length lc6) rs o.ks o.ps o.ls) := hA6
  clear y0 y1 y2 y3 y4 y5 y6 y7 hA6 hto6 hw6 HW5
  obtain ⟨W6, hW6⟩ : ∃ W, W = w6.alloc (.cells #[.int .i64 o.code, .int .i64 o.wd, .int .i64 o.now, .int .i64 o.given, .int .i64 o.births, .slice ta6 o.ks.length tc6, .slice pa6 o.ps.length pc6, .slice la6 o.ls.length lc6, .string o.sm, .int .i64 o.le, .string o.a, .string o.b] 40) := ⟨_, rfl⟩
  have h66 : Below w6.heap.size w6 W6 := by rw [hW6]; exact (Below.refl _ _).alloc (Nat.le_refl _) _
  have X11 : Hid (CellsAt W6 w6.heap.size [.int .i64 o.code, .int .i64 o.wd, .int .i64 o.now, .int .i64 o.given, .int .i64 o.births, .slice ta6 o.ks.length tc6, .slice pa6 o.ps.length pc6, .slice la6 o.ls.length lc6, .string o.sm, .int .i64 o.le, .string o.a, .string o.b]) := by show CellsAt W6 w6.heap.size [.int .i64 o.code, .int .i64 o.wd, .int .i64 o.now, .int .i64 o.given, .int .i64 o.births, .slice ta6 o.ks.length tc6, .slice pa6 o.ps.length pc6, .slice la6 o.ls.length lc6, .string o.sm, .int .i64 o.le, .string o.a, .string o.b]; rw [hW6]; exact CellsAt.new w6 _ _
  have s6 : W6.heap.size = w6.heap.size + 1 := by rw [hW6]; simp
  replace E : Hid _ := E1.keep E.out (h66.mono E.out.le)
  replace R9 : Hid _ := SRows.below' R9.out h66
  replace X9 : Hid _ := SBox.below X9.out h66
  replace O9 : Hid _ := O9.out.trans (h66.mono O9.out.size)
  replace X10 : Hid _ := CellsAt.below X10.out h66
  replace O10 : Hid _ := own_keep O10.out h66
  replace O11 : Hid _ := SAns.below O11.out h66
  have HW6 : Hid _ := hW6
  clear h66 hW6
  as_aux_lemma =>
  go_upto_region 12 with fail
  rw [← HW6.out]
  clear HW6
  obtain ⟨⟨y0, _⟩, ⟨y1, _⟩, ⟨y2, _⟩, ⟨y3, _⟩, ⟨y4, _⟩, ⟨y5, _⟩, ⟨y6, _⟩, ⟨y7, _⟩, ⟨y8, _⟩, ⟨y9, _⟩, ⟨y10, _⟩, y11, _⟩ := c12 E.out.r8
  obtain ⟨⟨v0, _⟩, ⟨v1, _⟩, ⟨v2, _⟩, ⟨v3, _⟩, ⟨v4, _⟩, ⟨v5, _⟩, ⟨v6, _⟩, ⟨v7, _⟩, ⟨v8, _⟩, ⟨v9, _⟩, ⟨v10, _⟩, v11, _⟩ := c12 X11.out
  have hR6 := SAns.get O11.out
  go_wp2_with fail
  refine (eqChanged_row o.code o.wd o.now o.given o.births o.le o.sm o.a o.b ta6 pa6 la6 tc6 pc6 lc6 ta3 pa3 la3 tc3 pc3 lc3 o.ks o.ps o.ls W6 hR6 E.out.st HSm.out.fit).mono ?_
  rintro e w7 ⟨rfl, hw7⟩
  clear y0 y1 y2 y3 y4 y5 y6 y7 y8 y9 y10 y11 v0 v1 v2 v3 v4 v5 v6 v7 v8 v9 v10 v11 hR6
  try generalize (.agg #[.int .i64 o.code, .int .i64 o.wd, .int .i64 o.now, .int .i64 o.given, .int .i64 o.births, .slice ta6 o.ks.length tc6, .slice pa6 o.ps.length pc6, .slice la6 o.ls.length lc6, .string o.sm, .int .i64 o.le, .string o.a, .string o.b] : Value) = dv0
  try generalize (.agg #[.int .i64 o.code, .int .i64 o.wd, .int .i64 o.now, .int .i64 o.given, .int .i64 o.births, .slice ta3 o.ks.length tc3, .slice pa3 o.ps.length pc3, .slice la3 o.ls.length lc3, .string o.sm, .int .i64 o.le, .string o.a, .string o.b] : Value) = dv1
  try generalize (.agg #[.int .i64 wd, .int .i64 now, .int .i64 given, .int .i64 births, .slice (some ⟨g4, 0, none⟩) ks.length ks.length, .slice (some ⟨q4, 0, none⟩) ps.length ps.length, .slice (some ⟨r4, 0, none⟩) ls.length ls.length] : Value) = dv2
  try generalize (.agg #[.int .i64 kd, .string s, .string nm, .int .i64 num, .string text, .slice (some ⟨g5, 0, none⟩) refs.length refs.length] : Value) = dv3
  try generalize (.agg #[.int .i64 wd, .int .i64 now, .int .i64 given, .int .i64 births, .slice a ks.length ac, .slice p ps.length pc, .slice l ls.length lc] : Value) = dv4
  try generalize (.agg #[.int .i64 kd, .string s, .string nm, .int .i64 num, .string text, .slice ra refs.length rc] : Value) = dv5
  replace E : Hid _ := E1.keep E.out (hw7.mono E.out.le)
  replace R9 : Hid _ := SRows.below' R9.out hw7
  replace X9 : Hid _ := SBox.below X9.out hw7
  replace O9 : Hid _ := O9.out.trans (hw7.mono O9.out.size)
  replace X10 : Hid _ := CellsAt.below X10.out hw7
  replace O10 : Hid _ := own_keep O10.out hw7
  replace X11 : Hid _ := CellsAt.below X11.out hw7
  replace O11 : Hid _ := SAns.below O11.out hw7
  have hz7 := hw7.size
  clear hw7
  as_aux_lemma =>
  have hB7 := E.out.bel
  obtain ⟨x0, x1, x2, x3, x4, x5, x6, x7⟩ := X9.out
  obtain ⟨y0, y1, y2, y3, y4, y5, y6, y7⟩ := E.out.sx
  go_upto_region 14 with fail
  go_cut [44] (fun v wx => v = .bool false ∧ Below w7.heap.size w7 wx)
  case first =>
    go_region_with (first
      | (go_at_call 9; refine (HT.out _ hB7.drew).mono ?_; rintro e w8 ⟨g7, q7, r7, rfl, ho7, hw8⟩; have h78 : Below w7.heap.size w7 w8 := (Below.refl w7.heap.size w7).drew.trans hw8; obtain ⟨z0, z1, z2, z3, z4, z5, z6, z7⟩ := SBox.below X9.out h78; have hr7 := ho7.rows; have hr47 := SRows.below' R9.out h78)
      | (go_at_call 13; refine (eqState_yes wd now given births _ _ _ _ _ _ _ _ _ _ _ _ ks ps ls _ hr47 hr7 HFit.out.1).mono ?_; rintro e w9 ⟨rfl, hw9⟩; have h79 := h78.trans (hw9.mono h78.size)))
    all_goals (go_wp2_with fail; go_meet; exact ⟨rfl, h79⟩)
  case rest =>
  revert wc
  intro w8 hcut
  obtain ⟨rfl, hw8⟩ := hcut
  clear x0 x1 x2 x3 x4 x5 x6 x7 y0 y1 y2 y3 y4 y5 y6 y7 hB7 R9
  replace E : Hid _ := E1.keep E.out (hw8.mono E.out.le)
  replace X9 : Hid _ := SBox.below X9.out hw8
  replace O9 : Hid _ := O9.out.trans (hw8.mono O9.out.size)
  replace X10 : Hid _ := CellsAt.below X10.out hw8
  replace O10 : Hid _ := own_keep O10.out hw8
  replace X11 : Hid _ := CellsAt.below X11.out hw8
  replace O11 : Hid _ := SAns.below O11.out hw8
  have hz8 := hw8.size
  clear hw8
  as_aux_lemma =>
  have hB8 := E.out.bel
  obtain ⟨⟨x0, _⟩, ⟨x1, _⟩, ⟨x2, _⟩, ⟨x3, _⟩, ⟨x4, _⟩, x5, _⟩ := c6 X10.out
  obtain ⟨⟨y0, _⟩, ⟨y1, _⟩, ⟨y2, _⟩, ⟨y3, _⟩, ⟨y4, _⟩, y5, _⟩ := c6 E.out.rx
  go_upto_region 16 with fail
  go_cut [49] (fun v wx => v = .bool false ∧ Below w8.heap.size w8 wx)
  case first =>
    go_region_with (first
      | (go_at_call 10; refine (HTE.out _ hB8.drew HRF.out).mono ?_; rintro e w9 ⟨g9, rfl, _, ho9, hw9⟩; have h89 : Below w8.heap.size w8 w9 := (Below.refl w8.heap.size w8).drew.trans hw9; obtain ⟨⟨z0, _⟩, ⟨z1, _⟩, ⟨z2, _⟩, ⟨z3, _⟩, ⟨z4, _⟩, z5, _⟩ := c6 (CellsAt.below X10.out h89); have hq9 := SRow.own ho9; have hq59 := SRow.below' (SRow.own O10.out) h89)
      | (go_at_call 14; refine (eqEntry_yes kd s nm num text _ _ _ _ refs _ hq59 hq9 HRF.out).mono ?_; rintro e w10 ⟨rfl, hw10⟩; have h810 := h89.trans (hw10.mono h89.size)))
    all_goals (go_wp2_with fail; go_meet; exact ⟨rfl, h810⟩)
  case rest =>
  revert wc
  intro w10 hcut
  obtain ⟨rfl, hw10⟩ := hcut
  clear x0 x1 x2 x3 x4 x5 y0 y1 y2 y3 y4 y5 hB8
  replace E : Hid _ := E1.keep E.out (hw10.mono E.out.le)
  replace X9 : Hid _ := SBox.below X9.out hw10
  replace O9 : Hid _ := O9.out.trans (hw10.mono O9.out.size)
  replace X10 : Hid _ := CellsAt.below X10.out hw10
  replace O10 : Hid _ := own_keep O10.out hw10
  replace X11 : Hid _ := CellsAt.below X11.out hw10
  replace O11 : Hid _ := SAns.below O11.out hw10
  have hz10 := hw10.size
  clear hw10
  as_aux_lemma =>
  obtain ⟨x0, x1, x2, x3, x4, x5, x6, x7⟩ := X9.out
  go_wp2_with fail
  refine (markState_any wd now given births L g4 q4 r4 1 ks ps ls w4 w10 SO.out O9.out HFit.out.1 HFit.out.2 (by omega) (by omega)).mono ?_
  rintro e w11 ⟨⟨K1, rfl, hK1, hK1'⟩, hb11, _, hf11⟩
  have hz11 := hb11.size
  replace E : Hid _ := E1.keep E.out hb11
  replace X10 : Hid _ := CellsAt.same X10.out (hf11 _ (by omega) (by omega))
  replace X11 : Hid _ := CellsAt.same X11.out (hf11 _ (by omega) (by omega))
  replace O10 : Hid _ := own_same O10.out (fun j hj => hf11 j (by simp [Value.ownBlock] at hj; omega) (by simp [Value.ownBlock] at hj; omega))
  replace O11 : Hid _ := SAns.same O11.out (fun j hj hj' => hf11 j (by omega) (by omega))
  clear x0 x1 x2 x3 x4 x5 x6 x7 hb11 hf11 X9 O9 SO
  obtain ⟨⟨x0, _⟩, ⟨x1, _⟩, ⟨x2, _⟩, ⟨x3, _⟩, ⟨x4, _⟩, x5, _⟩ := c6 X10.out
  go_wp2_with fail
  refine (markEntry_any kd s nm num text _ _ _ K1 _ _ w11 O10.out (by omega) (by omega)).mono ?_
  rintro e w12 ⟨rfl, _, hg12⟩
  have ht12 : Tn [g5] w11 w12 := Tn.grown hg12 (by simp)
  have hz12 := ht12.size
  replace E : Hid _ := E1.keep E.out (ht12.below (by omega) (fun j hj => by simp at hj; omega))
  replace X11 : Hid _ := CellsAt.same X11.out (ht12.block _ (by omega) (by simp; omega))
  replace O11 : Hid _ := SAns.same O11.out (fun j hj hj' => ht12.block j hj' (by simp; omega))
  clear x0 x1 x2 x3 x4 x5 ht12 hg12 X10 O10
  as_aux_lemma =>
  have hnn : decide ((K1 : Int) + refs.length < 0) = false := by simp; omega
  obtain ⟨⟨y0, _⟩, ⟨y1, _⟩, ⟨y2, _⟩, ⟨y3, _⟩, ⟨y4, _⟩, ⟨y5, _⟩, ⟨y6, _⟩, ⟨y7, _⟩, ⟨y8, _⟩, ⟨y9, _⟩, ⟨y10, _⟩, y11, _⟩ := c12 E.out.r8
  obtain ⟨⟨v0, _⟩, ⟨v1, _⟩, ⟨v2, _⟩, ⟨v3, _⟩, ⟨v4, _⟩, ⟨v5, _⟩, ⟨v6, _⟩, ⟨v7, _⟩, ⟨v8, _⟩, ⟨v9, _⟩, ⟨v10, _⟩, v11, _⟩ := c12 X11.out
  have hR6 := SAns.get O11.out
  go_wp2_with fail
  refine (eqChanged_row o.code o.wd o.now o.given o.births o.le o.sm o.a o.b ta6 pa6 la6 tc6 pc6 lc6 ta3 pa3 la3 tc3 pc3 lc3 o.ks o.ps o.ls w12 hR6 E.out.st HSm.out.fit).mono ?_
  rintro e w13 ⟨rfl, hw13⟩
  clear y0 y1 y2 y3 y4 y5 y6 y7 y8 y9 y10 y11 v0 v1 v2 v3 v4 v5 v6 v7 v8 v9 v10 v11 hR6
  try generalize (.agg #[.int .i64 o.code, .int .i64 o.wd, .int .i64 o.now, .int .i64 o.given, .int .i64 o.births, .slice ta6 o.ks.length tc6, .slice pa6 o.ps.length pc6, .slice la6 o.ls.length lc6, .string o.sm, .int .i64 o.le, .string o.a, .string o.b] : Value) = dv0
  try generalize (.agg #[.int .i64 o.code, .int .i64 o.wd, .int .i64 o.now, .int .i64 o.given, .int .i64 o.births, .slice ta3 o.ks.length tc3, .slice pa3 o.ps.length pc3, .slice la3 o.ls.length lc3, .string o.sm, .int .i64 o.le, .string o.a, .string o.b] : Value) = dv1
  try generalize (.agg #[.int .i64 wd, .int .i64 now, .int .i64 given, .int .i64 births, .slice (some ⟨g4, 0, none⟩) ks.length ks.length, .slice (some ⟨q4, 0, none⟩) ps.length ps.length, .slice (some ⟨r4, 0, none⟩) ls.length ls.length] : Value) = dv2
  try generalize (.agg #[.int .i64 kd, .string s, .string nm, .int .i64 num, .string text, .slice (some ⟨g5, 0, none⟩) refs.length refs.length] : Value) = dv3
  replace E : Hid _ := E1.keep E.out (hw13.mono E.out.le)
  replace X11 : Hid _ := CellsAt.below X11.out hw13
  replace O11 : Hid _ := SAns.below O11.out hw13
  have hz13 := hw13.size
  clear hw13
  as_aux_lemma =>
  obtain ⟨⟨v0, _⟩, ⟨v1, _⟩, ⟨v2, _⟩, ⟨v3, _⟩, ⟨v4, _⟩, ⟨v5, _⟩, ⟨v6, _⟩, ⟨v7, _⟩, ⟨v8, _⟩, ⟨v9, _⟩, ⟨v10, _⟩, v11, _⟩ := c12 X11.out
  go_wp2_with fail
  refine (markChangedX o.code o.wd o.now o.given o.births o.le o.sm o.a o.b W5.heap.size 1 _ _ _ rs o.ks o.ps o.ls w13 O11.out (Nat.le_refl _) HSm.out.count).mono ?_
  rintro e w14 ⟨rfl, hA14, ht14⟩
  have hz14 := ht14.size
  replace E : Hid _ := E1.keep E.out (ht14.below (by omega) (fun j hj => by have := HV6.out j hj; omega))
  replace X11 : Hid _ := CellsAt.same X11.out (ht14.block _ (by omega) (fun e => by have := HV6.out _ e; omega))
  have HC14 : Hid _ := hA14
  clear v0 v1 v2 v3 v4 v5 v6 v7 v8 v9 v10 v11 ht14 hA14 O11
  try generalize (.agg #[.int .i64 o.code, .int .i64 o.wd, .int .i64 o.now, .int .i64 o.given, .int .i64 o.births, .slice ta6 o.ks.length tc6, .slice pa6 o.ps.length pc6, .slice la6 o.ls.length lc6, .string o.sm, .int .i64 o.le, .string o.a, .string o.b] : Value) = dv0
  have hcnt := HSm.out.count
  obtain ⟨nn, hnn2⟩ : ∃ nn, nn = 1 + cntS o.ks o.ps o.ls := ⟨_, rfl⟩
  have HHeld : Hid (∀ W, SAns W W5.heap.size (.slice ta6 o.ks.length tc6) (.slice pa6 o.ps.length pc6) (.slice la6 o.ls.length lc6) rs (markK 1 o.ks) (markP (1 + o.ks.length * 3 + refsN o.ks) o.ps) (markL (1 + o.ks.length * 3 + refsN o.ks + o.ps.length * 2) o.ls) → Calls Tryz.prog 18 #[.agg #[.int .i64 o.code, .int .i64 o.wd, .int .i64 o.now, .int .i64 o.given, .int .i64 o.births, .slice ta6 o.ks.length tc6, .slice pa6 o.ps.length pc6, .slice la6 o.ls.length lc6, .string o.sm, .int .i64 o.le, .string o.a, .string o.b], .int .i64 1] W fun e w' => e = .returned (.int .i64 (nn : Int)) ∧ Below W.heap.size W w') := fun W hW => by
    rw [hnn2]
    exact heldChangedX o.code o.wd o.now o.given o.births o.le o.sm o.a o.b W5.heap.size 1 _ _ _ rs o.ks o.ps o.ls W hW (Nat.le_refl _) HSm.out.count
  rw [← hnn2] at hcnt ⊢
  have hnq : decide ((nn : Int) < 0) = false := by simp
  have hne : ((nn : Int) != (nn : Int)) = false := by simp
  clear hnn2
  as_aux_lemma =>
  obtain ⟨⟨v0, _⟩, ⟨v1, _⟩, ⟨v2, _⟩, ⟨v3, _⟩, ⟨v4, _⟩, ⟨v5, _⟩, ⟨v6, _⟩, ⟨v7, _⟩, ⟨v8, _⟩, ⟨v9, _⟩, ⟨v10, _⟩, v11, _⟩ := c12 X11.out
  go_wp2_with fail
  refine (HHeld.out w14 HC14.out).mono ?_
  rintro e w15 ⟨rfl, hw15⟩
  clear v0 v1 v2 v3 v4 v5 v6 v7 v8 v9 v10 v11
  try generalize (.agg #[.int .i64 o.code, .int .i64 o.wd, .int .i64 o.now, .int .i64 o.given, .int .i64 o.births, .slice ta6 o.ks.length tc6, .slice pa6 o.ps.length pc6, .slice la6 o.ls.length lc6, .string o.sm, .int .i64 o.le, .string o.a, .string o.b] : Value) = dv0
  replace E : Hid _ := E1.keep E.out (hw15.mono E.out.le)
  replace X11 : Hid _ := CellsAt.below X11.out hw15
  replace HC14 : Hid _ := SAns.below HC14.out hw15
  have hz15 := hw15.size
  clear hw15
  as_aux_lemma =>
  have hB15 := E.out.bel
  go_upto_region 31 with fail
  go_cut [13] (fun v wx => ∃ (B8 : Nat) (o : An) (ta9 : Option Addr) (tc9 : Nat) (pa9 : Option Addr) (pc9 : Nat) (la9 : Option Addr) (lc9 : Nat), v = .pointer (some ⟨B8, 0, none⟩) ∧ Hid (CellsAt wx B8 [.int .i64 o.code, .int .i64 o.wd, .int .i64 o.now, .int .i64 o.given, .int .i64 o.births, .slice ta9 o.ks.length tc9, .slice pa9 o.ps.length pc9, .slice la9 o.ls.length lc9, .string o.sm, .int .i64 o.le, .string o.a, .string o.b] ∧ AnTo wd now given births ks ps ls kd s nm num text refs o ∧ SRows wx wx.heap.size ta9 pa9 la9 o.ks o.ps o.ls ∧ Below w15.heap.size w15 wx))
  case first =>
    refine reg5 wd now given births a p l ac pc lc ks ps ls kd s nm num text ra rc refs w w15 HT HTE HI2 HRF hB15 E.out.sx E.out.rx _ _ _ _ _ _ _ _ _ _ _ _ _ _ _ _ _ _ _ _ _ _ _ _ _ _ _ _ _ _ _ _ _ _ _ _ _ _ _ _ _ _ _ _ _ _ _ _ _ _ _ _ _ _ _ _ _ _ _ _ _ _ _ _ _ _ _ _ _ _ _ _ _ _ _ _ _ _ _ _ _ _ _ _ _ _ _ _ _ _ _ _ ?_
    first
      | (dsimp only; intro B8 o7 ta7 tc7 pa7 pc7 la7 lc7 wx x75 x76 x77 x78 x79 hH; go_meet; exact ⟨B8, o7, ta7, tc7, pa7, pc7, la7, lc7, rfl, hH⟩)
      | (intro B8 o7 ta7 tc7 pa7 pc7 la7 lc7 wx x75 x76 x77 x78 x79 hH; dsimp only; go_meet; exact ⟨B8, o7, ta7, tc7, pa7, pc7, la7, lc7, rfl, hH⟩)
      | (intro B8 o7 ta7 tc7 pa7 pc7 la7 lc7 wx x75 x76 x77 x78 x79 hH; dsimp only; go_wp2_with fail; go_meet; exact ⟨B8, o7, ta7, tc7, pa7, pc7, la7, lc7, rfl, hH⟩)
      | (intro B8 o7 ta7 tc7 pa7 pc7 la7 lc7 wx x75 x76 x77 x78 x79 hH; go_meet; dsimp only; refine ⟨?_, ?_⟩)
  case rest =>
  revert wc
  intro w16 hcut
  obtain ⟨B9, o9, ta9, tc9, pa9, pc9, la9, lc9, rfl, H9⟩ := hcut
  obtain rfl : o = o9 := HTo.out.det H9.out.2.1
  clear hB15 HT HTE HI HI2
  have hw16 := H9.out.2.2.2
  replace E : Hid _ := E1.keep E.out (hw16.mono E.out.le)
  replace X11 : Hid _ := CellsAt.below X11.out hw16
  replace HC14 : Hid _ := SAns.below HC14.out hw16
  have hz16 := hw16.size
  clear hw16
  as_aux_lemma =>
  obtain ⟨⟨y0, _⟩, ⟨y1, _⟩, ⟨y2, _⟩, ⟨y3, _⟩, ⟨y4, _⟩, ⟨y5, _⟩, ⟨y6, _⟩, ⟨y7, _⟩, ⟨y8, _⟩, ⟨y9, _⟩, ⟨y10, _⟩, y11, _⟩ := c12 E.out.r8
  obtain ⟨⟨v0, _⟩, ⟨v1, _⟩, ⟨v2, _⟩, ⟨v3, _⟩, ⟨v4, _⟩, ⟨v5, _⟩, ⟨v6, _⟩, ⟨v7, _⟩, ⟨v8, _⟩, ⟨v9, _⟩, ⟨v10, _⟩, v11, _⟩ := c12 H9.out.1
  have hR9 := H9.out.2.2.1
  go_wp2_with fail
  refine (eqChanged_row o.code o.wd o.now o.given o.births o.le o.sm o.a o.b ta9 pa9 la9 tc9 pc9 lc9 ta3 pa3 la3 tc3 pc3 lc3 o.ks o.ps o.ls w16 hR9 E.out.st HSm.out.fit).mono ?_
  rintro e w17 ⟨rfl, hw17⟩
  clear y0 y1 y2 y3 y4 y5 y6 y7 y8 y9 y10 y11 v0 v1 v2 v3 v4 v5 v6 v7 v8 v9 v10 v11 hR9 H9
  try generalize (.agg #[.int .i64 o.code, .int .i64 o.wd, .int .i64 o.now, .int .i64 o.given, .int .i64 o.births, .slice ta9 o.ks.length tc9, .slice pa9 o.ps.length pc9, .slice la9 o.ls.length lc9, .string o.sm, .int .i64 o.le, .string o.a, .string o.b] : Value) = dv0
  try generalize (.agg #[.int .i64 o.code, .int .i64 o.wd, .int .i64 o.now, .int .i64 o.given, .int .i64 o.births, .slice ta3 o.ks.length tc3, .slice pa3 o.ps.length pc3, .slice la3 o.ls.length lc3, .string o.sm, .int .i64 o.le, .string o.a, .string o.b] : Value) = dv1
  replace E : Hid _ := E1.keep E.out (hw17.mono E.out.le)
  replace X11 : Hid _ := CellsAt.below X11.out hw17
  replace HC14 : Hid _ := SAns.below HC14.out hw17
  clear hw17
  as_aux_lemma =>
  obtain ⟨⟨v0, _⟩, ⟨v1, _⟩, ⟨v2, _⟩, ⟨v3, _⟩, ⟨v4, _⟩, ⟨v5, _⟩, ⟨v6, _⟩, ⟨v7, _⟩, ⟨v8, _⟩, ⟨v9, _⟩, ⟨v10, _⟩, v11, _⟩ := c12 X11.out
  go_wp2_with fail
  refine (HHeld.out w17 HC14.out).mono ?_
  rintro e w18 ⟨rfl, hw18⟩
  have HE : Hid (Below w.heap.size w w18) := E.out.bel.trans (hw18.mono E.out.bel.size)
  clear v0 v1 v2 v3 v4 v5 v6 v7 v8 v9 v10 v11 hw18
  go_wp2
  go_ret
  exact ⟨rfl, HE.out⟩
end ExactApply
end Go.Proofs.YthkmpihfhkmaoaaGreatDoor
