import Derived.Test.YthkmpihfhkmaoaaGreatU25
import Derived.Test.YthkmpihfhkmaoaaGreatU18
import Derived.Deep.RegionWith
import Derived.Deep.DeepCutAuto
/-
  laws.FnExactUnit, at every input.
-/
namespace Go.Proofs.YthkmpihfhkmaoaaGreat
namespace ExactUnit
open Go.ChangeShapes Go.WideShapes Go.ChangeAt Go.RowKit

/-- What was there before the first call of the program: the arguments' boxes, the other side's answer; all below L. -/
structure E1 (w wx : World) (L B8 : Nat) (wd now given births ph top at_ ro : Int) (T P' L' Q' M' : Value) (o : UOut) (ta pa la qa ma da : Option Addr) (tc pc lc qc mc dc : Nat) : Prop where
  sx : SBox wx w.heap.size wd now given births T P' L'
  rx : RBox wx (w.heap.size + 1) ph Q' M' top at_ ro
  r8 : CellsAt wx B8 [.int .i64 o.code, .int .i64 o.wd, .int .i64 o.now, .int .i64 o.given, .int .i64 o.births, .slice ta o.r.ks.length tc, .slice pa o.ps.length pc, .slice la o.ls.length lc, .int .i64 o.r.ph, .slice qa o.r.qs.length qc, .slice ma o.r.ms.length mc, .int .i64 o.r.top, .int .i64 o.r.at_, .int .i64 o.r.ro, .slice da o.r.ds.length dc]
  k : KRow wx L ta o.r.ks
  p : PRow wx L pa o.ps
  l : LRow wx L la o.ls
  q : SRow wx L qa o.r.qs
  m : SRow wx L ma o.r.ms
  d : SRow wx L da o.r.ds
  bel : Below w.heap.size w wx
  l1 : w.heap.size + 1 < L
  l8 : B8 < L
  le : L ≤ wx.heap.size

theorem E1.keep {w wx wy : World} {L B8 : Nat} {wd now given births ph top at_ ro : Int} {T P' L' Q' M' : Value} {o : UOut} {ta pa la qa ma da : Option Addr} {tc pc lc qc mc dc : Nat} (h : E1 w wx L B8 wd now given births ph top at_ ro T P' L' Q' M' o ta pa la qa ma da tc pc lc qc mc dc) (hb : Below L wx wy) : E1 w wy L B8 wd now given births ph top at_ ro T P' L' Q' M' o ta pa la qa ma da tc pc lc qc mc dc :=
  ⟨h.sx.keep hb (by have := h.l1; omega), h.rx.keep hb h.l1, CellsAt.same h.r8 (hb.block B8 h.l8), h.k.below hb, h.p.below hb, h.l.below hb, h.q.below hb, h.m.below hb, h.d.below hb, h.bel.trans (hb.mono (by have := h.l1; omega)), h.l1, h.l8, Nat.le_trans h.le hb.size⟩

theorem E1.st {w wx : World} {L B8 : Nat} {wd now given births ph top at_ ro : Int} {T P' L' Q' M' : Value} {o : UOut} {ta pa la qa ma da : Option Addr} {tc pc lc qc mc dc : Nat} (h : E1 w wx L B8 wd now given births ph top at_ ro T P' L' Q' M' o ta pa la qa ma da tc pc lc qc mc dc) : SRows wx wx.heap.size ta pa la o.r.ks o.ps o.ls :=
  ⟨h.k.mono h.le, h.p.mono h.le, h.l.mono h.le⟩

theorem RBox.blk {w w' : World} {b : Nat} {ph top at_ ro : Int} {Q M : Value} (h : RBox w b ph Q M top at_ ro) (e : w'.heap[b]? = w.heap[b]?) (hz : w.heap.size ≤ w'.heap.size) : RBox w' b ph Q M top at_ ro := by
  obtain ⟨x0, x1, x2, x3, x4, x5, x6⟩ := h
  exact ⟨(World.cell?_of_block (a := ⟨b, 0, none⟩) e).trans x0, (World.cell?_of_block (a := ⟨b, 1, none⟩) e).trans x1, (World.cell?_of_block (a := ⟨b, 2, none⟩) e).trans x2, (World.cell?_of_block (a := ⟨b, 3, none⟩) e).trans x3, (World.cell?_of_block (a := ⟨b, 4, none⟩) e).trans x4, (World.cell?_of_block (a := ⟨b, 5, none⟩) e).trans x5, Nat.lt_of_lt_of_le x6 hz⟩

theorem own_blk {a b : World} {base : Nat} {e : TypeId} {v : Value} {n : Nat} {xs : List Value} (ho : a.ownsRow base e 1 v n xs) (h : ∀ g, v.ownBlock = some g → b.heap[g]? = a.heap[g]?) : b.ownsRow base e 1 v n xs := by
  refine ⟨ho.1, ?_⟩
  rcases ho.2 with h2 | ⟨g, cap, cur, rfl, hb, hg, h4⟩
  · exact .inl h2
  · exact .inr ⟨g, cap, cur, rfl, hb, (h g rfl).trans hg, h4⟩


set_option maxRecDepth 20000 in
set_option maxHeartbeats 16000000 in
/-- The second call's region. -/
theorem reg31 (wd now given births : Int) (a p l : Option Addr) (ac pc lc : Nat) (ks : List Kd) (ps : List Pd) (ls : List Ld) (ph top at_ ro : Int) (qa ma : Option Addr) (qac mac : Nat) (qs ms : List ByteArray) (w w15 : World)
    (HT : Hid (∀ W, Below w.heap.size w W → Calls Tryz.prog 8 #[.agg #[.int .i64 wd, .int .i64 now, .int .i64 given, .int .i64 births, .slice a ks.length ac, .slice p ps.length pc, .slice l ls.length lc]] W fun e w' => ∃ g q r, e = .returned (.agg #[.int .i64 wd, .int .i64 now, .int .i64 given, .int .i64 births, .slice (some ⟨g, 0, none⟩) ks.length ks.length, .slice (some ⟨q, 0, none⟩) ps.length ps.length, .slice (some ⟨r, 0, none⟩) ls.length ls.length]) ∧ SOwn w' W.heap.size g q r ks ps ls ∧ Below W.heap.size W w'))
    (HTR : Hid (∀ W, Below w.heap.size w W → RFit qs ms → Calls Tryz.prog 9 #[.agg #[.int .i64 ph, .slice qa qs.length qac, .slice ma ms.length mac, .int .i64 top, .int .i64 at_, .int .i64 ro]] W fun e w' => ∃ g k, e = .returned (.agg #[.int .i64 ph, .slice (some ⟨g, 0, none⟩) qs.length qs.length, .slice (some ⟨k, 0, none⟩) ms.length ms.length, .int .i64 top, .int .i64 at_, .int .i64 ro]) ∧ W.heap.size ≤ g ∧ g < k ∧
      w'.ownsRow W.heap.size 9 1 (.slice (some ⟨g, 0, none⟩) qs.length qs.length) qs.length (qs.map Value.string) ∧ w'.ownsRow W.heap.size 9 1 (.slice (some ⟨k, 0, none⟩) ms.length ms.length) ms.length (ms.map Value.string) ∧ Below W.heap.size W w'))
    (HI2 : Hid (∀ (W : World) (g q r g' k' : Nat), SRows W W.heap.size (some ⟨g, 0, none⟩) (some ⟨q, 0, none⟩) (some ⟨r, 0, none⟩) ks ps ls → KSome W ⟨g, 0, none⟩ ks → SRow W W.heap.size (some ⟨g', 0, none⟩) qs → SRow W W.heap.size (some ⟨k', 0, none⟩) ms → RFit qs ms → Calls Tryz.prog 10 #[.agg #[.int .i64 wd, .int .i64 now, .int .i64 given, .int .i64 births, .slice (some ⟨g, 0, none⟩) ks.length ks.length, .slice (some ⟨q, 0, none⟩) ps.length ps.length, .slice (some ⟨r, 0, none⟩) ls.length ls.length], .agg #[.int .i64 ph, .slice (some ⟨g', 0, none⟩) qs.length qs.length, .slice (some ⟨k', 0, none⟩) ms.length ms.length, .int .i64 top, .int .i64 at_, .int .i64 ro]] W fun e w' => ∃ o ta' tc' pa' pc' la' lc' qa' qc' ma' mc' da' dc', e = .returned (.agg #[.int .i64 o.code, .int .i64 o.wd, .int .i64 o.now, .int .i64 o.given, .int .i64 o.births, .slice ta' o.r.ks.length tc', .slice pa' o.ps.length pc', .slice la' o.ls.length lc', .int .i64 o.r.ph, .slice qa' o.r.qs.length qc', .slice ma' o.r.ms.length mc', .int .i64 o.r.top, .int .i64 o.r.at_, .int .i64 o.r.ro, .slice da' o.r.ds.length dc']) ∧ UnitTo wd now given births ks ps ls ph top at_ ro qs ms o ∧ CRdN W.heap.size w' (.slice ta' o.r.ks.length tc') (.slice pa' o.ps.length pc') (.slice la' o.ls.length lc') (.slice qa' o.r.qs.length qc') (.slice ma' o.r.ms.length mc') (.slice da' o.r.ds.length dc') o.r.ks o.ps o.ls o.r.qs o.r.ms o.r.ds ∧ Below W.heap.size W w'))
    (HRF : Hid (RFit qs ms)) (hB15 : Below w.heap.size w w15) (HSX : Hid (SBox w15 w.heap.size wd now given births (.slice a ks.length ac) (.slice p ps.length pc) (.slice l ls.length lc))) (HRX : Hid (RBox w15 (w.heap.size + 1) ph (.slice qa qs.length qac) (.slice ma ms.length mac) top at_ ro))
    (v0 v1 v4 v5 v6 v7 v8 v9 v10 v11 v12 v13 v14 v15 v16 v17 v18 v19 v20 v21 v22 v23 v24 v25 v26 v27 v28 v29 v30 v31 v32 v33 v34 v35 v36 v37 v38 v39 v40 v41 v42 v43 v44 v45 v46 v47 v48 v49 v50 v51 v52 v53 v54 v55 v56 v57 v58 v59 v60 v61 v62 v63 v64 v65 v66 v67 v68 v69 v70 v71 v72 v73 v74 v75 v76 v77 v78 v79 v80 v81 v82 v83 v84 v85 v86 v87 v88 v89 v90 v91 : Value) (K : Act → World → Prop) (Q : Exit → Act → World → Prop)
    (hK : ∀ (B8 : Nat) (o : UOut) (ta7 : Option Addr) (tc7 : Nat) (pa7 : Option Addr) (pc7 : Nat) (la7 : Option Addr) (lc7 : Nat) (qa7 : Option Addr) (qc7 : Nat) (ma7 : Option Addr) (mc7 : Nat) (da7 : Option Addr) (dc7 : Nat) (wx : World) (x75 x76 x77 x78 x79 : Value), Hid (CellsAt wx B8 [.int .i64 o.code, .int .i64 o.wd, .int .i64 o.now, .int .i64 o.given, .int .i64 o.births, .slice ta7 o.r.ks.length tc7, .slice pa7 o.ps.length pc7, .slice la7 o.ls.length lc7, .int .i64 o.r.ph, .slice qa7 o.r.qs.length qc7, .slice ma7 o.r.ms.length mc7, .int .i64 o.r.top, .int .i64 o.r.at_, .int .i64 o.r.ro, .slice da7 o.r.ds.length dc7] ∧ UnitTo wd now given births ks ps ls ph top at_ ro qs ms o ∧ CRd wx (.slice ta7 o.r.ks.length tc7) (.slice pa7 o.ps.length pc7) (.slice la7 o.ls.length lc7) (.slice qa7 o.r.qs.length qc7) (.slice ma7 o.r.ms.length mc7) (.slice da7 o.r.ds.length dc7) o.r.ks o.ps o.ls o.r.qs o.r.ms o.r.ds ∧ Below w15.heap.size w15 wx) → K { tmps := #[v0, v1, .pointer (some ⟨w.heap.size, 0, none⟩), .pointer (some ⟨w.heap.size + 1, 0, none⟩), v4, v5, v6, v7, v8, v9, v10, v11, v12, .pointer (some ⟨B8, 0, none⟩), v14, v15, v16, v17, v18, v19, v20, v21, v22, v23, v24, v25, v26, v27, v28, v29, v30, v31, v32, v33, v34, v35, v36, v37, v38, v39, v40, v41, v42, v43, v44, v45, v46, v47, v48, v49, v50, v51, v52, v53, v54, v55, v56, v57, v58, v59, v60, v61, v62, v63, v64, v65, v66, v67, v68, v69, v70, v71, v72, v73, v74, x75, x76, x77, x78, x79, v80, v81, v82, v83, v84, v85, v86, v87, v88, v89, v90, v91], defers := [] } wx) :
    Code.wp Tryz.prog (Code.region 31 #[{ dst := some 75, op := Op.load 26 (Operand.tmp 2), type := 26, pos := "exact.go:1671", after := #[], guard := none },
      { dst := some 76, op := Op.call { callee := Callee.value (Operand.func 8), args := #[Operand.tmp 75], argTypes := #[26] }, type := 36, pos := "exact.go:1671", after := #[{ on := 0, ground := Ground.data }], guard := none },
      { dst := some 77, op := Op.load 29 (Operand.tmp 3), type := 29, pos := "exact.go:1671", after := #[], guard := none },
      { dst := some 78, op := Op.call { callee := Callee.value (Operand.func 9), args := #[Operand.tmp 77], argTypes := #[29] }, type := 37, pos := "exact.go:1671", after := #[{ on := 2, ground := Ground.data }, { on := 1, ground := Ground.chain }], guard := none },
      { dst := some 79, op := Op.call { callee := Callee.value (Operand.func 10), args := #[Operand.tmp 76, Operand.tmp 78], argTypes := #[36, 37] }, type := 39, pos := "exact.go:1671", after := #[{ on := 1, ground := Ground.data }, { on := 3, ground := Ground.data }, { on := 3, ground := Ground.chain }], guard := none },
      { dst := some 13, op := Op.alloc 39, type := 0, pos := "exact.go:1671", after := #[], guard := none },
      { dst := none, op := Op.store 39 (Operand.tmp 13) (Operand.tmp 79), type := 0, pos := "exact.go:1671", after := #[{ on := 5, ground := Ground.data }, { on := 4, ground := Ground.data }, { on := 4, ground := Ground.chain }, { on := 0, ground := Ground.phase }, { on := 1, ground := Ground.phase }, { on := 2, ground := Ground.phase }, { on := 3, ground := Ground.phase }, { on := 4, ground := Ground.phase }, { on := 5, ground := Ground.phase }], guard := none }] true) (Exit.then K Q) { tmps := #[v0, v1, .pointer (some ⟨w.heap.size, 0, none⟩), .pointer (some ⟨w.heap.size + 1, 0, none⟩), v4, v5, v6, v7, v8, v9, v10, v11, v12, v13, v14, v15, v16, v17, v18, v19, v20, v21, v22, v23, v24, v25, v26, v27, v28, v29, v30, v31, v32, v33, v34, v35, v36, v37, v38, v39, v40, v41, v42, v43, v44, v45, v46, v47, v48, v49, v50, v51, v52, v53, v54, v55, v56, v57, v58, v59, v60, v61, v62, v63, v64, v65, v66, v67, v68, v69, v70, v71, v72, v73, v74, v75, v76, v77, v78, v79, v80, v81, v82, v83, v84, v85, v86, v87, v88, v89, v90, v91], defers := [] } w15 := by
    have HSR : Hid (∀ X, Below w15.heap.size w15 X → X.cell? ⟨w.heap.size, 0, none⟩ = some (.int .i64 wd) ∧ X.cell? ⟨w.heap.size, 1, none⟩ = some (.int .i64 now) ∧ X.cell? ⟨w.heap.size, 2, none⟩ = some (.int .i64 given) ∧ X.cell? ⟨w.heap.size, 3, none⟩ = some (.int .i64 births) ∧ X.cell? ⟨w.heap.size, 4, none⟩ = some (.slice a ks.length ac) ∧ X.cell? ⟨w.heap.size, 5, none⟩ = some (.slice p ps.length pc) ∧ X.cell? ⟨w.heap.size, 6, none⟩ = some (.slice l ls.length lc) ∧ X.cell? ⟨w.heap.size + 1, 0, none⟩ = some (.int .i64 ph) ∧ X.cell? ⟨w.heap.size + 1, 1, none⟩ = some (.slice qa qs.length qac) ∧ X.cell? ⟨w.heap.size + 1, 2, none⟩ = some (.slice ma ms.length mac) ∧ X.cell? ⟨w.heap.size + 1, 3, none⟩ = some (.int .i64 top) ∧ X.cell? ⟨w.heap.size + 1, 4, none⟩ = some (.int .i64 at_) ∧ X.cell? ⟨w.heap.size + 1, 5, none⟩ = some (.int .i64 ro)) := fun X hX => by
      have h1 := sq7 (SBox.below HSX.out hX)
      have h2 := rq6 (RBox.below HRX.out hX)
      exact ⟨h1.1, h1.2.1, h1.2.2.1, h1.2.2.2.1, h1.2.2.2.2.1, h1.2.2.2.2.2.1, h1.2.2.2.2.2.2, h2⟩
    have HL : Hid (∀ X, Below w15.heap.size w15 X → Below w.heap.size w X) := fun X hX => hB15.trans (hX.mono hB15.size)
    have D0 : Below w15.heap.size w15 w15.drew := (Below.refl _ _).drew
    have D1 : ∀ o, Below w15.heap.size w15 (w15.alloc o).drew := fun o => ((Below.refl _ _).alloc (Nat.le_refl _) _).drew
    go_region_held3 (fun X => X.cell? ⟨w.heap.size, 0, none⟩ = some (.int .i64 wd) ∧ X.cell? ⟨w.heap.size, 1, none⟩ = some (.int .i64 now) ∧ X.cell? ⟨w.heap.size, 2, none⟩ = some (.int .i64 given) ∧ X.cell? ⟨w.heap.size, 3, none⟩ = some (.int .i64 births) ∧ X.cell? ⟨w.heap.size, 4, none⟩ = some (.slice a ks.length ac) ∧ X.cell? ⟨w.heap.size, 5, none⟩ = some (.slice p ps.length pc) ∧ X.cell? ⟨w.heap.size, 6, none⟩ = some (.slice l ls.length lc) ∧ X.cell? ⟨w.heap.size + 1, 0, none⟩ = some (.int .i64 ph) ∧ X.cell? ⟨w.heap.size + 1, 1, none⟩ = some (.slice qa qs.length qac) ∧ X.cell? ⟨w.heap.size + 1, 2, none⟩ = some (.slice ma ms.length mac) ∧ X.cell? ⟨w.heap.size + 1, 3, none⟩ = some (.int .i64 top) ∧ X.cell? ⟨w.heap.size + 1, 4, none⟩ = some (.int .i64 at_) ∧ X.cell? ⟨w.heap.size + 1, 5, none⟩ = some (.int .i64 ro))
      (first
          | with_reducible exact HSR.out _ D0
          | with_reducible exact HSR.out _ (D1 _)
          | with_reducible exact HSR.out _ B3
          | with_reducible exact HSR.out _ (B3.alloc B3.size _)
          | with_reducible exact HSR.out _ B4
          | with_reducible exact HSR.out _ (B4.alloc B4.size _)
          | with_reducible exact HSR.out _ B5
          | with_reducible exact HSR.out _ (B5.alloc B5.size _)
          | with_reducible exact HSR.out _ (B5.trans ((tn15 wd' _ _ _ _ _ _ _ _ _ _ _ _ _ _ _ _).below B5.size (by intro v hv; simp at hv; omega))))
      (first
        | (go_at_call 8; guard_target =~ Calls Tryz.prog 8 _ (World.drew (World.alloc w15 _)) _; refine Calls.mono (HT.out (w15.alloc (.cells #[.int .i64 0, .int .i64 0, .int .i64 0, .int .i64 0, .int .i64 0, .slice none 0 0, .slice none 0 0, .slice none 0 0, .int .i64 0, .slice none 0 0, .slice none 0 0, .int .i64 0, .int .i64 0, .int .i64 0, .slice none 0 0] 39)).drew (HL.out _ (D1 _))) ?_; rintro e wa ⟨g, q, r, rfl, ho, hba⟩; have B3 : Below w15.heap.size w15 wa := (D1 _).trans (hba.mono (by simp)); have zA : CellsAt wa w15.heap.size z15 := CellsAt.below (v := .int .i64 0) (w := (w15.alloc (.cells #[.int .i64 0, .int .i64 0, .int .i64 0, .int .i64 0, .int .i64 0, .slice none 0 0, .slice none 0 0, .slice none 0 0, .int .i64 0, .slice none 0 0, .slice none 0 0, .int .i64 0, .int .i64 0, .int .i64 0, .slice none 0 0] 39))) (CellsAt.new w15 z15 39) (below_undrew hba); have hr3 := ho.rows; have hk3 := ho.ksome)
        | (go_at_call 8; guard_target =~ Calls Tryz.prog 8 _ (World.drew w15) _; refine Calls.mono (HT.out w15.drew (HL.out _ D0)) ?_; rintro e wa ⟨g, q, r, rfl, ho, hba⟩; have B3 : Below w15.heap.size w15 wa := D0.trans hba; have hr3 := ho.rows; have hk3 := ho.ksome)
        | (go_at_call 9; have tag := zA; refine Calls.mono (HTR.out wa (HL.out _ B3) HRF.out) ?_; rintro e wb ⟨g4, k4, rfl, _, _, ox, oy, hbb⟩; have B4 : Below w15.heap.size w15 wb := B3.trans (hbb.mono B3.size); have zA4 : CellsAt wb w15.heap.size z15 := CellsAt.below (v := .int .i64 0) zA hbb; have hr4 := hr3.below' hbb; have hk4 := hk3.below hbb)
        | (go_at_call 9; guard_target =~ Calls Tryz.prog 9 _ (World.alloc wa _) _; refine Calls.mono (HTR.out (wa.alloc (.cells #[.int .i64 0, .int .i64 0, .int .i64 0, .int .i64 0, .int .i64 0, .slice none 0 0, .slice none 0 0, .slice none 0 0, .int .i64 0, .slice none 0 0, .slice none 0 0, .int .i64 0, .int .i64 0, .int .i64 0, .slice none 0 0] 39)) (HL.out _ (B3.alloc B3.size _)) HRF.out) ?_; rintro e wb ⟨g4, k4, rfl, _, _, ox, oy, hbb⟩; have B4 : Below w15.heap.size w15 wb := (B3.alloc B3.size _).trans (hbb.mono (by have := B3.size; simp; omega)); have zB4 : CellsAt wb wa.heap.size z15 := CellsAt.below (v := .int .i64 0) (w := (wa.alloc (.cells #[.int .i64 0, .int .i64 0, .int .i64 0, .int .i64 0, .int .i64 0, .slice none 0 0, .slice none 0 0, .slice none 0 0, .int .i64 0, .slice none 0 0, .slice none 0 0, .int .i64 0, .int .i64 0, .int .i64 0, .slice none 0 0] 39))) (CellsAt.new wa z15 39) hbb; have hr4 := (hr3.below' ((Below.refl _ _).alloc (Nat.le_refl _) _)).below' hbb; have hk4 := (hk3.below ((Below.refl _ _).alloc (Nat.le_refl _) _)).below hbb)
        | (go_at_call 9; refine Calls.mono (HTR.out wa (HL.out _ B3) HRF.out) ?_; rintro e wb ⟨g4, k4, rfl, _, _, ox, oy, hbb⟩; have B4 : Below w15.heap.size w15 wb := B3.trans (hbb.mono B3.size); have hr4 := hr3.below' hbb; have hk4 := hk3.below hbb; have nAB := hbb)
        | (go_at_call 10; have tag := zA4; refine Calls.mono (HI2.out wb g q r g4 k4 hr4 hk4 (SRow.own ox) (SRow.own oy) HRF.out) ?_; rintro e wd' ⟨o, ta7, tc7, pa7, pc7, la7, lc7, qa7, qc7, ma7, mc7, da7, dc7, rfl, hto, hrd, hbd⟩; have HRD : Hid _ := And.intro hto hrd; clear hto hrd ox oy hr3 hr4 hk3 hk4 ho; have B5 : Below w15.heap.size w15 wd' := B4.trans (hbd.mono B4.size); have zA5 : CellsAt wd' w15.heap.size z15 := CellsAt.below (v := .int .i64 0) zA4 hbd; have hsb5 : w15.heap.size ≤ w15.heap.size := (by first | exact B3.size | exact Nat.le_refl _); have hlt5 : w15.heap.size < wb.heap.size := zA4.lt; obtain ⟨⟨y0, q0⟩, ⟨y1, q1⟩, ⟨y2, q2⟩, ⟨y3, q3⟩, ⟨y4, q4⟩, ⟨y5, q5⟩, ⟨y6, q6⟩, ⟨y7, q7⟩, ⟨y8, q8⟩, ⟨y9, q9⟩, ⟨y10, q10⟩, ⟨y11, q11⟩, ⟨y12, q12⟩, ⟨y13, q13⟩, y14, q14⟩ := c15 zA5)
        | (go_at_call 10; have tag := zB4; refine Calls.mono (HI2.out wb g q r g4 k4 hr4 hk4 (SRow.own ox) (SRow.own oy) HRF.out) ?_; rintro e wd' ⟨o, ta7, tc7, pa7, pc7, la7, lc7, qa7, qc7, ma7, mc7, da7, dc7, rfl, hto, hrd, hbd⟩; have HRD : Hid _ := And.intro hto hrd; clear hto hrd ox oy hr3 hr4 hk3 hk4 ho; have B5 : Below w15.heap.size w15 wd' := B4.trans (hbd.mono B4.size); have zB5 : CellsAt wd' wa.heap.size z15 := CellsAt.below (v := .int .i64 0) zB4 hbd; have hsb5 : w15.heap.size ≤ wa.heap.size := (by first | exact B3.size | exact Nat.le_refl _); have hlt5 : wa.heap.size < wb.heap.size := zB4.lt; obtain ⟨⟨y0, q0⟩, ⟨y1, q1⟩, ⟨y2, q2⟩, ⟨y3, q3⟩, ⟨y4, q4⟩, ⟨y5, q5⟩, ⟨y6, q6⟩, ⟨y7, q7⟩, ⟨y8, q8⟩, ⟨y9, q9⟩, ⟨y10, q10⟩, ⟨y11, q11⟩, ⟨y12, q12⟩, ⟨y13, q13⟩, y14, q14⟩ := c15 zB5)
        | (go_at_call 10; guard_target =~ Calls Tryz.prog 10 _ (World.alloc wb _) _; refine Calls.mono (HI2.out (wb.alloc (.cells #[.int .i64 0, .int .i64 0, .int .i64 0, .int .i64 0, .int .i64 0, .slice none 0 0, .slice none 0 0, .slice none 0 0, .int .i64 0, .slice none 0 0, .slice none 0 0, .int .i64 0, .int .i64 0, .int .i64 0, .slice none 0 0] 39)) g q r g4 k4 (hr4.below' ((Below.refl _ _).alloc (Nat.le_refl _) _)) (hk4.below ((Below.refl _ _).alloc (Nat.le_refl _) _)) ((SRow.own ox).below' ((Below.refl _ _).alloc (Nat.le_refl _) _)) ((SRow.own oy).below' ((Below.refl _ _).alloc (Nat.le_refl _) _)) HRF.out) ?_; rintro e wd' ⟨o, ta7, tc7, pa7, pc7, la7, lc7, qa7, qc7, ma7, mc7, da7, dc7, rfl, hto, hrd, hbd⟩; have HRD : Hid _ := And.intro hto hrd; clear hto hrd ox oy hr3 hr4 hk3 hk4 ho; have B5 : Below w15.heap.size w15 wd' := (B4.alloc B4.size _).trans (hbd.mono (by have := B4.size; simp; omega)); have zC5 : CellsAt wd' wb.heap.size z15 := CellsAt.below (v := .int .i64 0) (w := (wb.alloc (.cells #[.int .i64 0, .int .i64 0, .int .i64 0, .int .i64 0, .int .i64 0, .slice none 0 0, .slice none 0 0, .slice none 0 0, .int .i64 0, .slice none 0 0, .slice none 0 0, .int .i64 0, .int .i64 0, .int .i64 0, .slice none 0 0] 39))) (CellsAt.new wb z15 39) hbd; have hsb5 : w15.heap.size ≤ wb.heap.size := B4.size; have hlt5 : wb.heap.size < (wb.alloc (.cells #[.int .i64 0, .int .i64 0, .int .i64 0, .int .i64 0, .int .i64 0, .slice none 0 0, .slice none 0 0, .slice none 0 0, .int .i64 0, .slice none 0 0, .slice none 0 0, .int .i64 0, .int .i64 0, .int .i64 0, .slice none 0 0] 39)).heap.size := (by simp); obtain ⟨⟨y0, q0⟩, ⟨y1, q1⟩, ⟨y2, q2⟩, ⟨y3, q3⟩, ⟨y4, q4⟩, ⟨y5, q5⟩, ⟨y6, q6⟩, ⟨y7, q7⟩, ⟨y8, q8⟩, ⟨y9, q9⟩, ⟨y10, q10⟩, ⟨y11, q11⟩, ⟨y12, q12⟩, ⟨y13, q13⟩, y14, q14⟩ := c15 zC5)
        | (go_at_call 10; have tag := nAB; refine Calls.mono (HI2.out wb g q r g4 k4 hr4 hk4 (SRow.own ox) (SRow.own oy) HRF.out) ?_; rintro e wd' ⟨o, ta7, tc7, pa7, pc7, la7, lc7, qa7, qc7, ma7, mc7, da7, dc7, rfl, hto, hrd, hbd⟩; have HRD : Hid _ := And.intro hto hrd; clear hto hrd ox oy hr3 hr4 hk3 hk4 ho; have B5 : Below w15.heap.size w15 wd' := B4.trans (hbd.mono B4.size); have nD := nAB))
    all_goals go_wp2_with fail
    all_goals first
      | (have tag := zA5
         exact hK _ o ta7 tc7 pa7 pc7 la7 lc7 qa7 qc7 ma7 mc7 da7 dc7 _ _ _ _ _ _ ⟨set15 zA5 _ _ _ _ _ _ _ _ _ _ _ _ _ _ _, HRD.out.1, HRD.out.2 [_] _ (by simpa using hlt5) (tn15 wd' _ _ _ _ _ _ _ _ _ _ _ _ _ _ _ _), B5.trans ((tn15 wd' _ _ _ _ _ _ _ _ _ _ _ _ _ _ _ _).below B5.size (by simp))⟩)
      | (have tag := zB5
         exact hK _ o ta7 tc7 pa7 pc7 la7 lc7 qa7 qc7 ma7 mc7 da7 dc7 _ _ _ _ _ _ ⟨set15 zB5 _ _ _ _ _ _ _ _ _ _ _ _ _ _ _, HRD.out.1, HRD.out.2 [_] _ (by simpa using hlt5) (tn15 wd' _ _ _ _ _ _ _ _ _ _ _ _ _ _ _ _), B5.trans ((tn15 wd' _ _ _ _ _ _ _ _ _ _ _ _ _ _ _ _).below B5.size (by simpa using hsb5))⟩)
      | (have tag := zC5
         exact hK _ o ta7 tc7 pa7 pc7 la7 lc7 qa7 qc7 ma7 mc7 da7 dc7 _ _ _ _ _ _ ⟨set15 zC5 _ _ _ _ _ _ _ _ _ _ _ _ _ _ _, HRD.out.1, HRD.out.2 [_] _ (by simp) (tn15 wd' _ _ _ _ _ _ _ _ _ _ _ _ _ _ _ _), B5.trans ((tn15 wd' _ _ _ _ _ _ _ _ _ _ _ _ _ _ _ _).below B5.size (by simpa using hsb5))⟩)
      | (have tag := nD
         exact hK _ o ta7 tc7 pa7 pc7 la7 lc7 qa7 qc7 ma7 mc7 da7 dc7 _ _ _ _ _ _ ⟨CellsAt.new wd' _ _, HRD.out.1, HRD.out.2 [] _ (by simp) (Tn.of ((Below.refl _ _).alloc (Nat.le_refl _) _)), B5.alloc B5.size _⟩)

set_option maxRecDepth 20000 in
set_option maxHeartbeats 16000000 in
theorem walk (wd now given births : Int) (a p l : Option Addr) (ac pc lc : Nat) (ks : List Kd) (ps : List Pd) (ls : List Ld) (ph top at_ ro : Int) (qa ma : Option Addr) (qac mac : Nat) (qs ms : List ByteArray) (w : World)
    (hrow : SRows w w.heap.size a p l ks ps ls) (hk : KMem ks) (hp : PMem ps) (hl : LMem ls) (hbw : ∀ k ∈ ks, (Lit.int .i64 k.born).wf = true)
    (hq : SRow w w.heap.size qa qs) (hm : SRow w w.heap.size ma ms) (hql : qs.length ≤ maxLen) (hqs : ∀ s ∈ qs, s.size ≤ maxLen) (hml : ms.length ≤ maxLen) (hms : ∀ s ∈ ms, s.size ≤ maxLen) :
    Calls Tryz.prog 3 #[.agg #[.int .i64 wd, .int .i64 now, .int .i64 given, .int .i64 births, .slice a ks.length ac, .slice p ps.length pc, .slice l ls.length lc], .agg #[.int .i64 ph, .slice qa qs.length qac, .slice ma ms.length mac, .int .i64 top, .int .i64 at_, .int .i64 ro]] w fun e w' => e = .returned (.bool true) ∧ Below w.heap.size w w' := by
  have hb0 : Below w.heap.size w ((w.alloc (.cells #[.int .i64 wd, .int .i64 now, .int .i64 given, .int .i64 births, .slice a ks.length ac, .slice p ps.length pc, .slice l ls.length lc] 26)).alloc (.cells #[.int .i64 ph, .slice qa qs.length qac, .slice ma ms.length mac, .int .i64 top, .int .i64 at_, .int .i64 ro] 29)) := ((Below.refl _ _).alloc (Nat.le_refl _) _).alloc (by simp) _
  have hsx := (SBox.new w wd now given births (.slice a ks.length ac) (.slice p ps.length pc) (.slice l ls.length lc) 26).below ((Below.refl _ _).alloc (Nat.le_refl _) (.cells #[.int .i64 ph, .slice qa qs.length qac, .slice ma ms.length mac, .int .i64 top, .int .i64 at_, .int .i64 ro] 29))
  have hrx := RBox.new (w.alloc (.cells #[.int .i64 wd, .int .i64 now, .int .i64 given, .int .i64 births, .slice a ks.length ac, .slice p ps.length pc, .slice l ls.length lc] 26)) ph top at_ ro (.slice qa qs.length qac) (.slice ma ms.length mac) 29
  rw [World.size_alloc] at hrx
  go_enter Tryz.func3, Tryz.ntmps3
  go_wp2_with fail
  refine (szState_t wd now given births a p l ac pc lc ks ps ls _ _ (hrow.below' hb0) hk hp hl (by omega) (by omega)).mono ?_
  rintro e w1 ⟨left, rfl, hw1, hle, hfit⟩
  have hB1 := hb0.trans (hw1.mono (by simp; omega))
  have HSX : Hid (SBox w1 w.heap.size wd now given births (.slice a ks.length ac) (.slice p ps.length pc) (.slice l ls.length lc)) := hsx.below hw1
  have HRX : Hid (RBox w1 (w.heap.size + 1) ph (.slice qa qs.length qac) (.slice ma ms.length mac) top at_ ro) := hrx.below hw1
  clear hw1 hsx hrx hb0
  by_cases hneg : left < 0
  · clear hrow hk hp hl hbw hq hm hqs hms hfit
    go_wp2
    go_ret
    exact ⟨rfl, hB1⟩
  have hf : SFit ks ps ls := (hfit (by omega)).1
  have hrn : refsN ks ≤ 1048576 := (hfit (by omega)).2
  obtain ⟨x0, x1, x2, x3, x4, x5, x6⟩ := HRX.out
  have HSZ : Hid _ := szRound_any ph top at_ ro qa ma qac mac qs ms left w1 (hq.below' hB1) (hm.below' hB1) hql hqs hml hms (by omega) (by omega)
  have HT : Hid (∀ W, Below w.heap.size w W → Calls Tryz.prog 8 #[.agg #[.int .i64 wd, .int .i64 now, .int .i64 given, .int .i64 births, .slice a ks.length ac, .slice p ps.length pc, .slice l ls.length lc]] W fun e w' => ∃ g q r, e = .returned (.agg #[.int .i64 wd, .int .i64 now, .int .i64 given, .int .i64 births, .slice (some ⟨g, 0, none⟩) ks.length ks.length, .slice (some ⟨q, 0, none⟩) ps.length ps.length, .slice (some ⟨r, 0, none⟩) ls.length ls.length]) ∧ SOwn w' W.heap.size g q r ks ps ls ∧ Below W.heap.size W w') := fun W hB => toState_any wd now given births a p l ac pc lc ks ps ls W (hrow.below' hB) hf
  have HTR : Hid (∀ W, Below w.heap.size w W → RFit qs ms → Calls Tryz.prog 9 #[.agg #[.int .i64 ph, .slice qa qs.length qac, .slice ma ms.length mac, .int .i64 top, .int .i64 at_, .int .i64 ro]] W fun e w' => ∃ g k, e = .returned (.agg #[.int .i64 ph, .slice (some ⟨g, 0, none⟩) qs.length qs.length, .slice (some ⟨k, 0, none⟩) ms.length ms.length, .int .i64 top, .int .i64 at_, .int .i64 ro]) ∧ W.heap.size ≤ g ∧ g < k ∧
      w'.ownsRow W.heap.size 9 1 (.slice (some ⟨g, 0, none⟩) qs.length qs.length) qs.length (qs.map Value.string) ∧ w'.ownsRow W.heap.size 9 1 (.slice (some ⟨k, 0, none⟩) ms.length ms.length) ms.length (ms.map Value.string) ∧ Below W.heap.size W w') := fun W hB hrf => toRound_any ph top at_ ro qa ma qac mac qs ms W (hq.below' hB) (hm.below' hB) hrf
  have HS : Hid (∀ (W : World) (g q r g' k' : Nat), SRows W W.heap.size (some ⟨g, 0, none⟩) (some ⟨q, 0, none⟩) (some ⟨r, 0, none⟩) ks ps ls → KSome W ⟨g, 0, none⟩ ks → SRow W W.heap.size (some ⟨g', 0, none⟩) qs → SRow W W.heap.size (some ⟨k', 0, none⟩) ms → RFit qs ms → Calls Tryz.prog 7 #[.agg #[.int .i64 wd, .int .i64 now, .int .i64 given, .int .i64 births, .slice (some ⟨g, 0, none⟩) ks.length ks.length, .slice (some ⟨q, 0, none⟩) ps.length ps.length, .slice (some ⟨r, 0, none⟩) ls.length ls.length], .agg #[.int .i64 ph, .slice (some ⟨g', 0, none⟩) qs.length qs.length, .slice (some ⟨k', 0, none⟩) ms.length ms.length, .int .i64 top, .int .i64 at_, .int .i64 ro]] W fun e w' => ∃ o ta' tc' pa' pc' la' lc' qa' qc' ma' mc' da' dc', e = .returned (.agg #[.int .i64 o.code, .int .i64 o.wd, .int .i64 o.now, .int .i64 o.given, .int .i64 o.births, .slice ta' o.r.ks.length tc', .slice pa' o.ps.length pc', .slice la' o.ls.length lc', .int .i64 o.r.ph, .slice qa' o.r.qs.length qc', .slice ma' o.r.ms.length mc', .int .i64 o.r.top, .int .i64 o.r.at_, .int .i64 o.r.ro, .slice da' o.r.ds.length dc']) ∧ UnitTo wd now given births ks ps ls ph top at_ ro qs ms o ∧ CRdN W.heap.size w' (.slice ta' o.r.ks.length tc') (.slice pa' o.ps.length pc') (.slice la' o.ls.length lc') (.slice qa' o.r.qs.length qc') (.slice ma' o.r.ms.length mc') (.slice da' o.r.ds.length dc') o.r.ks o.ps o.ls o.r.qs o.r.ms o.r.ds ∧ Below W.heap.size W w') := fun W g q r g' k' h1 h0 h2 h3 hrf => by
    refine (sUnit_any wd now given births g q r _ _ _ ks ps ls ph top at_ ro g' k' _ _ qs ms W h1 h0 hk hp hf h2 h3 hrf (Nat.le_refl _)).mono ?_
    rintro e w' ⟨o, T, P, L, Q, M, D, rfl, hto, hrd, hb⟩
    obtain ⟨⟨ta, tc, pa, pc, la, lc, rfl, rfl, rfl, _⟩, ⟨qa, qc, rfl, _⟩, ⟨ma, mc, rfl, _⟩, ⟨da, dc, rfl, _⟩⟩ := hrd [] w' (by simp) (Tn.of (Below.refl _ _))
    exact ⟨o, ta, tc, pa, pc, la, lc, qa, qc, ma, mc, da, dc, rfl, hto, hrd, hb⟩
  have HI : Hid (∀ (W : World) (g q r g' k' : Nat), SRows W W.heap.size (some ⟨g, 0, none⟩) (some ⟨q, 0, none⟩) (some ⟨r, 0, none⟩) ks ps ls → SRow W W.heap.size (some ⟨g', 0, none⟩) qs → SRow W W.heap.size (some ⟨k', 0, none⟩) ms → RFit qs ms → Calls Tryz.prog 10 #[.agg #[.int .i64 wd, .int .i64 now, .int .i64 given, .int .i64 births, .slice (some ⟨g, 0, none⟩) ks.length ks.length, .slice (some ⟨q, 0, none⟩) ps.length ps.length, .slice (some ⟨r, 0, none⟩) ls.length ls.length], .agg #[.int .i64 ph, .slice (some ⟨g', 0, none⟩) qs.length qs.length, .slice (some ⟨k', 0, none⟩) ms.length ms.length, .int .i64 top, .int .i64 at_, .int .i64 ro]] W fun e w' => ∃ o ta' tc' pa' pc' la' lc' qa' qc' ma' mc' da' dc' rs, e = .returned (.agg #[.int .i64 o.code, .int .i64 o.wd, .int .i64 o.now, .int .i64 o.given, .int .i64 o.births, .slice ta' o.r.ks.length tc', .slice pa' o.ps.length pc', .slice la' o.ls.length lc', .int .i64 o.r.ph, .slice qa' o.r.qs.length qc', .slice ma' o.r.ms.length mc', .int .i64 o.r.top, .int .i64 o.r.at_, .int .i64 o.r.ro, .slice da' o.r.ds.length dc']) ∧ UnitTo wd now given births ks ps ls ph top at_ ro qs ms o ∧ CAns w' W.heap.size (.slice ta' o.r.ks.length tc') (.slice pa' o.ps.length pc') (.slice la' o.ls.length lc') (.slice qa' o.r.qs.length qc') (.slice ma' o.r.ms.length mc') (.slice da' o.r.ds.length dc') rs o.r.ks o.ps o.ls o.r.qs o.r.ms o.r.ds ∧ Below W.heap.size W w') := fun W g q r g' k' h1 h2 h3 hrf => by
    refine (iUnit_any wd now given births g q r _ _ _ ks ps ls ph top at_ ro g' k' _ _ qs ms W h1 hk hp hl hf hbw h2 h3 hrf).mono ?_
    rintro e w' ⟨o, T, P, L, Q, M, D, rs, rfl, hto, hrd, hb⟩
    obtain ⟨⟨ta, tc, pa, pc, la, lc, rfl, rfl, rfl, _⟩, ⟨qa, qc, rfl, _⟩, ⟨ma, mc, rfl, _⟩, ⟨da, dc, rfl, _⟩⟩ := hrd.rd
    exact ⟨o, ta, tc, pa, pc, la, lc, qa, qc, ma, mc, da, dc, rs, rfl, hto, hrd, hb⟩
  have HI2 : Hid (∀ (W : World) (g q r g' k' : Nat), SRows W W.heap.size (some ⟨g, 0, none⟩) (some ⟨q, 0, none⟩) (some ⟨r, 0, none⟩) ks ps ls → KSome W ⟨g, 0, none⟩ ks → SRow W W.heap.size (some ⟨g', 0, none⟩) qs → SRow W W.heap.size (some ⟨k', 0, none⟩) ms → RFit qs ms → Calls Tryz.prog 10 #[.agg #[.int .i64 wd, .int .i64 now, .int .i64 given, .int .i64 births, .slice (some ⟨g, 0, none⟩) ks.length ks.length, .slice (some ⟨q, 0, none⟩) ps.length ps.length, .slice (some ⟨r, 0, none⟩) ls.length ls.length], .agg #[.int .i64 ph, .slice (some ⟨g', 0, none⟩) qs.length qs.length, .slice (some ⟨k', 0, none⟩) ms.length ms.length, .int .i64 top, .int .i64 at_, .int .i64 ro]] W fun e w' => ∃ o ta' tc' pa' pc' la' lc' qa' qc' ma' mc' da' dc', e = .returned (.agg #[.int .i64 o.code, .int .i64 o.wd, .int .i64 o.now, .int .i64 o.given, .int .i64 o.births, .slice ta' o.r.ks.length tc', .slice pa' o.ps.length pc', .slice la' o.ls.length lc', .int .i64 o.r.ph, .slice qa' o.r.qs.length qc', .slice ma' o.r.ms.length mc', .int .i64 o.r.top, .int .i64 o.r.at_, .int .i64 o.r.ro, .slice da' o.r.ds.length dc']) ∧ UnitTo wd now given births ks ps ls ph top at_ ro qs ms o ∧ CRdN W.heap.size w' (.slice ta' o.r.ks.length tc') (.slice pa' o.ps.length pc') (.slice la' o.ls.length lc') (.slice qa' o.r.qs.length qc') (.slice ma' o.r.ms.length mc') (.slice da' o.r.ds.length dc') o.r.ks o.ps o.ls o.r.qs o.r.ms o.r.ds ∧ Below W.heap.size W w') := fun W g q r g' k' h1 _ h2 h3 hrf => by
    refine (HI.out W g q r g' k' h1 h2 h3 hrf).mono ?_
    rintro e w' ⟨o, ta, tc, pa, pc, la, lc, qa, qc, ma, mc, da, dc, rs, rfl, hto, hrd, hb⟩
    exact ⟨o, ta, tc, pa, pc, la, lc, qa, qc, ma, mc, da, dc, rfl, hto, hrd.rdN, hb⟩
  have HFit : Hid (SFit ks ps ls ∧ refsN ks ≤ 1048576) := ⟨hf, hrn⟩
  clear hf hrn hfit hrow hk hp hl hbw hq hm hqs hms hql hml
  go_wp2_with fail
  refine Calls.mono HSZ.out ?_
  rintro e w2 ⟨left2, rfl, hw2, hrfit⟩
  have hB2 := hB1.trans (hw2.mono hB1.size)
  replace HSX : Hid (SBox w2 w.heap.size wd now given births (.slice a ks.length ac) (.slice p ps.length pc) (.slice l ls.length lc)) := SBox.below HSX.out hw2
  replace HRX : Hid (RBox w2 (w.heap.size + 1) ph (.slice qa qs.length qac) (.slice ma ms.length mac) top at_ ro) := RBox.below HRX.out hw2
  clear hw2 hB1 x0 x1 x2 x3 x4 x5 x6
  by_cases hneg2 : left2 < 0
  · clear hrfit HSZ HT HTR HS HI HI2 HFit
    go_wp2
    go_ret
    exact ⟨rfl, hB2⟩
  have hrf : RFit qs ms := hrfit (by omega)
  have hrfq := hrf.q
  have hrfm := hrf.m
  have HRF : Hid (RFit qs ms) := hrf
  clear hrfit hrf HSZ
  go_upto_region 8 with fail
  go_cut [6] (fun v wx => ∃ (B8 : Nat) (o : UOut) (ta3 : Option Addr) (tc3 : Nat) (pa3 : Option Addr) (pc3 : Nat) (la3 : Option Addr) (lc3 : Nat) (qa3 : Option Addr) (qc3 : Nat) (ma3 : Option Addr) (mc3 : Nat) (da3 : Option Addr) (dc3 : Nat), v = .pointer (some ⟨B8, 0, none⟩) ∧ Hid (CellsAt wx B8 [.int .i64 o.code, .int .i64 o.wd, .int .i64 o.now, .int .i64 o.given, .int .i64 o.births, .slice ta3 o.r.ks.length tc3, .slice pa3 o.ps.length pc3, .slice la3 o.ls.length lc3, .int .i64 o.r.ph, .slice qa3 o.r.qs.length qc3, .slice ma3 o.r.ms.length mc3, .int .i64 o.r.top, .int .i64 o.r.at_, .int .i64 o.r.ro, .slice da3 o.r.ds.length dc3] ∧ UnitTo wd now given births ks ps ls ph top at_ ro qs ms o ∧ CRd wx (.slice ta3 o.r.ks.length tc3) (.slice pa3 o.ps.length pc3) (.slice la3 o.ls.length lc3) (.slice qa3 o.r.qs.length qc3) (.slice ma3 o.r.ms.length mc3) (.slice da3 o.r.ds.length dc3) o.r.ks o.ps o.ls o.r.qs o.r.ms o.r.ds ∧ Below w2.heap.size w2 wx))
  case first =>
    clear HI HI2 HFit hneg hneg2 hrfq hrfm
    have HSR : Hid (∀ X, Below w2.heap.size w2 X → X.cell? ⟨w.heap.size, 0, none⟩ = some (.int .i64 wd) ∧ X.cell? ⟨w.heap.size, 1, none⟩ = some (.int .i64 now) ∧ X.cell? ⟨w.heap.size, 2, none⟩ = some (.int .i64 given) ∧ X.cell? ⟨w.heap.size, 3, none⟩ = some (.int .i64 births) ∧ X.cell? ⟨w.heap.size, 4, none⟩ = some (.slice a ks.length ac) ∧ X.cell? ⟨w.heap.size, 5, none⟩ = some (.slice p ps.length pc) ∧ X.cell? ⟨w.heap.size, 6, none⟩ = some (.slice l ls.length lc) ∧ X.cell? ⟨w.heap.size + 1, 0, none⟩ = some (.int .i64 ph) ∧ X.cell? ⟨w.heap.size + 1, 1, none⟩ = some (.slice qa qs.length qac) ∧ X.cell? ⟨w.heap.size + 1, 2, none⟩ = some (.slice ma ms.length mac) ∧ X.cell? ⟨w.heap.size + 1, 3, none⟩ = some (.int .i64 top) ∧ X.cell? ⟨w.heap.size + 1, 4, none⟩ = some (.int .i64 at_) ∧ X.cell? ⟨w.heap.size + 1, 5, none⟩ = some (.int .i64 ro)) := fun X hX => by
      have h1 := sq7 (SBox.below HSX.out hX)
      have h2 := rq6 (RBox.below HRX.out hX)
      exact ⟨h1.1, h1.2.1, h1.2.2.1, h1.2.2.2.1, h1.2.2.2.2.1, h1.2.2.2.2.2.1, h1.2.2.2.2.2.2, h2⟩
    have HL : Hid (∀ X, Below w2.heap.size w2 X → Below w.heap.size w X) := fun X hX => hB2.trans (hX.mono hB2.size)
    have D0 : Below w2.heap.size w2 w2.drew := (Below.refl _ _).drew
    have D1 : ∀ o, Below w2.heap.size w2 (w2.alloc o).drew := fun o => ((Below.refl _ _).alloc (Nat.le_refl _) _).drew
    go_region_held3 (fun X => X.cell? ⟨w.heap.size, 0, none⟩ = some (.int .i64 wd) ∧ X.cell? ⟨w.heap.size, 1, none⟩ = some (.int .i64 now) ∧ X.cell? ⟨w.heap.size, 2, none⟩ = some (.int .i64 given) ∧ X.cell? ⟨w.heap.size, 3, none⟩ = some (.int .i64 births) ∧ X.cell? ⟨w.heap.size, 4, none⟩ = some (.slice a ks.length ac) ∧ X.cell? ⟨w.heap.size, 5, none⟩ = some (.slice p ps.length pc) ∧ X.cell? ⟨w.heap.size, 6, none⟩ = some (.slice l ls.length lc) ∧ X.cell? ⟨w.heap.size + 1, 0, none⟩ = some (.int .i64 ph) ∧ X.cell? ⟨w.heap.size + 1, 1, none⟩ = some (.slice qa qs.length qac) ∧ X.cell? ⟨w.heap.size + 1, 2, none⟩ = some (.slice ma ms.length mac) ∧ X.cell? ⟨w.heap.size + 1, 3, none⟩ = some (.int .i64 top) ∧ X.cell? ⟨w.heap.size + 1, 4, none⟩ = some (.int .i64 at_) ∧ X.cell? ⟨w.heap.size + 1, 5, none⟩ = some (.int .i64 ro))
      (first
          | with_reducible exact HSR.out _ D0
          | with_reducible exact HSR.out _ (D1 _)
          | with_reducible exact HSR.out _ B3
          | with_reducible exact HSR.out _ (B3.alloc B3.size _)
          | with_reducible exact HSR.out _ B4
          | with_reducible exact HSR.out _ (B4.alloc B4.size _)
          | with_reducible exact HSR.out _ B5
          | with_reducible exact HSR.out _ (B5.alloc B5.size _)
          | with_reducible exact HSR.out _ (B5.trans ((tn15 wd' _ _ _ _ _ _ _ _ _ _ _ _ _ _ _ _).below B5.size (by intro v hv; simp at hv; omega))))
      (first
        | (go_at_call 8; guard_target =~ Calls Tryz.prog 8 _ (World.drew (World.alloc w2 _)) _; refine Calls.mono (HT.out (w2.alloc (.cells #[.int .i64 0, .int .i64 0, .int .i64 0, .int .i64 0, .int .i64 0, .slice none 0 0, .slice none 0 0, .slice none 0 0, .int .i64 0, .slice none 0 0, .slice none 0 0, .int .i64 0, .int .i64 0, .int .i64 0, .slice none 0 0] 39)).drew (HL.out _ (D1 _))) ?_; rintro e wa ⟨g, q, r, rfl, ho, hba⟩; have B3 : Below w2.heap.size w2 wa := (D1 _).trans (hba.mono (by simp)); have zA : CellsAt wa w2.heap.size z15 := CellsAt.below (v := .int .i64 0) (w := (w2.alloc (.cells #[.int .i64 0, .int .i64 0, .int .i64 0, .int .i64 0, .int .i64 0, .slice none 0 0, .slice none 0 0, .slice none 0 0, .int .i64 0, .slice none 0 0, .slice none 0 0, .int .i64 0, .int .i64 0, .int .i64 0, .slice none 0 0] 39))) (CellsAt.new w2 z15 39) (below_undrew hba); have hr3 := ho.rows; have hk3 := ho.ksome)
        | (go_at_call 8; guard_target =~ Calls Tryz.prog 8 _ (World.drew w2) _; refine Calls.mono (HT.out w2.drew (HL.out _ D0)) ?_; rintro e wa ⟨g, q, r, rfl, ho, hba⟩; have B3 : Below w2.heap.size w2 wa := D0.trans hba; have hr3 := ho.rows; have hk3 := ho.ksome)
        | (go_at_call 9; have tag := zA; refine Calls.mono (HTR.out wa (HL.out _ B3) HRF.out) ?_; rintro e wb ⟨g4, k4, rfl, _, _, ox, oy, hbb⟩; have B4 : Below w2.heap.size w2 wb := B3.trans (hbb.mono B3.size); have zA4 : CellsAt wb w2.heap.size z15 := CellsAt.below (v := .int .i64 0) zA hbb; have hr4 := hr3.below' hbb; have hk4 := hk3.below hbb)
        | (go_at_call 9; guard_target =~ Calls Tryz.prog 9 _ (World.alloc wa _) _; refine Calls.mono (HTR.out (wa.alloc (.cells #[.int .i64 0, .int .i64 0, .int .i64 0, .int .i64 0, .int .i64 0, .slice none 0 0, .slice none 0 0, .slice none 0 0, .int .i64 0, .slice none 0 0, .slice none 0 0, .int .i64 0, .int .i64 0, .int .i64 0, .slice none 0 0] 39)) (HL.out _ (B3.alloc B3.size _)) HRF.out) ?_; rintro e wb ⟨g4, k4, rfl, _, _, ox, oy, hbb⟩; have B4 : Below w2.heap.size w2 wb := (B3.alloc B3.size _).trans (hbb.mono (by have := B3.size; simp; omega)); have zB4 : CellsAt wb wa.heap.size z15 := CellsAt.below (v := .int .i64 0) (w := (wa.alloc (.cells #[.int .i64 0, .int .i64 0, .int .i64 0, .int .i64 0, .int .i64 0, .slice none 0 0, .slice none 0 0, .slice none 0 0, .int .i64 0, .slice none 0 0, .slice none 0 0, .int .i64 0, .int .i64 0, .int .i64 0, .slice none 0 0] 39))) (CellsAt.new wa z15 39) hbb; have hr4 := (hr3.below' ((Below.refl _ _).alloc (Nat.le_refl _) _)).below' hbb; have hk4 := (hk3.below ((Below.refl _ _).alloc (Nat.le_refl _) _)).below hbb)
        | (go_at_call 9; refine Calls.mono (HTR.out wa (HL.out _ B3) HRF.out) ?_; rintro e wb ⟨g4, k4, rfl, _, _, ox, oy, hbb⟩; have B4 : Below w2.heap.size w2 wb := B3.trans (hbb.mono B3.size); have hr4 := hr3.below' hbb; have hk4 := hk3.below hbb; have nAB := hbb)
        | (go_at_call 7; have tag := zA4; refine Calls.mono (HS.out wb g q r g4 k4 hr4 hk4 (SRow.own ox) (SRow.own oy) HRF.out) ?_; rintro e wd' ⟨o, ta7, tc7, pa7, pc7, la7, lc7, qa7, qc7, ma7, mc7, da7, dc7, rfl, hto, hrd, hbd⟩; have HRD : Hid _ := And.intro hto hrd; clear hto hrd ox oy hr3 hr4 hk3 hk4 ho; have B5 : Below w2.heap.size w2 wd' := B4.trans (hbd.mono B4.size); have zA5 : CellsAt wd' w2.heap.size z15 := CellsAt.below (v := .int .i64 0) zA4 hbd; have hsb5 : w2.heap.size ≤ w2.heap.size := (by first | exact B3.size | exact Nat.le_refl _); have hlt5 : w2.heap.size < wb.heap.size := zA4.lt; obtain ⟨⟨y0, q0⟩, ⟨y1, q1⟩, ⟨y2, q2⟩, ⟨y3, q3⟩, ⟨y4, q4⟩, ⟨y5, q5⟩, ⟨y6, q6⟩, ⟨y7, q7⟩, ⟨y8, q8⟩, ⟨y9, q9⟩, ⟨y10, q10⟩, ⟨y11, q11⟩, ⟨y12, q12⟩, ⟨y13, q13⟩, y14, q14⟩ := c15 zA5)
        | (go_at_call 7; have tag := zB4; refine Calls.mono (HS.out wb g q r g4 k4 hr4 hk4 (SRow.own ox) (SRow.own oy) HRF.out) ?_; rintro e wd' ⟨o, ta7, tc7, pa7, pc7, la7, lc7, qa7, qc7, ma7, mc7, da7, dc7, rfl, hto, hrd, hbd⟩; have HRD : Hid _ := And.intro hto hrd; clear hto hrd ox oy hr3 hr4 hk3 hk4 ho; have B5 : Below w2.heap.size w2 wd' := B4.trans (hbd.mono B4.size); have zB5 : CellsAt wd' wa.heap.size z15 := CellsAt.below (v := .int .i64 0) zB4 hbd; have hsb5 : w2.heap.size ≤ wa.heap.size := (by first | exact B3.size | exact Nat.le_refl _); have hlt5 : wa.heap.size < wb.heap.size := zB4.lt; obtain ⟨⟨y0, q0⟩, ⟨y1, q1⟩, ⟨y2, q2⟩, ⟨y3, q3⟩, ⟨y4, q4⟩, ⟨y5, q5⟩, ⟨y6, q6⟩, ⟨y7, q7⟩, ⟨y8, q8⟩, ⟨y9, q9⟩, ⟨y10, q10⟩, ⟨y11, q11⟩, ⟨y12, q12⟩, ⟨y13, q13⟩, y14, q14⟩ := c15 zB5)
        | (go_at_call 7; guard_target =~ Calls Tryz.prog 7 _ (World.alloc wb _) _; refine Calls.mono (HS.out (wb.alloc (.cells #[.int .i64 0, .int .i64 0, .int .i64 0, .int .i64 0, .int .i64 0, .slice none 0 0, .slice none 0 0, .slice none 0 0, .int .i64 0, .slice none 0 0, .slice none 0 0, .int .i64 0, .int .i64 0, .int .i64 0, .slice none 0 0] 39)) g q r g4 k4 (hr4.below' ((Below.refl _ _).alloc (Nat.le_refl _) _)) (hk4.below ((Below.refl _ _).alloc (Nat.le_refl _) _)) ((SRow.own ox).below' ((Below.refl _ _).alloc (Nat.le_refl _) _)) ((SRow.own oy).below' ((Below.refl _ _).alloc (Nat.le_refl _) _)) HRF.out) ?_; rintro e wd' ⟨o, ta7, tc7, pa7, pc7, la7, lc7, qa7, qc7, ma7, mc7, da7, dc7, rfl, hto, hrd, hbd⟩; have HRD : Hid _ := And.intro hto hrd; clear hto hrd ox oy hr3 hr4 hk3 hk4 ho; have B5 : Below w2.heap.size w2 wd' := (B4.alloc B4.size _).trans (hbd.mono (by have := B4.size; simp; omega)); have zC5 : CellsAt wd' wb.heap.size z15 := CellsAt.below (v := .int .i64 0) (w := (wb.alloc (.cells #[.int .i64 0, .int .i64 0, .int .i64 0, .int .i64 0, .int .i64 0, .slice none 0 0, .slice none 0 0, .slice none 0 0, .int .i64 0, .slice none 0 0, .slice none 0 0, .int .i64 0, .int .i64 0, .int .i64 0, .slice none 0 0] 39))) (CellsAt.new wb z15 39) hbd; have hsb5 : w2.heap.size ≤ wb.heap.size := B4.size; have hlt5 : wb.heap.size < (wb.alloc (.cells #[.int .i64 0, .int .i64 0, .int .i64 0, .int .i64 0, .int .i64 0, .slice none 0 0, .slice none 0 0, .slice none 0 0, .int .i64 0, .slice none 0 0, .slice none 0 0, .int .i64 0, .int .i64 0, .int .i64 0, .slice none 0 0] 39)).heap.size := (by simp); obtain ⟨⟨y0, q0⟩, ⟨y1, q1⟩, ⟨y2, q2⟩, ⟨y3, q3⟩, ⟨y4, q4⟩, ⟨y5, q5⟩, ⟨y6, q6⟩, ⟨y7, q7⟩, ⟨y8, q8⟩, ⟨y9, q9⟩, ⟨y10, q10⟩, ⟨y11, q11⟩, ⟨y12, q12⟩, ⟨y13, q13⟩, y14, q14⟩ := c15 zC5)
        | (go_at_call 7; have tag := nAB; refine Calls.mono (HS.out wb g q r g4 k4 hr4 hk4 (SRow.own ox) (SRow.own oy) HRF.out) ?_; rintro e wd' ⟨o, ta7, tc7, pa7, pc7, la7, lc7, qa7, qc7, ma7, mc7, da7, dc7, rfl, hto, hrd, hbd⟩; have HRD : Hid _ := And.intro hto hrd; clear hto hrd ox oy hr3 hr4 hk3 hk4 ho; have B5 : Below w2.heap.size w2 wd' := B4.trans (hbd.mono B4.size); have nD := nAB))
    all_goals (go_wp2_with fail; go_meet)
    all_goals first
      | (have tag := zA5
         exact ⟨_, o, ta7, tc7, pa7, pc7, la7, lc7, qa7, qc7, ma7, mc7, da7, dc7, rfl, set15 zA5 _ _ _ _ _ _ _ _ _ _ _ _ _ _ _, HRD.out.1, HRD.out.2 [_] _ (by simpa using hlt5) (tn15 wd' _ _ _ _ _ _ _ _ _ _ _ _ _ _ _ _), B5.trans ((tn15 wd' _ _ _ _ _ _ _ _ _ _ _ _ _ _ _ _).below B5.size (by simp))⟩)
      | (have tag := zB5
         exact ⟨_, o, ta7, tc7, pa7, pc7, la7, lc7, qa7, qc7, ma7, mc7, da7, dc7, rfl, set15 zB5 _ _ _ _ _ _ _ _ _ _ _ _ _ _ _, HRD.out.1, HRD.out.2 [_] _ (by simpa using hlt5) (tn15 wd' _ _ _ _ _ _ _ _ _ _ _ _ _ _ _ _), B5.trans ((tn15 wd' _ _ _ _ _ _ _ _ _ _ _ _ _ _ _ _).below B5.size (by simpa using hsb5))⟩)
      | (have tag := zC5
         exact ⟨_, o, ta7, tc7, pa7, pc7, la7, lc7, qa7, qc7, ma7, mc7, da7, dc7, rfl, set15 zC5 _ _ _ _ _ _ _ _ _ _ _ _ _ _ _, HRD.out.1, HRD.out.2 [_] _ (by simp) (tn15 wd' _ _ _ _ _ _ _ _ _ _ _ _ _ _ _ _), B5.trans ((tn15 wd' _ _ _ _ _ _ _ _ _ _ _ _ _ _ _ _).below B5.size (by simpa using hsb5))⟩)
      | (have tag := nD
         exact ⟨_, o, ta7, tc7, pa7, pc7, la7, lc7, qa7, qc7, ma7, mc7, da7, dc7, rfl, CellsAt.new wd' _ _, HRD.out.1, HRD.out.2 [] _ (by simp) (Tn.of ((Below.refl _ _).alloc (Nat.le_refl _) _)), B5.alloc B5.size _⟩)
  case rest =>
  obtain ⟨B8, o, ta3, tc3, pa3, pc3, la3, lc3, qa3, qc3, ma3, mc3, da3, dc3, rfl, H8⟩ := hcut
  clear HS
  have hB3 := hB2.trans (H8.out.2.2.2.mono hB2.size)
  have hlt8 : B8 < wc.heap.size := H8.out.1.lt
  have hw2z := HRX.out.2.2.2.2.2.2
  have hcz := H8.out.2.2.2.size
  have hget := CRd.get H8.out.2.2.1
  have HTo : Hid (UnitTo wd now given births ks ps ls ph top at_ ro qs ms o) := H8.out.2.1
  have HSm : Hid (Small o) := H8.out.2.1.small
  obtain ⟨L, hL⟩ : ∃ L, L = wc.heap.size := ⟨_, rfl⟩
  have E : Hid (E1 w wc L B8 wd now given births ph top at_ ro (.slice a ks.length ac) (.slice p ps.length pc) (.slice l ls.length lc) (.slice qa qs.length qac) (.slice ma ms.length mac) o ta3 pa3 la3 qa3 ma3 da3 tc3 pc3 lc3 qc3 mc3 dc3) := ⟨SBox.below HSX.out H8.out.2.2.2, RBox.below HRX.out H8.out.2.2.2, H8.out.1, hL ▸ hget.1.k, hL ▸ hget.1.p, hL ▸ hget.1.l, hL ▸ hget.2.1, hL ▸ hget.2.2.1, hL ▸ hget.2.2.2, hB3, by omega, by omega, by omega⟩
  clear HSX HRX H8 hB2 hcz hw2z hlt8 hget
  as_aux_lemma =>
  obtain ⟨y0, y1, y2, y3, y4, y5, y6, y7⟩ := E.out.sx
  go_wp2_with fail
  refine (HT.out wc hB3).mono ?_
  rintro e w4 ⟨g4, q4, r4, rfl, ho4, hw4⟩
  have hB4 := hB3.trans (hw4.mono hB3.size)
  rw [← hL] at ho4
  clear y0 y1 y2 y3 y4 y5 y6 y7
  replace E : Hid _ := E1.keep E.out (hw4.mono E.out.le)
  have R9 : Hid _ := ho4.rows
  have SO : Hid _ := ho4
  have hz4 : L ≤ w4.heap.size := by have := hw4.size; omega
  clear ho4 hw4 hB3
  obtain ⟨x0, x1, x2, x3, x4, x5, x6⟩ := E.out.rx
  obtain ⟨W4, hW4⟩ : ∃ W, W = w4.alloc (.cells #[.int .i64 wd, .int .i64 now, .int .i64 given, .int .i64 births, .slice (some ⟨g4, 0, none⟩) ks.length ks.length, .slice (some ⟨q4, 0, none⟩) ps.length ps.length, .slice (some ⟨r4, 0, none⟩) ls.length ls.length] 36) := ⟨_, rfl⟩
  have h44 : Below w4.heap.size w4 W4 := by rw [hW4]; exact (Below.refl _ _).alloc (Nat.le_refl _) _
  have X9 : Hid (SBox W4 w4.heap.size wd now given births (.slice (some ⟨g4, 0, none⟩) ks.length ks.length) (.slice (some ⟨q4, 0, none⟩) ps.length ps.length) (.slice (some ⟨r4, 0, none⟩) ls.length ls.length)) := by show SBox W4 w4.heap.size wd now given births (.slice (some ⟨g4, 0, none⟩) ks.length ks.length) (.slice (some ⟨q4, 0, none⟩) ps.length ps.length) (.slice (some ⟨r4, 0, none⟩) ls.length ls.length); rw [hW4]; exact SBox.new _ _ _ _ _ _ _ _ _
  have O9 : Hid (Below w4.heap.size w4 W4) := h44
  have s4 : W4.heap.size = w4.heap.size + 1 := by rw [hW4]; simp
  replace E : Hid _ := E1.keep E.out (h44.mono E.out.le)
  replace R9 : Hid _ := SRows.below' R9.out h44
  have hB4' := E.out.bel
  have HW4 : Hid _ := hW4
  clear h44 hW4
  go_wp2_with fail
  rw [← HW4.out]
  refine (HTR.out W4 hB4' HRF.out).mono ?_
  rintro e w5 ⟨g5, k5, rfl, _, _, ho5, ho5', hw5⟩
  replace E : Hid _ := E1.keep E.out (hw5.mono E.out.le)
  replace R9 : Hid _ := SRows.below' R9.out hw5
  replace X9 : Hid _ := SBox.below X9.out hw5
  replace O9 : Hid _ := O9.out.trans (hw5.mono O9.out.size)
  have lg5 := ho5.lt g5 rfl
  have lk5 := ho5'.lt k5 rfl
  have hz5 := hw5.size
  have O10 : Hid _ := And.intro ho5 ho5'
  clear x0 x1 x2 x3 x4 x5 x6 ho5 ho5' hw5 hB4 hB4' HW4
  obtain ⟨y0, y1, y2, y3, y4, y5, y6, y7⟩ := X9.out
  obtain ⟨W5, hW5⟩ : ∃ W, W = w5.alloc (.cells #[.int .i64 ph, .slice (some ⟨g5, 0, none⟩) qs.length qs.length, .slice (some ⟨k5, 0, none⟩) ms.length ms.length, .int .i64 top, .int .i64 at_, .int .i64 ro] 37) := ⟨_, rfl⟩
  have h55 : Below w5.heap.size w5 W5 := by rw [hW5]; exact (Below.refl _ _).alloc (Nat.le_refl _) _
  have X10 : Hid (RBox W5 w5.heap.size ph (.slice (some ⟨g5, 0, none⟩) qs.length qs.length) (.slice (some ⟨k5, 0, none⟩) ms.length ms.length) top at_ ro) := by show RBox W5 w5.heap.size ph (.slice (some ⟨g5, 0, none⟩) qs.length qs.length) (.slice (some ⟨k5, 0, none⟩) ms.length ms.length) top at_ ro; rw [hW5]; exact RBox.new _ _ _ _ _ _ _ _
  have s5 : W5.heap.size = w5.heap.size + 1 := by rw [hW5]; simp
  replace E : Hid _ := E1.keep E.out (h55.mono E.out.le)
  replace R9 : Hid _ := SRows.below' R9.out h55
  replace X9 : Hid _ := SBox.below X9.out h55
  replace O9 : Hid _ := O9.out.trans (h55.mono O9.out.size)
  replace O10 : Hid _ := And.intro (own_keep O10.out.1 h55) (own_keep O10.out.2 h55)
  have HW5 : Hid _ := hW5
  clear h55 hW5
  as_aux_lemma =>
  go_wp2_with fail
  rw [← HW5.out]
  refine (HI.out W5 g4 q4 r4 g5 k5 R9.out (SRow.own O10.out.1) (SRow.own O10.out.2) HRF.out).mono ?_
  rintro e w6 ⟨o6, ta6, tc6, pa6, pc6, la6, lc6, qa6, qc6, ma6, mc6, da6, dc6, rs, rfl, hto6, hA6, hw6⟩
  obtain rfl : o = o6 := HTo.out.det hto6
  replace E : Hid _ := E1.keep E.out (hw6.mono E.out.le)
  replace R9 : Hid _ := SRows.below' R9.out hw6
  replace X9 : Hid _ := SBox.below X9.out hw6
  replace O9 : Hid _ := O9.out.trans (hw6.mono O9.out.size)
  replace X10 : Hid _ := RBox.below X10.out hw6
  replace O10 : Hid _ := And.intro (own_keep O10.out.1 hw6) (own_keep O10.out.2 hw6)
  have HV6 : Hid (∀ g ∈ cB (.slice ta6 o.r.ks.length tc6) (.slice pa6 o.ps.length pc6) (.slice la6 o.ls.length lc6) (.slice qa6 o.r.qs.length qc6) (.slice ma6 o.r.ms.length mc6) (.slice da6 o.r.ds.length dc6) rs, W5.heap.size ≤ g ∧ g < w6.heap.size) := hA6.blk
  have hz6 := hw6.size
  have O11 : Hid (CAns w6 W5.heap.size (.slice ta6 o.r.ks.length tc6) (.slice pa6 o.ps.length pc6) (.slice la6 o.ls.length lc6) (.slice qa6 o.r.qs.length qc6) (.slice ma6 o.r.ms.length mc6) (.slice da6 o.r.ds.length dc6) rs o.r.ks o.ps o.ls o.r.qs o.r.ms o.r.ds) := hA6
  clear y0 y1 y2 y3 y4 y5 y6 y7 hA6 hto6 hw6 HW5
  obtain ⟨W6, hW6⟩ : ∃ W, W = w6.alloc (.cells #[.int .i64 o.code, .int .i64 o.wd, .int .i64 o.now, .int .i64 o.given, .int .i64 o.births, .slice ta6 o.r.ks.length tc6, .slice pa6 o.ps.length pc6, .slice la6 o.ls.length lc6, .int .i64 o.r.ph, .slice qa6 o.r.qs.length qc6, .slice ma6 o.r.ms.length mc6, .int .i64 o.r.top, .int .i64 o.r.at_, .int .i64 o.r.ro, .slice da6 o.r.ds.length dc6] 39) := ⟨_, rfl⟩
  have h66 : Below w6.heap.size w6 W6 := by rw [hW6]; exact (Below.refl _ _).alloc (Nat.le_refl _) _
  have X11 : Hid (CellsAt W6 w6.heap.size [.int .i64 o.code, .int .i64 o.wd, .int .i64 o.now, .int .i64 o.given, .int .i64 o.births, .slice ta6 o.r.ks.length tc6, .slice pa6 o.ps.length pc6, .slice la6 o.ls.length lc6, .int .i64 o.r.ph, .slice qa6 o.r.qs.length qc6, .slice ma6 o.r.ms.length mc6, .int .i64 o.r.top, .int .i64 o.r.at_, .int .i64 o.r.ro, .slice da6 o.r.ds.length dc6]) := by show CellsAt W6 w6.heap.size [.int .i64 o.code, .int .i64 o.wd, .int .i64 o.now, .int .i64 o.given, .int .i64 o.births, .slice ta6 o.r.ks.length tc6, .slice pa6 o.ps.length pc6, .slice la6 o.ls.length lc6, .int .i64 o.r.ph, .slice qa6 o.r.qs.length qc6, .slice ma6 o.r.ms.length mc6, .int .i64 o.r.top, .int .i64 o.r.at_, .int .i64 o.r.ro, .slice da6 o.r.ds.length dc6]; rw [hW6]; exact CellsAt.new w6 _ _
  have s6 : W6.heap.size = w6.heap.size + 1 := by rw [hW6]; simp
  replace E : Hid _ := E1.keep E.out (h66.mono E.out.le)
  replace R9 : Hid _ := SRows.below' R9.out h66
  replace X9 : Hid _ := SBox.below X9.out h66
  replace O9 : Hid _ := O9.out.trans (h66.mono O9.out.size)
  replace X10 : Hid _ := RBox.below X10.out h66
  replace O10 : Hid _ := And.intro (own_keep O10.out.1 h66) (own_keep O10.out.2 h66)
  replace O11 : Hid _ := CAns.below O11.out h66
  have HW6 : Hid _ := hW6
  clear h66 hW6
  as_aux_lemma =>
  go_upto_region 12 with fail
  rw [← HW6.out]
  clear HW6
  obtain ⟨⟨y0, _⟩, ⟨y1, _⟩, ⟨y2, _⟩, ⟨y3, _⟩, ⟨y4, _⟩, ⟨y5, _⟩, ⟨y6, _⟩, ⟨y7, _⟩, ⟨y8, _⟩, ⟨y9, _⟩, ⟨y10, _⟩, ⟨y11, _⟩, ⟨y12, _⟩, ⟨y13, _⟩, y14, _⟩ := c15 E.out.r8
  obtain ⟨⟨v0, _⟩, ⟨v1, _⟩, ⟨v2, _⟩, ⟨v3, _⟩, ⟨v4, _⟩, ⟨v5, _⟩, ⟨v6, _⟩, ⟨v7, _⟩, ⟨v8, _⟩, ⟨v9, _⟩, ⟨v10, _⟩, ⟨v11, _⟩, ⟨v12, _⟩, ⟨v13, _⟩, v14, _⟩ := c15 X11.out
  have hR6 := O11.out.rd.get
  go_wp2_with fail
  refine (eqCleared_row o.code o.wd o.now o.given o.births o.r.ph o.r.top o.r.at_ o.r.ro ta6 pa6 la6 qa6 ma6 da6 tc6 pc6 lc6 qc6 mc6 dc6 ta3 pa3 la3 qa3 ma3 da3 tc3 pc3 lc3 qc3 mc3 dc3 o.r.ks o.ps o.ls o.r.qs o.r.ms o.r.ds W6 hR6.1 hR6.2.1 hR6.2.2.1 hR6.2.2.2 E.out.st (E.out.q.mono E.out.le) (E.out.m.mono E.out.le) (E.out.d.mono E.out.le) HSm.out.fit.1 HSm.out.fit.2.1 HSm.out.fit.2.2).mono ?_
  rintro e w7 ⟨rfl, hw7⟩
  clear y0 y1 y2 y3 y4 y5 y6 y7 y8 y9 y10 y11 y12 y13 y14 v0 v1 v2 v3 v4 v5 v6 v7 v8 v9 v10 v11 v12 v13 v14 hR6
  try generalize (.agg #[.int .i64 o.code, .int .i64 o.wd, .int .i64 o.now, .int .i64 o.given, .int .i64 o.births, .slice ta6 o.r.ks.length tc6, .slice pa6 o.ps.length pc6, .slice la6 o.ls.length lc6, .int .i64 o.r.ph, .slice qa6 o.r.qs.length qc6, .slice ma6 o.r.ms.length mc6, .int .i64 o.r.top, .int .i64 o.r.at_, .int .i64 o.r.ro, .slice da6 o.r.ds.length dc6] : Value) = dv0
  try generalize (.agg #[.int .i64 o.code, .int .i64 o.wd, .int .i64 o.now, .int .i64 o.given, .int .i64 o.births, .slice ta3 o.r.ks.length tc3, .slice pa3 o.ps.length pc3, .slice la3 o.ls.length lc3, .int .i64 o.r.ph, .slice qa3 o.r.qs.length qc3, .slice ma3 o.r.ms.length mc3, .int .i64 o.r.top, .int .i64 o.r.at_, .int .i64 o.r.ro, .slice da3 o.r.ds.length dc3] : Value) = dv1
  try generalize (.agg #[.int .i64 wd, .int .i64 now, .int .i64 given, .int .i64 births, .slice (some ⟨g4, 0, none⟩) ks.length ks.length, .slice (some ⟨q4, 0, none⟩) ps.length ps.length, .slice (some ⟨r4, 0, none⟩) ls.length ls.length] : Value) = dv2
  try generalize (.agg #[.int .i64 ph, .slice (some ⟨g5, 0, none⟩) qs.length qs.length, .slice (some ⟨k5, 0, none⟩) ms.length ms.length, .int .i64 top, .int .i64 at_, .int .i64 ro] : Value) = dv3
  try generalize (.agg #[.int .i64 wd, .int .i64 now, .int .i64 given, .int .i64 births, .slice a ks.length ac, .slice p ps.length pc, .slice l ls.length lc] : Value) = dv4
  try generalize (.agg #[.int .i64 ph, .slice qa qs.length qac, .slice ma ms.length mac, .int .i64 top, .int .i64 at_, .int .i64 ro] : Value) = dv5
  replace E : Hid _ := E1.keep E.out (hw7.mono E.out.le)
  replace R9 : Hid _ := SRows.below' R9.out hw7
  replace X9 : Hid _ := SBox.below X9.out hw7
  replace O9 : Hid _ := O9.out.trans (hw7.mono O9.out.size)
  replace X10 : Hid _ := RBox.below X10.out hw7
  replace O10 : Hid _ := And.intro (own_keep O10.out.1 hw7) (own_keep O10.out.2 hw7)
  replace X11 : Hid _ := CellsAt.below X11.out hw7
  replace O11 : Hid _ := CAns.below O11.out hw7
  have hz7 := hw7.size
  clear hw7
  as_aux_lemma =>
  have hB7 := E.out.bel
  obtain ⟨x0, x1, x2, x3, x4, x5, x6, x7⟩ := X9.out
  obtain ⟨y0, y1, y2, y3, y4, y5, y6, y7⟩ := E.out.sx
  go_upto_region 14 with fail
  go_cut [44] (fun v wx => v = .bool false ∧ Below w7.heap.size w7 wx)
  case first =>
    go_region_with (first
      | (go_at_call 8; refine (HT.out _ hB7.drew).mono ?_; rintro e w8 ⟨g7, q7, r7, rfl, ho7, hw8⟩; have h78 : Below w7.heap.size w7 w8 := (Below.refl w7.heap.size w7).drew.trans hw8; obtain ⟨z0, z1, z2, z3, z4, z5, z6, z7⟩ := SBox.below X9.out h78; have hr7 := ho7.rows; have hr47 := SRows.below' R9.out h78)
      | (go_at_call 12; refine (eqState_yes wd now given births _ _ _ _ _ _ _ _ _ _ _ _ ks ps ls _ hr47 hr7 HFit.out.1).mono ?_; rintro e w9 ⟨rfl, hw9⟩; have h79 := h78.trans (hw9.mono h78.size)))
    all_goals (go_wp2_with fail; go_meet; exact ⟨rfl, h79⟩)
  case rest =>
  revert wc
  intro w8 hcut
  obtain ⟨rfl, hw8⟩ := hcut
  clear x0 x1 x2 x3 x4 x5 x6 x7 y0 y1 y2 y3 y4 y5 y6 y7 hB7 R9
  replace E : Hid _ := E1.keep E.out (hw8.mono E.out.le)
  replace X9 : Hid _ := SBox.below X9.out hw8
  replace O9 : Hid _ := O9.out.trans (hw8.mono O9.out.size)
  replace X10 : Hid _ := RBox.below X10.out hw8
  replace O10 : Hid _ := And.intro (own_keep O10.out.1 hw8) (own_keep O10.out.2 hw8)
  replace X11 : Hid _ := CellsAt.below X11.out hw8
  replace O11 : Hid _ := CAns.below O11.out hw8
  have hz8 := hw8.size
  clear hw8
  as_aux_lemma =>
  have hB8 := E.out.bel
  obtain ⟨x0, x1, x2, x3, x4, x5, x6⟩ := X10.out
  obtain ⟨y0, y1, y2, y3, y4, y5, y6⟩ := E.out.rx
  go_upto_region 16 with fail
  go_cut [49] (fun v wx => v = .bool false ∧ Below w8.heap.size w8 wx)
  case first =>
    go_region_with (first
      | (go_at_call 9; refine (HTR.out _ hB8.drew HRF.out).mono ?_; rintro e w9 ⟨g9, k9, rfl, _, _, ho9, ho9', hw9⟩; have h89 : Below w8.heap.size w8 w9 := (Below.refl w8.heap.size w8).drew.trans hw9; obtain ⟨z0, z1, z2, z3, z4, z5, z6⟩ := RBox.below X10.out h89; have hq9 := SRow.own ho9; have hm9 := SRow.own ho9'; have hq59 := SRow.below' (SRow.own O10.out.1) h89; have hm59 := SRow.below' (SRow.own O10.out.2) h89)
      | (go_at_call 13; refine (eqRound_yes ph top at_ ro _ _ _ _ _ _ _ _ qs ms _ hq59 hm59 hq9 hm9 HRF.out).mono ?_; rintro e w10 ⟨rfl, hw10⟩; have h810 := h89.trans (hw10.mono h89.size)))
    all_goals (go_wp2_with fail; go_meet; exact ⟨rfl, h810⟩)
  case rest =>
  revert wc
  intro w10 hcut
  obtain ⟨rfl, hw10⟩ := hcut
  clear x0 x1 x2 x3 x4 x5 x6 y0 y1 y2 y3 y4 y5 y6 hB8
  replace E : Hid _ := E1.keep E.out (hw10.mono E.out.le)
  replace X9 : Hid _ := SBox.below X9.out hw10
  replace O9 : Hid _ := O9.out.trans (hw10.mono O9.out.size)
  replace X10 : Hid _ := RBox.below X10.out hw10
  replace O10 : Hid _ := And.intro (own_keep O10.out.1 hw10) (own_keep O10.out.2 hw10)
  replace X11 : Hid _ := CellsAt.below X11.out hw10
  replace O11 : Hid _ := CAns.below O11.out hw10
  have hz10 := hw10.size
  clear hw10
  as_aux_lemma =>
  obtain ⟨x0, x1, x2, x3, x4, x5, x6, x7⟩ := X9.out
  go_wp2_with fail
  refine (markState_any wd now given births L g4 q4 r4 1 ks ps ls w4 w10 SO.out O9.out HFit.out.1 HFit.out.2 (by omega) (by omega)).mono ?_
  rintro e w11 ⟨⟨K1, rfl, hK1, hK1'⟩, hb11, _, hf11⟩
  have hz11 := hb11.size
  replace E : Hid _ := E1.keep E.out hb11
  replace X10 : Hid _ := RBox.blk X10.out (hf11 _ (by omega) (by omega)) hz11
  replace X11 : Hid _ := CellsAt.same X11.out (hf11 _ (by omega) (by omega))
  replace O10 : Hid _ := And.intro (own_blk O10.out.1 (fun j hj => hf11 j (by simp [Value.ownBlock] at hj; omega) (by simp [Value.ownBlock] at hj; omega))) (own_blk O10.out.2 (fun j hj => hf11 j (by simp [Value.ownBlock] at hj; omega) (by simp [Value.ownBlock] at hj; omega)))
  replace O11 : Hid _ := CAns.same O11.out hz11 (fun j hj hj' => hf11 j (by omega) (by omega))
  clear x0 x1 x2 x3 x4 x5 x6 x7 hb11 hf11 X9 O9 SO
  obtain ⟨x0, x1, x2, x3, x4, x5, x6⟩ := X10.out
  go_wp2_with fail
  refine (markRound_any ph top at_ ro _ _ _ _ _ _ K1 _ _ _ _ w11 O10.out.1 O10.out.2 (.inr (by simp [Value.ownBlock]; omega)) (by omega) (by omega)).mono ?_
  rintro e w12 ⟨rfl, _, _, ht12⟩
  have hz12 := ht12.size
  replace E : Hid _ := E1.keep E.out (ht12.below (by omega) (fun j hj => by simp [Value.ownBlock] at hj; omega) (fun j hj => by simp [Value.ownBlock] at hj; omega))
  replace X11 : Hid _ := CellsAt.same X11.out (ht12.block _ (by omega) (by simp [Value.ownBlock]; omega) (by simp [Value.ownBlock]; omega))
  replace O11 : Hid _ := CAns.same O11.out hz12 (fun j hj hj' => ht12.block j hj' (by simp [Value.ownBlock]; omega) (by simp [Value.ownBlock]; omega))
  clear x0 x1 x2 x3 x4 x5 x6 ht12 X10 O10
  as_aux_lemma =>
  have hnn : decide ((K1 : Int) + qs.length + ms.length < 0) = false := by simp; omega
  obtain ⟨⟨y0, _⟩, ⟨y1, _⟩, ⟨y2, _⟩, ⟨y3, _⟩, ⟨y4, _⟩, ⟨y5, _⟩, ⟨y6, _⟩, ⟨y7, _⟩, ⟨y8, _⟩, ⟨y9, _⟩, ⟨y10, _⟩, ⟨y11, _⟩, ⟨y12, _⟩, ⟨y13, _⟩, y14, _⟩ := c15 E.out.r8
  obtain ⟨⟨v0, _⟩, ⟨v1, _⟩, ⟨v2, _⟩, ⟨v3, _⟩, ⟨v4, _⟩, ⟨v5, _⟩, ⟨v6, _⟩, ⟨v7, _⟩, ⟨v8, _⟩, ⟨v9, _⟩, ⟨v10, _⟩, ⟨v11, _⟩, ⟨v12, _⟩, ⟨v13, _⟩, v14, _⟩ := c15 X11.out
  have hR6 := O11.out.rd.get
  go_wp2_with fail
  refine (eqCleared_row o.code o.wd o.now o.given o.births o.r.ph o.r.top o.r.at_ o.r.ro ta6 pa6 la6 qa6 ma6 da6 tc6 pc6 lc6 qc6 mc6 dc6 ta3 pa3 la3 qa3 ma3 da3 tc3 pc3 lc3 qc3 mc3 dc3 o.r.ks o.ps o.ls o.r.qs o.r.ms o.r.ds w12 hR6.1 hR6.2.1 hR6.2.2.1 hR6.2.2.2 E.out.st (E.out.q.mono E.out.le) (E.out.m.mono E.out.le) (E.out.d.mono E.out.le) HSm.out.fit.1 HSm.out.fit.2.1 HSm.out.fit.2.2).mono ?_
  rintro e w13 ⟨rfl, hw13⟩
  clear y0 y1 y2 y3 y4 y5 y6 y7 y8 y9 y10 y11 y12 y13 y14 v0 v1 v2 v3 v4 v5 v6 v7 v8 v9 v10 v11 v12 v13 v14 hR6
  try generalize (.agg #[.int .i64 o.code, .int .i64 o.wd, .int .i64 o.now, .int .i64 o.given, .int .i64 o.births, .slice ta6 o.r.ks.length tc6, .slice pa6 o.ps.length pc6, .slice la6 o.ls.length lc6, .int .i64 o.r.ph, .slice qa6 o.r.qs.length qc6, .slice ma6 o.r.ms.length mc6, .int .i64 o.r.top, .int .i64 o.r.at_, .int .i64 o.r.ro, .slice da6 o.r.ds.length dc6] : Value) = dv0
  try generalize (.agg #[.int .i64 o.code, .int .i64 o.wd, .int .i64 o.now, .int .i64 o.given, .int .i64 o.births, .slice ta3 o.r.ks.length tc3, .slice pa3 o.ps.length pc3, .slice la3 o.ls.length lc3, .int .i64 o.r.ph, .slice qa3 o.r.qs.length qc3, .slice ma3 o.r.ms.length mc3, .int .i64 o.r.top, .int .i64 o.r.at_, .int .i64 o.r.ro, .slice da3 o.r.ds.length dc3] : Value) = dv1
  try generalize (.agg #[.int .i64 wd, .int .i64 now, .int .i64 given, .int .i64 births, .slice (some ⟨g4, 0, none⟩) ks.length ks.length, .slice (some ⟨q4, 0, none⟩) ps.length ps.length, .slice (some ⟨r4, 0, none⟩) ls.length ls.length] : Value) = dv2
  try generalize (.agg #[.int .i64 ph, .slice (some ⟨g5, 0, none⟩) qs.length qs.length, .slice (some ⟨k5, 0, none⟩) ms.length ms.length, .int .i64 top, .int .i64 at_, .int .i64 ro] : Value) = dv3
  replace E : Hid _ := E1.keep E.out (hw13.mono E.out.le)
  replace X11 : Hid _ := CellsAt.below X11.out hw13
  replace O11 : Hid _ := CAns.below O11.out hw13
  have hz13 := hw13.size
  clear hw13
  as_aux_lemma =>
  obtain ⟨⟨v0, _⟩, ⟨v1, _⟩, ⟨v2, _⟩, ⟨v3, _⟩, ⟨v4, _⟩, ⟨v5, _⟩, ⟨v6, _⟩, ⟨v7, _⟩, ⟨v8, _⟩, ⟨v9, _⟩, ⟨v10, _⟩, ⟨v11, _⟩, ⟨v12, _⟩, ⟨v13, _⟩, v14, _⟩ := c15 X11.out
  go_wp2_with fail
  refine (markClearedO o.code o.wd o.now o.given o.births o.r.ph o.r.top o.r.at_ o.r.ro W5.heap.size 1 _ _ _ _ _ _ rs o.r.ks o.ps o.ls o.r.qs o.r.ms o.r.ds w13 O11.out (Nat.le_refl _) HSm.out.count).mono ?_
  rintro e w14 ⟨rfl, hA14, ht14⟩
  have hz14 := ht14.size
  replace E : Hid _ := E1.keep E.out (ht14.below (by omega) (fun j hj => by have := HV6.out j hj; omega))
  replace X11 : Hid _ := CellsAt.same X11.out (ht14.block _ (by omega) (fun e => by have := HV6.out _ e; omega))
  have HC14 : Hid _ := hA14
  clear v0 v1 v2 v3 v4 v5 v6 v7 v8 v9 v10 v11 v12 v13 v14 ht14 hA14 O11
  try generalize (.agg #[.int .i64 o.code, .int .i64 o.wd, .int .i64 o.now, .int .i64 o.given, .int .i64 o.births, .slice ta6 o.r.ks.length tc6, .slice pa6 o.ps.length pc6, .slice la6 o.ls.length lc6, .int .i64 o.r.ph, .slice qa6 o.r.qs.length qc6, .slice ma6 o.r.ms.length mc6, .int .i64 o.r.top, .int .i64 o.r.at_, .int .i64 o.r.ro, .slice da6 o.r.ds.length dc6] : Value) = dv0
  have hcnt := HSm.out.count
  obtain ⟨nn, hnn2⟩ : ∃ nn, nn = 1 + cntS o.r.ks o.ps o.ls + o.r.qs.length + o.r.ms.length + o.r.ds.length := ⟨_, rfl⟩
  have HHeld : Hid (∀ W, CAns W W5.heap.size (.slice ta6 o.r.ks.length tc6) (.slice pa6 o.ps.length pc6) (.slice la6 o.ls.length lc6) (.slice qa6 o.r.qs.length qc6) (.slice ma6 o.r.ms.length mc6) (.slice da6 o.r.ds.length dc6) rs (markK 1 o.r.ks) (markP (1 + o.r.ks.length * 3 + refsN o.r.ks) o.ps) (markL (1 + o.r.ks.length * 3 + refsN o.r.ks + o.ps.length * 2) o.ls) (marks (1 + cntS o.r.ks o.ps o.ls) o.r.qs.length) (marks (1 + cntS o.r.ks o.ps o.ls + o.r.qs.length) o.r.ms.length) (marks (1 + cntS o.r.ks o.ps o.ls + o.r.qs.length + o.r.ms.length) o.r.ds.length) → Calls Tryz.prog 17 #[.agg #[.int .i64 o.code, .int .i64 o.wd, .int .i64 o.now, .int .i64 o.given, .int .i64 o.births, .slice ta6 o.r.ks.length tc6, .slice pa6 o.ps.length pc6, .slice la6 o.ls.length lc6, .int .i64 o.r.ph, .slice qa6 o.r.qs.length qc6, .slice ma6 o.r.ms.length mc6, .int .i64 o.r.top, .int .i64 o.r.at_, .int .i64 o.r.ro, .slice da6 o.r.ds.length dc6], .int .i64 1] W fun e w' => e = .returned (.int .i64 (nn : Int)) ∧ Below W.heap.size W w') := fun W hW => by
    rw [hnn2]
    exact heldClearedO o.code o.wd o.now o.given o.births o.r.ph o.r.top o.r.at_ o.r.ro W5.heap.size 1 _ _ _ _ _ _ rs o.r.ks o.ps o.ls o.r.qs o.r.ms o.r.ds W hW (Nat.le_refl _) HSm.out.count
  rw [← hnn2] at hcnt ⊢
  have hnq : decide ((nn : Int) < 0) = false := by simp
  have hne : ((nn : Int) != (nn : Int)) = false := by simp
  clear hnn2
  as_aux_lemma =>
  obtain ⟨⟨v0, _⟩, ⟨v1, _⟩, ⟨v2, _⟩, ⟨v3, _⟩, ⟨v4, _⟩, ⟨v5, _⟩, ⟨v6, _⟩, ⟨v7, _⟩, ⟨v8, _⟩, ⟨v9, _⟩, ⟨v10, _⟩, ⟨v11, _⟩, ⟨v12, _⟩, ⟨v13, _⟩, v14, _⟩ := c15 X11.out
  go_wp2_with fail
  refine (HHeld.out w14 HC14.out).mono ?_
  rintro e w15 ⟨rfl, hw15⟩
  clear v0 v1 v2 v3 v4 v5 v6 v7 v8 v9 v10 v11 v12 v13 v14
  try generalize (.agg #[.int .i64 o.code, .int .i64 o.wd, .int .i64 o.now, .int .i64 o.given, .int .i64 o.births, .slice ta6 o.r.ks.length tc6, .slice pa6 o.ps.length pc6, .slice la6 o.ls.length lc6, .int .i64 o.r.ph, .slice qa6 o.r.qs.length qc6, .slice ma6 o.r.ms.length mc6, .int .i64 o.r.top, .int .i64 o.r.at_, .int .i64 o.r.ro, .slice da6 o.r.ds.length dc6] : Value) = dv0
  replace E : Hid _ := E1.keep E.out (hw15.mono E.out.le)
  replace X11 : Hid _ := CellsAt.below X11.out hw15
  replace HC14 : Hid _ := CAns.below HC14.out hw15
  have hz15 := hw15.size
  clear hw15
  as_aux_lemma =>
  have hB15 := E.out.bel
  go_upto_region 31 with fail
  go_cut [13] (fun v wx => ∃ (B8 : Nat) (o : UOut) (ta9 : Option Addr) (tc9 : Nat) (pa9 : Option Addr) (pc9 : Nat) (la9 : Option Addr) (lc9 : Nat) (qa9 : Option Addr) (qc9 : Nat) (ma9 : Option Addr) (mc9 : Nat) (da9 : Option Addr) (dc9 : Nat), v = .pointer (some ⟨B8, 0, none⟩) ∧ Hid (CellsAt wx B8 [.int .i64 o.code, .int .i64 o.wd, .int .i64 o.now, .int .i64 o.given, .int .i64 o.births, .slice ta9 o.r.ks.length tc9, .slice pa9 o.ps.length pc9, .slice la9 o.ls.length lc9, .int .i64 o.r.ph, .slice qa9 o.r.qs.length qc9, .slice ma9 o.r.ms.length mc9, .int .i64 o.r.top, .int .i64 o.r.at_, .int .i64 o.r.ro, .slice da9 o.r.ds.length dc9] ∧ UnitTo wd now given births ks ps ls ph top at_ ro qs ms o ∧ CRd wx (.slice ta9 o.r.ks.length tc9) (.slice pa9 o.ps.length pc9) (.slice la9 o.ls.length lc9) (.slice qa9 o.r.qs.length qc9) (.slice ma9 o.r.ms.length mc9) (.slice da9 o.r.ds.length dc9) o.r.ks o.ps o.ls o.r.qs o.r.ms o.r.ds ∧ Below w15.heap.size w15 wx))
  case first =>
    refine reg31 wd now given births a p l ac pc lc ks ps ls ph top at_ ro qa ma qac mac qs ms w w15 HT HTR HI2 HRF hB15 E.out.sx E.out.rx _ _ _ _ _ _ _ _ _ _ _ _ _ _ _ _ _ _ _ _ _ _ _ _ _ _ _ _ _ _ _ _ _ _ _ _ _ _ _ _ _ _ _ _ _ _ _ _ _ _ _ _ _ _ _ _ _ _ _ _ _ _ _ _ _ _ _ _ _ _ _ _ _ _ _ _ _ _ _ _ _ _ _ _ _ _ _ _ _ _ _ _ ?_
    first
      | (dsimp only; intro B8 o7 ta7 tc7 pa7 pc7 la7 lc7 qa7 qc7 ma7 mc7 da7 dc7 wx x75 x76 x77 x78 x79 hH; go_meet; exact ⟨B8, o7, ta7, tc7, pa7, pc7, la7, lc7, qa7, qc7, ma7, mc7, da7, dc7, rfl, hH⟩)
      | (intro B8 o7 ta7 tc7 pa7 pc7 la7 lc7 qa7 qc7 ma7 mc7 da7 dc7 wx x75 x76 x77 x78 x79 hH; dsimp only; go_meet; exact ⟨B8, o7, ta7, tc7, pa7, pc7, la7, lc7, qa7, qc7, ma7, mc7, da7, dc7, rfl, hH⟩)
      | (intro B8 o7 ta7 tc7 pa7 pc7 la7 lc7 qa7 qc7 ma7 mc7 da7 dc7 wx x75 x76 x77 x78 x79 hH; dsimp only; go_wp2_with fail; go_meet; exact ⟨B8, o7, ta7, tc7, pa7, pc7, la7, lc7, qa7, qc7, ma7, mc7, da7, dc7, rfl, hH⟩)
      | (intro B8 o7 ta7 tc7 pa7 pc7 la7 lc7 qa7 qc7 ma7 mc7 da7 dc7 wx x75 x76 x77 x78 x79 hH; go_meet; dsimp only; refine ⟨?_, ?_⟩)
  case rest =>
  revert wc
  intro w16 hcut
  obtain ⟨B9, o9, ta9, tc9, pa9, pc9, la9, lc9, qa9, qc9, ma9, mc9, da9, dc9, rfl, H9⟩ := hcut
  obtain rfl : o = o9 := HTo.out.det H9.out.2.1
  clear hB15 HT HTR HI HI2
  have hw16 := H9.out.2.2.2
  replace E : Hid _ := E1.keep E.out (hw16.mono E.out.le)
  replace X11 : Hid _ := CellsAt.below X11.out hw16
  replace HC14 : Hid _ := CAns.below HC14.out hw16
  have hz16 := hw16.size
  clear hw16
  as_aux_lemma =>
  obtain ⟨⟨y0, _⟩, ⟨y1, _⟩, ⟨y2, _⟩, ⟨y3, _⟩, ⟨y4, _⟩, ⟨y5, _⟩, ⟨y6, _⟩, ⟨y7, _⟩, ⟨y8, _⟩, ⟨y9, _⟩, ⟨y10, _⟩, ⟨y11, _⟩, ⟨y12, _⟩, ⟨y13, _⟩, y14, _⟩ := c15 E.out.r8
  obtain ⟨⟨v0, _⟩, ⟨v1, _⟩, ⟨v2, _⟩, ⟨v3, _⟩, ⟨v4, _⟩, ⟨v5, _⟩, ⟨v6, _⟩, ⟨v7, _⟩, ⟨v8, _⟩, ⟨v9, _⟩, ⟨v10, _⟩, ⟨v11, _⟩, ⟨v12, _⟩, ⟨v13, _⟩, v14, _⟩ := c15 H9.out.1
  have hR9 := CRd.get H9.out.2.2.1
  go_wp2_with fail
  refine (eqCleared_row o.code o.wd o.now o.given o.births o.r.ph o.r.top o.r.at_ o.r.ro ta9 pa9 la9 qa9 ma9 da9 tc9 pc9 lc9 qc9 mc9 dc9 ta3 pa3 la3 qa3 ma3 da3 tc3 pc3 lc3 qc3 mc3 dc3 o.r.ks o.ps o.ls o.r.qs o.r.ms o.r.ds w16 hR9.1 hR9.2.1 hR9.2.2.1 hR9.2.2.2 E.out.st (E.out.q.mono E.out.le) (E.out.m.mono E.out.le) (E.out.d.mono E.out.le) HSm.out.fit.1 HSm.out.fit.2.1 HSm.out.fit.2.2).mono ?_
  rintro e w17 ⟨rfl, hw17⟩
  clear y0 y1 y2 y3 y4 y5 y6 y7 y8 y9 y10 y11 y12 y13 y14 v0 v1 v2 v3 v4 v5 v6 v7 v8 v9 v10 v11 v12 v13 v14 hR9 H9
  try generalize (.agg #[.int .i64 o.code, .int .i64 o.wd, .int .i64 o.now, .int .i64 o.given, .int .i64 o.births, .slice ta9 o.r.ks.length tc9, .slice pa9 o.ps.length pc9, .slice la9 o.ls.length lc9, .int .i64 o.r.ph, .slice qa9 o.r.qs.length qc9, .slice ma9 o.r.ms.length mc9, .int .i64 o.r.top, .int .i64 o.r.at_, .int .i64 o.r.ro, .slice da9 o.r.ds.length dc9] : Value) = dv0
  try generalize (.agg #[.int .i64 o.code, .int .i64 o.wd, .int .i64 o.now, .int .i64 o.given, .int .i64 o.births, .slice ta3 o.r.ks.length tc3, .slice pa3 o.ps.length pc3, .slice la3 o.ls.length lc3, .int .i64 o.r.ph, .slice qa3 o.r.qs.length qc3, .slice ma3 o.r.ms.length mc3, .int .i64 o.r.top, .int .i64 o.r.at_, .int .i64 o.r.ro, .slice da3 o.r.ds.length dc3] : Value) = dv1
  replace E : Hid _ := E1.keep E.out (hw17.mono E.out.le)
  replace X11 : Hid _ := CellsAt.below X11.out hw17
  replace HC14 : Hid _ := CAns.below HC14.out hw17
  clear hw17
  as_aux_lemma =>
  obtain ⟨⟨v0, _⟩, ⟨v1, _⟩, ⟨v2, _⟩, ⟨v3, _⟩, ⟨v4, _⟩, ⟨v5, _⟩, ⟨v6, _⟩, ⟨v7, _⟩, ⟨v8, _⟩, ⟨v9, _⟩, ⟨v10, _⟩, ⟨v11, _⟩, ⟨v12, _⟩, ⟨v13, _⟩, v14, _⟩ := c15 X11.out
  go_wp2_with fail
  refine (HHeld.out w17 HC14.out).mono ?_
  rintro e w18 ⟨rfl, hw18⟩
  have HE : Hid (Below w.heap.size w w18) := E.out.bel.trans (hw18.mono E.out.bel.size)
  clear v0 v1 v2 v3 v4 v5 v6 v7 v8 v9 v10 v11 v12 v13 v14 hw18
  go_wp2
  go_ret
  exact ⟨rfl, HE.out⟩
set_option maxRecDepth 100000 in
theorem lifted (os : Os) (started : os.Started) (H : Type) (enc : TypeId × Value → H) :
    ReturnsInHanded {} Tryz.checked os 3 .any (Rows.fnExactUnitSpec.pre6 enc Tryz.prog Tryz.f3 Rows.fnExactUnitRow.domain false) (Rows.fnExactUnitSpec.post enc Tryz.prog Tryz.f3 false true false false) := by
  refine returnsInHanded_of_change (C := Tryz.checked) own started (by kernel_rfl) Tryz.func3
    (ChangeSpec.witness6 (enc := enc) (C := Tryz.checked) false ⟨#[], #[.agg #[.int .i64 0, .int .i64 0, .int .i64 0, .int .i64 0, .slice none 0 0, .slice none 0 0, .slice none 0 0], .agg #[.int .i64 0, .slice none 0 0, .slice none 0 0, .int .i64 0, .int .i64 0, .int .i64 0]], []⟩ 8 (by kernel_rfl) (by kernel_rfl) (by kernel_rfl) (by kernel_rfl)) ?_
  intro W base args ds gs before hval0 hW hcnd _
  have hval : ∀ (j : Nat) t v, Tryz.f3.params[j]? = some t → args[j]? = some v → Value.okWide Tryz.prog W .any base t v := hval0
  have hW' := hW
  obtain ⟨p, q, hA0, hV, rfl, hfz, hnd⟩ := hW
  have hA : DataW.TrodAll enc Tryz.prog W 0 (fun _ => true) true Tryz.f3.params.toList args.toList ds p := hA0
  rw [Tryz.params3] at hA hval
  obtain ⟨v0, vs0, d0, ds0, p0, q0, hargs, rfl, rfl, h0, r0⟩ := trodAll_cons hA
  obtain ⟨v1, vs1, d1, ds1, p1, q1, rfl, rfl, rfl, h1, r1⟩ := trodAll_cons r0
  obtain ⟨rfl, rfl, rfl⟩ := trodAll_nil r1
  obtain rfl : args = #[v0, v1] := by cases args; simp_all
  obtain ⟨rfl, rfl⟩ := trodVars_none hV
  have k0 := h0
  have k1 := h1
  have lt0 : ∀ x ∈ p0, x.block < W.heap.size := by obtain ⟨m, hm⟩ := k0; exact DataW.trod_lt m _ _ _ hm
  have lt1 : ∀ x ∈ p1, x.block < W.heap.size := by obtain ⟨m, hm⟩ := k1; exact DataW.trod_lt m _ _ _ hm
  obtain ⟨wd, now, given, births, a, ac, p, pc, l, lc, ks, ps, ls, rfl, hrow, hk, hp, hl, hbw⟩ := read_state (hval 0 26 v0 rfl rfl) h0
  obtain ⟨ph, top, at_, ro, qa, qac, ma, mac, qs, ms, rfl, hq, hm, hql, hqs, hml, hms⟩ := read_round (hval 1 29 v1 rfl rfl) h1
  clear hA0 hval0
  refine (walk wd now given births a p l ac pc lc ks ps ls ph top at_ ro qa ma qac mac qs ms W hrow hk hp hl hbw hq hm hql hqs hml hms).mono fun e W' ⟨he, bel⟩ => ?_
  subst he
  exact ⟨_, rfl, _, _, _, [], _, [], hW', trodAll_mk1 (shut_bool Tryz.underlying4 _), (trodAll_cons_mk (Below.trod laidOut (by kernel_rfl) (of_decide_eq_true (by kernel_rfl)) k0 bel lt0) (trodAll_cons_mk (Below.trod laidOut (by kernel_rfl) (of_decide_eq_true (by kernel_rfl)) k1 bel lt1) trodAll_mk0)), rfl, bel.frame _, fun h => by cases h⟩

end ExactUnit

theorem fnExactUnit_holds : Rows.FnExactUnitSaid :=
  OpenClaim.holds_of_wide 3 Tryz.f3 rfl rfl rfl rfl rfl rfl rfl ⟨rfl, rfl, rfl, rfl, rfl⟩ rfl rfl rfl rfl rfl (by kernel_rfl) Tryz.func3 (by kernel_rfl)
    (of_decide_eq_true (by kernel_rfl)) (by unfold Func.isWrapper; first | (rw [if_pos (by decide +kernel)]; kernel_rfl) | (rw [if_neg (by decide +kernel)]; exact ⟨rfl, rfl⟩))
    (fun os started H enc _ => ExactUnit.lifted os started H enc)
#print axioms fnExactUnit_holds
end Go.Proofs.YthkmpihfhkmaoaaGreat
