/-
  laws.FnExactHolders, at every input.
-/
import Derived.Test.YtbelneejghdmoaaStRead
import Derived.Test.YtbelneejghdmoaaStEq
import Derived.Test.YtbelneejghdmoaaStMark
import Derived.Test.YtbelneejghdmoaaOwn
import Derived.Test.YtbelneejghdmoaaStHs
import Derived.Test.YtbelneejghdmoaaStHi
import Derived.Deep.RegionWith
import Derived.Deep.DeepCutAuto
namespace Go.Proofs.Ytbelneejghdmoaa
namespace ExactHolders
open Go.ChangeShapes Go.WideShapes Go.ChangeAt Go.RowKit
open Go.ChangeMaps (open_string shut_string)

theorem holdPA_len (wd now given births : Int) (ks : List Kd) (ps : List Pd) (ls : List Ld) (s : ByteArray) (hf : SFit ks ps ls) : (holdPA wd now given births ks ps ls s).length ≤ 1048576 := by
  unfold holdPA
  split
  · have := holdP_len ks ps s
    have := hf.p
    omega
  · simp

theorem holdLA_len (wd now given births : Int) (ks : List Kd) (ps : List Pd) (ls : List Ld) (s : ByteArray) (hf : SFit ks ps ls) : (holdLA wd now given births ks ps ls s).length ≤ 1048576 := by
  unfold holdLA
  split
  · have := holdL_len ks ls s
    have := hf.l
    omega
  · simp

/-- What was there before the first call of the program: the argument's box, the other side's answer; all below L. -/
structure E1 (w wx : World) (L : Nat) (wd now given births : Int) (T P' L' : Value) (a3 : Option Addr) (Q : List ByteArray) (b3 : Option Addr) (N : List Int) : Prop where
  sx : SBox wx w.heap.size wd now given births T P' L'
  q : SRow wx L a3 Q
  n : IRow wx L b3 N
  bel : Below w.heap.size w wx
  l1 : w.heap.size < L
  le : L ≤ wx.heap.size

theorem E1.keep {w wx wy : World} {L : Nat} {wd now given births : Int} {T P' L' : Value} {a3 b3 : Option Addr} {Q : List ByteArray} {N : List Int} (h : E1 w wx L wd now given births T P' L' a3 Q b3 N) (hb : Below L wx wy) : E1 w wy L wd now given births T P' L' a3 Q b3 N :=
  ⟨h.sx.keep hb h.l1, h.q.below hb, h.n.below hb, h.bel.trans (hb.mono (by have := h.l1; omega)), h.l1, Nat.le_trans h.le hb.size⟩

theorem own_blk {a b : World} {base : Nat} {e : TypeId} {v : Value} {n : Nat} {xs : List Value} (ho : a.ownsRow base e 1 v n xs) (h : ∀ g, v.ownBlock = some g → b.heap[g]? = a.heap[g]?) : b.ownsRow base e 1 v n xs := by
  refine ⟨ho.1, ?_⟩
  rcases ho.2 with h2 | ⟨g, cap, cur, rfl, hb, hg, h4⟩
  · exact .inl h2
  · exact .inr ⟨g, cap, cur, rfl, hb, (h g rfl).trans hg, h4⟩

theorem grown_belowB {a b : World} {row : Option Nat} (h : a.grownBy b row) {B : Nat} (hB : B ≤ a.heap.size) (hp : ∀ k, row = some k → B ≤ k) : Below B a b := (Below.refl B a).grown h hB hp

set_option maxRecDepth 20000 in
set_option maxHeartbeats 16000000 in
theorem walk (wd now given births : Int) (a p l : Option Addr) (ac pc lc : Nat) (ks : List Kd) (ps : List Pd) (ls : List Ld) (s : ByteArray) (w : World) (hrow : SRows w w.heap.size a p l ks ps ls) (hk : KMem ks) (hp : PMem ps) (hl : LMem ls) (hbw : ∀ k ∈ ks, (Lit.int .i64 k.born).wf = true) :
    Calls Try.prog 8 #[.agg #[.int .i64 wd, .int .i64 now, .int .i64 given, .int .i64 births, .slice a ks.length ac, .slice p ps.length pc, .slice l ls.length lc], .string s] w fun e w' => e = .returned (.bool true) ∧ Below w.heap.size w w' := by
  have hb0 : Below w.heap.size w (w.alloc (.cells #[.int .i64 wd, .int .i64 now, .int .i64 given, .int .i64 births, .slice a ks.length ac, .slice p ps.length pc, .slice l ls.length lc] 26)) := (Below.refl _ _).alloc (Nat.le_refl _) _
  have hx := SBox.new w wd now given births (.slice a ks.length ac) (.slice p ps.length pc) (.slice l ls.length lc) 26
  by_cases hen1 : 1048576 < s.size
  · have hend : decide ((1048576 : Int) < (s.size : Int)) = true := by simp; omega
    clear hrow hk hp hl hbw hx
    go_enter Try.func8, Try.ntmps8
    go_wp2
    go_ret
    exact ⟨rfl, hb0⟩
  have hend : decide ((1048576 : Int) < (s.size : Int)) = false := by simp; omega
  go_enter Try.func8, Try.ntmps8
  go_wp2_with fail
  refine (szState_t wd now given births a p l ac pc lc ks ps ls _ _ (hrow.below' hb0) hk hp hl (by omega) (by omega)).mono ?_
  rintro e w1 ⟨left, rfl, hw1, hle, hfit⟩
  have hB1 := hb0.trans (hw1.mono (by simp))
  have HSX : Hid (SBox w1 w.heap.size wd now given births (.slice a ks.length ac) (.slice p ps.length pc) (.slice l ls.length lc)) := hx.below hw1
  have hz1 : w.heap.size < w1.heap.size := by have := hw1.size; simp at this; omega
  clear hw1 hx hb0
  by_cases hneg : left < 0
  · clear hrow hk hp hl hbw hfit
    go_wp2
    go_ret
    exact ⟨rfl, hB1⟩
  have hf : SFit ks ps ls := (hfit (by omega)).1
  have hrn : refsN ks ≤ 1048576 := (hfit (by omega)).2
  have hT : ∀ W, Below w.heap.size w W → Calls Try.prog 11 #[.agg #[.int .i64 wd, .int .i64 now, .int .i64 given, .int .i64 births, .slice a ks.length ac, .slice p ps.length pc, .slice l ls.length lc]] W fun e w' => ∃ g q r, e = .returned (.agg #[.int .i64 wd, .int .i64 now, .int .i64 given, .int .i64 births, .slice (some ⟨g, 0, none⟩) ks.length ks.length, .slice (some ⟨q, 0, none⟩) ps.length ps.length, .slice (some ⟨r, 0, none⟩) ls.length ls.length]) ∧ SOwn w' W.heap.size g q r ks ps ls ∧ Below W.heap.size W w' := fun W hB => toState_any wd now given births a p l ac pc lc ks ps ls W (hrow.below' hB) hf
  have hS : ∀ (W : World) (g q r : Nat), SRows W W.heap.size (some ⟨g, 0, none⟩) (some ⟨q, 0, none⟩) (some ⟨r, 0, none⟩) ks ps ls → Calls Try.prog 31 #[.agg #[.int .i64 wd, .int .i64 now, .int .i64 given, .int .i64 births, .slice (some ⟨g, 0, none⟩) ks.length ks.length, .slice (some ⟨q, 0, none⟩) ps.length ps.length, .slice (some ⟨r, 0, none⟩) ls.length ls.length], .string s] W fun e w' => HeldS W (holdPA wd now given births ks ps ls s) (holdLA wd now given births ks ps ls s) e w' := fun W g q r h => sHolders_any wd now given births _ _ _ _ _ _ ks ps ls s W h hk hp hf
  have hI : ∀ (W : World) (g q r : Nat), SRows W W.heap.size (some ⟨g, 0, none⟩) (some ⟨q, 0, none⟩) (some ⟨r, 0, none⟩) ks ps ls → Calls Try.prog 32 #[.agg #[.int .i64 wd, .int .i64 now, .int .i64 given, .int .i64 births, .slice (some ⟨g, 0, none⟩) ks.length ks.length, .slice (some ⟨q, 0, none⟩) ps.length ps.length, .slice (some ⟨r, 0, none⟩) ls.length ls.length], .string s] W fun e w' => Held W (holdPA wd now given births ks ps ls s) (holdLA wd now given births ks ps ls s) e w' := fun W g q r h => iHolders_any wd now given births _ _ _ _ _ _ ks ps ls s W h hk hp hl hf hbw
  have hQl : (holdPA wd now given births ks ps ls s).length ≤ 1048576 := holdPA_len wd now given births ks ps ls s hf
  have hNl : (holdLA wd now given births ks ps ls s).length ≤ 1048576 := holdLA_len wd now given births ks ps ls s hf
  generalize (holdPA wd now given births ks ps ls s) = Q at *
  generalize (holdLA wd now given births ks ps ls s) = N at *
  have HT : Hid _ := hT
  have HS : Hid _ := hS
  have HI : Hid _ := hI
  have HFit : Hid _ := And.intro hf hrn
  clear hT hS hI hf hrn hfit hrow hk hp hl hbw
  obtain ⟨x0, x1, x2, x3, x4, x5, x6, x7⟩ := HSX.out
  go_wp2_with fail
  refine (HT.out w1 hB1).mono ?_
  rintro e w2 ⟨g, q, r, rfl, ho, hw2⟩
  have hB2 := hB1.trans (hw2.mono hB1.size)
  replace HSX : Hid (SBox w2 w.heap.size wd now given births (.slice a ks.length ac) (.slice p ps.length pc) (.slice l ls.length lc)) := SBox.below HSX.out hw2
  have hz2 := hw2.size
  have hr2 := ho.rows
  clear hw2 ho x0 x1 x2 x3 x4 x5 x6 x7 hB1
  go_wp2_with fail
  refine (HS.out w2 g q r hr2).mono ?_
  rintro e w3 ⟨v3, v3', rfl, ho3, ho3', hw3⟩
  obtain ⟨a3, c3, rfl, hq3⟩ := own_slice ho3
  obtain ⟨b3, d3, rfl, hn3⟩ := own_sliceI ho3'
  have hz3 := hw3.size
  obtain ⟨L, hL⟩ : ∃ L, L = w3.heap.size := ⟨_, rfl⟩
  have E : Hid (E1 w w3 L wd now given births (.slice a ks.length ac) (.slice p ps.length pc) (.slice l ls.length lc) a3 Q b3 N) := ⟨SBox.below HSX.out hw3, hL ▸ hq3, hL ▸ hn3, hB2.trans (hw3.mono hB2.size), by omega, by omega⟩
  clear HSX hw3 hr2 HS ho3 ho3' hq3 hn3 hB2
  have hB3 := E.out.bel
  obtain ⟨y0, y1, y2, y3, y4, y5, y6, y7⟩ := E.out.sx
  go_wp2_with fail
  refine (HT.out w3 hB3).mono ?_
  rintro e w4 ⟨g4, q4, r4, rfl, ho4, hw4⟩
  have hB4 := hB3.trans (hw4.mono hB3.size)
  rw [← hL] at ho4
  clear y0 y1 y2 y3 y4 y5 y6 y7
  replace E : Hid _ := E1.keep E.out (hw4.mono E.out.le)
  have R9 : Hid _ := ho4.rows
  have SO : Hid _ := ho4
  have hz4 : L ≤ w4.heap.size := by have := hw4.size; omega
  clear ho4 hw4 hB3
  obtain ⟨W4, hW4⟩ : ∃ W, W = w4.alloc (.cells #[.int .i64 wd, .int .i64 now, .int .i64 given, .int .i64 births, .slice (some ⟨g4, 0, none⟩) ks.length ks.length, .slice (some ⟨q4, 0, none⟩) ps.length ps.length, .slice (some ⟨r4, 0, none⟩) ls.length ls.length] 33) := ⟨_, rfl⟩
  have h44 : Below w4.heap.size w4 W4 := by rw [hW4]; exact (Below.refl _ _).alloc (Nat.le_refl _) _
  have X9 : Hid (SBox W4 w4.heap.size wd now given births (.slice (some ⟨g4, 0, none⟩) ks.length ks.length) (.slice (some ⟨q4, 0, none⟩) ps.length ps.length) (.slice (some ⟨r4, 0, none⟩) ls.length ls.length)) := by show SBox W4 w4.heap.size wd now given births (.slice (some ⟨g4, 0, none⟩) ks.length ks.length) (.slice (some ⟨q4, 0, none⟩) ps.length ps.length) (.slice (some ⟨r4, 0, none⟩) ls.length ls.length); rw [hW4]; exact SBox.new _ _ _ _ _ _ _ _ _
  have O9 : Hid (Below w4.heap.size w4 W4) := h44
  have s4 : W4.heap.size = w4.heap.size + 1 := by rw [hW4]; simp
  replace E : Hid _ := E1.keep E.out (h44.mono E.out.le)
  replace R9 : Hid _ := SRows.below' R9.out h44
  have HW4 : Hid _ := hW4
  clear h44 hW4 hB4
  go_wp2_with fail
  rw [← HW4.out]
  refine (HI.out W4 g4 q4 r4 R9.out).mono ?_
  rintro e w6 ⟨v6, v6', BB, rfl, ho6, ho6', hap6, hBB, hw6⟩
  obtain ⟨a6, c6, rfl, _⟩ := own_slice ho6
  obtain ⟨b6, d6, rfl, _⟩ := own_sliceI ho6'
  have hu6 : ∀ g, (Value.slice b6 N.length d6).ownBlock = some g → W4.heap.size ≤ g ∧ g < w6.heap.size := fun g hg => by have := ho6'.lt g hg; omega
  have hap : ∀ g, (Value.slice a6 Q.length c6).ownBlock = some g → (Value.slice b6 N.length d6).ownBlock ≠ some g := fun g hg e => by have := hap6 g hg; have := (ho6'.lt g e).1; omega
  have O12 : Hid _ := ho6'
  replace E : Hid _ := E1.keep E.out (hw6.mono E.out.le)
  replace R9 : Hid _ := SRows.below' R9.out hw6
  replace X9 : Hid _ := SBox.below X9.out hw6
  replace O9 : Hid _ := O9.out.trans (hw6.mono O9.out.size)
  have hv6 : ∀ g, (Value.slice a6 Q.length c6).ownBlock = some g → W4.heap.size ≤ g ∧ g < w6.heap.size := fun g hg => ho6.lt g hg
  have hz6 := hw6.size
  have O11 : Hid _ := ho6
  clear ho6 ho6' hap6 hw6 HW4
  go_wp2_with fail
  refine (eqS_yes a6 a3 c6 c3 Q w6 _ _ (own_row O11.out) E.out.q hQl).mono ?_
  rintro e w7' ⟨rfl, n7, hn7⟩
  have hw7 : Below w6.heap.size w6 w7' := by rw [hn7]; exact ⟨rfl, rfl, rfl, Nat.le_refl _, fun _ _ => rfl⟩
  revert w7'
  intro w7 hn7 hw7
  clear hn7 n7
  replace E : Hid _ := E1.keep E.out (hw7.mono E.out.le)
  replace R9 : Hid _ := SRows.below' R9.out hw7
  replace X9 : Hid _ := SBox.below X9.out hw7
  replace O9 : Hid _ := O9.out.trans (hw7.mono O9.out.size)
  replace O11 : Hid _ := own_keep O11.out hw7
  replace O12 : Hid _ := own_keepI O12.out hw7
  have hz7 := hw7.size
  clear hw7
  go_wp2_with fail
  refine (eqI_yes b6 b3 d6 d3 N w7 _ _ (own_rowI O12.out) E.out.n hNl).mono ?_
  rintro e w70' ⟨rfl, n7, hn7⟩
  have hw70 : Below w7.heap.size w7 w70' := by rw [hn7]; exact ⟨rfl, rfl, rfl, Nat.le_refl _, fun _ _ => rfl⟩
  have hz70 := hw70.size
  revert w70'
  rename World => w70
  intro w7 hn7 hw7 hz77
  clear hn7 n7
  replace E : Hid _ := E1.keep E.out (hw7.mono E.out.le)
  replace R9 : Hid _ := SRows.below' R9.out hw7
  replace X9 : Hid _ := SBox.below X9.out hw7
  replace O9 : Hid _ := O9.out.trans (hw7.mono O9.out.size)
  replace O11 : Hid _ := own_keep O11.out hw7
  replace O12 : Hid _ := own_keepI O12.out hw7
  clear hw7
  have hB7 := E.out.bel
  obtain ⟨x0, x1, x2, x3, x4, x5, x6, x7⟩ := X9.out
  obtain ⟨y0, y1, y2, y3, y4, y5, y6, y7⟩ := E.out.sx
  go_upto_region 12 with fail
  go_cut [53] (fun v wx => v = .bool false ∧ Below w7.heap.size w7 wx)
  case first =>
    go_region_with (first
      | (go_at_call 11; refine (HT.out _ hB7.drew).mono ?_; rintro e w8 ⟨g7, q7, r7, rfl, ho7, hw8⟩; have h78 : Below w7.heap.size w7 w8 := (Below.refl w7.heap.size w7).drew.trans hw8; obtain ⟨z0, z1, z2, z3, z4, z5, z6, z7⟩ := SBox.below X9.out h78; have hr7 := ho7.rows; have hr47 := SRows.below' R9.out h78)
      | (go_at_call 13; refine (eqState_yes wd now given births _ _ _ _ _ _ _ _ _ _ _ _ ks ps ls _ hr47 hr7 HFit.out.1).mono ?_; rintro e w9 ⟨rfl, hw9⟩; have h79 := h78.trans (hw9.mono h78.size)))
    all_goals (go_wp2_with fail; go_meet; exact ⟨rfl, h79⟩)
  case rest =>
  revert wc
  intro w8 hcut
  obtain ⟨rfl, hw8⟩ := hcut
  clear x0 x1 x2 x3 x4 x5 x6 x7 y0 y1 y2 y3 y4 y5 y6 y7 hB7 R9
  replace E : Hid _ := E1.keep E.out (hw8.mono E.out.le)
  replace X9 : Hid _ := SBox.below X9.out hw8
  replace O9 : Hid _ := O9.out.trans (hw8.mono O9.out.size)
  replace O11 : Hid _ := own_keep O11.out hw8
  replace O12 : Hid _ := own_keepI O12.out hw8
  have hz8 := hw8.size
  clear hw8
  obtain ⟨x0, x1, x2, x3, x4, x5, x6, x7⟩ := X9.out
  go_wp2_with fail
  refine (markState_any wd now given births L g4 q4 r4 1 ks ps ls w4 w8 SO.out O9.out HFit.out.1 HFit.out.2 (by omega) (by omega)).mono ?_
  rintro e w11 ⟨⟨K1, rfl, hK1, hK1'⟩, hb11, _, hf11⟩
  have hz11 := hb11.size
  replace E : Hid _ := E1.keep E.out hb11
  replace O11 : Hid _ := own_blk O11.out (fun j hj => hf11 j (by have := hv6 j hj; omega) (by have := hv6 j hj; omega))
  replace O12 : Hid _ := own_blk O12.out (fun j hj => hf11 j (by have := hu6 j hj; omega) (by have := hu6 j hj; omega))
  clear x0 x1 x2 x3 x4 x5 x6 x7 hb11 hf11 X9 O9 SO
  have hnn : decide ((K1 : Int) < 0) = false := by simp
  go_wp2_with fail
  refine (eqS_yes a6 a3 c6 c3 Q w11 _ _ (own_row O11.out) E.out.q hQl).mono ?_
  rintro e w13' ⟨rfl, n7, hn7⟩
  have hw13 : Below w11.heap.size w11 w13' := by rw [hn7]; exact ⟨rfl, rfl, rfl, Nat.le_refl _, fun _ _ => rfl⟩
  revert w13'
  intro w13 hn7 hw13
  clear hn7 n7
  replace E : Hid _ := E1.keep E.out (hw13.mono E.out.le)
  replace O11 : Hid _ := own_keep O11.out hw13
  replace O12 : Hid _ := own_keepI O12.out hw13
  have hz13 := hw13.size
  clear hw13
  go_wp2_with fail
  refine (eqI_yes b6 b3 d6 d3 N w13 _ _ (own_rowI O12.out) E.out.n hNl).mono ?_
  rintro e w130' ⟨rfl, n7, hn7⟩
  have hw130 : Below w13.heap.size w13 w130' := by rw [hn7]; exact ⟨rfl, rfl, rfl, Nat.le_refl _, fun _ _ => rfl⟩
  have hz130 := hw130.size
  revert w130'
  rename World => w130
  intro w13 hn7 hw13 hz1313
  clear hn7 n7
  replace E : Hid _ := E1.keep E.out (hw13.mono E.out.le)
  replace O11 : Hid _ := own_keep O11.out hw13
  replace O12 : Hid _ := own_keepI O12.out hw13
  clear hw13
  go_wp2_with fail
  refine (markS_any a6 Q.length c6 1 _ _ w13 O11.out (by omega) (by omega)).mono ?_
  rintro e w14 ⟨rfl, hm14, ht14⟩
  have hb14 : Below L w13 w14 := grown_belowB ht14 (by have := E.out.le; omega) (fun j hj => by have := hv6 j hj; omega)
  have hz14 := hb14.size
  replace E : Hid _ := E1.keep E.out hb14
  replace O12 : Hid _ := World.ownsRow.kept O12.out ht14 (by cases hv : (Value.slice b6 N.length d6).ownBlock with | none => exact .inl rfl | some g => exact .inr (fun e => hap g e.symm hv))
  have O11m : Hid _ := hm14
  clear ht14 hm14 O11 hb14
  go_wp2_with fail
  refine (markI_any b6 N.length d6 (1 + Q.length) _ _ _ w14 (by simp) O12.out (by omega) (by omega)).mono ?_
  rintro e w15 ⟨rfl, hm15, ht15⟩
  have hb15 : Below L w14 w15 := grown_belowB ht15 (by have := E.out.le; omega) (fun j hj => by have := hu6 j hj; omega)
  have hz15 := hb15.size
  replace E : Hid _ := E1.keep E.out hb15
  have O11n : Hid _ := World.ownsRow.kept O11m.out ht15 (by cases hv : (Value.slice a6 Q.length c6).ownBlock with | none => exact .inl rfl | some g => exact .inr (fun e => hap g hv e.symm))
  have H11 : Hid (SRow w15 w15.heap.size a6 (marks 1 Q.length)) := own_row (c := c6) (ss := marks 1 Q.length) (by rw [marks_length]; exact O11n.out)
  have H12 : Hid (IRow w15 w15.heap.size b6 (nums (1 + Q.length) N.length)) := own_rowI (c := d6) (ss := nums (1 + Q.length) N.length) (by rw [nums_length]; exact hm15)
  clear ht15 hm15 O12 hb15 O11m O11n
  have hnq : decide ((1 : Int) + Q.length < 0) = false := by simp; omega
  have hnq2 : decide ((1 : Int) + Q.length + N.length < 0) = false := by simp; omega
  go_wp2_with fail
  refine (heldS_any a6 Q.length c6 1 _ w15 H11.out (Nat.le_refl _) (by omega) (by omega)).mono ?_
  rintro e w16 ⟨rfl, hw16⟩
  replace E : Hid _ := E1.keep E.out (hw16.mono E.out.le)
  replace H11 : Hid _ := SRow.below' H11.out hw16
  replace H12 : Hid _ := IRow.below' H12.out hw16
  clear hw16
  go_wp2_with fail
  refine (heldI_any b6 N.length d6 (1 + Q.length) _ _ w16 (by simp) H12.out (Nat.le_refl _) (by omega) (by omega)).mono ?_
  rintro e w17 ⟨rfl, hw17⟩
  replace E : Hid _ := E1.keep E.out (hw17.mono E.out.le)
  replace H11 : Hid _ := SRow.below' H11.out hw17
  replace H12 : Hid _ := IRow.below' H12.out hw17
  clear hw17
  have hB17 := E.out.bel
  obtain ⟨y0, y1, y2, y3, y4, y5, y6, y7⟩ := E.out.sx
  go_wp2_with fail
  refine (HT.out w17 hB17).mono ?_
  rintro e w18 ⟨g, q, r, rfl, ho18, hw18⟩
  have hr18 := ho18.rows
  replace E : Hid _ := E1.keep E.out (hw18.mono E.out.le)
  replace H11 : Hid _ := SRow.below' H11.out hw18
  replace H12 : Hid _ := IRow.below' H12.out hw18
  clear y0 y1 y2 y3 y4 y5 y6 y7 ho18 hw18 hB17
  go_wp2_with fail
  refine (HI.out w18 g q r hr18).mono ?_
  rintro e w19 ⟨v19, v19', B19, rfl, ho19, ho19', _, _, hw19⟩
  obtain ⟨a7, c7, rfl, hq19⟩ := own_slice ho19
  obtain ⟨b7, d7, rfl, hn19⟩ := own_sliceI ho19'
  replace E : Hid _ := E1.keep E.out (hw19.mono E.out.le)
  replace H11 : Hid _ := SRow.below' H11.out hw19
  replace H12 : Hid _ := IRow.below' H12.out hw19
  clear ho19 ho19' hw19 hr18
  go_wp2_with fail
  refine (eqS_yes a7 a3 c7 c3 Q w19 _ _ hq19 E.out.q hQl).mono ?_
  rintro e w20' ⟨rfl, n7, hn7⟩
  have hw20 : Below w19.heap.size w19 w20' := by rw [hn7]; exact ⟨rfl, rfl, rfl, Nat.le_refl _, fun _ _ => rfl⟩
  revert w20'
  intro w20 hn7 hw20
  clear hn7 n7
  replace E : Hid _ := E1.keep E.out (hw20.mono E.out.le)
  replace H11 : Hid _ := SRow.below' H11.out hw20
  replace H12 : Hid _ := IRow.below' H12.out hw20
  replace hn19 := IRow.below' hn19 hw20
  clear hw20 hq19
  go_wp2_with fail
  refine (eqI_yes b7 b3 d7 d3 N w20 _ _ hn19 E.out.n hNl).mono ?_
  rintro e w21' ⟨rfl, n7, hn7⟩
  have hw21 : Below w20.heap.size w20 w21' := by rw [hn7]; exact ⟨rfl, rfl, rfl, Nat.le_refl _, fun _ _ => rfl⟩
  revert w21'
  intro w21 hn7 hw21
  clear hn7 n7
  replace E : Hid _ := E1.keep E.out (hw21.mono E.out.le)
  replace H11 : Hid _ := SRow.below' H11.out hw21
  replace H12 : Hid _ := IRow.below' H12.out hw21
  clear hw21 hn19
  go_wp2_with fail
  refine (heldS_any a6 Q.length c6 1 _ w21 H11.out (Nat.le_refl _) (by omega) (by omega)).mono ?_
  rintro e w22 ⟨rfl, hw22⟩
  replace E : Hid _ := E1.keep E.out (hw22.mono E.out.le)
  replace H12 : Hid _ := IRow.below' H12.out hw22
  clear hw22
  go_wp2_with fail
  refine (heldI_any b6 N.length d6 (1 + Q.length) _ _ w22 (by simp) H12.out (Nat.le_refl _) (by omega) (by omega)).mono ?_
  rintro e w23 ⟨rfl, hw23⟩
  have HE : Hid _ := E.out.bel.trans (hw23.mono E.out.bel.size)
  clear hw23
  go_wp2
  go_ret
  exact ⟨rfl, HE.out⟩

set_option maxRecDepth 100000 in
theorem lifted (os : Os) (started : os.Started) (H : Type) (enc : TypeId × Value → H) :
    ReturnsInHanded {} Try.checked os 8 .any (Rows.fnExactHoldersSpec.pre6 enc Try.prog Try.f8 Rows.fnExactHoldersRow.domain false) (Rows.fnExactHoldersSpec.post enc Try.prog Try.f8 false true false false) := by
  refine returnsInHanded_of_change (C := Try.checked) own started (by kernel_rfl) Try.func8
    (ChangeSpec.witness6 (enc := enc) (C := Try.checked) false ⟨#[], #[.agg #[.int .i64 0, .int .i64 0, .int .i64 0, .int .i64 0, .slice none 0 0, .slice none 0 0, .slice none 0 0], .string ⟨#[]⟩], []⟩ 8 (by kernel_rfl) (by kernel_rfl) (by kernel_rfl) (by kernel_rfl)) ?_
  intro W base args ds gs before hval0 hW hcnd _
  have hval : ∀ (j : Nat) t v, Try.f8.params[j]? = some t → args[j]? = some v → Value.okWide Try.prog W .any base t v := hval0
  have hW' := hW
  obtain ⟨p, q, hA0, hV, rfl, hfz, hnd⟩ := hW
  have hA : DataW.TrodAll enc Try.prog W 0 (fun _ => true) true Try.f8.params.toList args.toList ds p := hA0
  rw [Try.params8] at hA hval
  obtain ⟨v0, vs0, d0, ds0, p0, q0, hargs, rfl, rfl, h0, r0⟩ := trodAll_cons hA
  obtain ⟨v1, vs1, d1, ds1, p1, q1, rfl, rfl, rfl, h1, r1⟩ := trodAll_cons r0
  obtain ⟨rfl, rfl, rfl⟩ := trodAll_nil r1
  obtain rfl : args = #[v0, v1] := by cases args; simp_all
  obtain ⟨rfl, rfl⟩ := trodVars_none hV
  have k0 := h0
  have lt0 : ∀ x ∈ p0, x.block < W.heap.size := by obtain ⟨m, hm⟩ := k0; exact DataW.trod_lt m _ _ _ hm
  obtain ⟨wd, now, given, births, a, ac, p, pc, l, lc, ks, ps, ls, rfl, hrow, hk, hp, hl, hbw⟩ := read_state (hval 0 26 v0 rfl rfl) h0
  obtain ⟨a2, rfl, rfl, rfl, w2⟩ := open_string Try.underlying9 (hval 1 9 v1 rfl rfl) h1
  clear hA0 hval0
  refine (walk wd now given births a p l ac pc lc ks ps ls a2 W hrow hk hp hl hbw).mono fun e W' ⟨he, bel⟩ => ?_
  subst he
  exact ⟨_, rfl, _, _, _, [], _, [], hW', trodAll_mk1 (shut_bool Try.underlying4 _), (trodAll_cons_mk (Below.trod laidOut (by kernel_rfl) (of_decide_eq_true (by kernel_rfl)) k0 bel lt0) (trodAll_cons_mk (shut_string Try.underlying9 w2) trodAll_mk0)), rfl, bel.frame _, fun h => by cases h⟩

end ExactHolders

end Go.Proofs.Ytbelneejghdmoaa
