/-
  laws.FnExactWaste, at every input.
-/
import Derived.Test.YtbelneejghdmoaaStRead
import Derived.Test.YtbelneejghdmoaaStEq
import Derived.Test.YtbelneejghdmoaaStMark
import Derived.Test.YtbelneejghdmoaaOwn
import Derived.Test.YtbelneejghdmoaaStWt
import Derived.Deep.RegionWith
import Derived.Deep.DeepCutAuto
namespace Go.Proofs.Ytbelneejghdmoaa
namespace ExactWaste
open Go.ChangeShapes Go.WideShapes Go.ChangeAt Go.RowKit

theorem wasteA_len (wd now given births : Int) (ks : List Kd) (ps : List Pd) (ls : List Ld) (hf : SFit ks ps ls) : (wasteA wd now given births ks ps ls).length ≤ 1048576 := by
  unfold wasteA
  split
  · have := wasteK_len ks ks (rootS ps ls)
    have := hf.k
    omega
  · simp

/-- What was there before the first call of the program: the argument's box, the other side's answer; all below L. -/
structure E1 (w wx : World) (L : Nat) (wd now given births : Int) (T P' L' : Value) (a3 : Option Addr) (Q : List ByteArray) : Prop where
  sx : SBox wx w.heap.size wd now given births T P' L'
  q : SRow wx L a3 Q
  bel : Below w.heap.size w wx
  l1 : w.heap.size < L
  le : L ≤ wx.heap.size

theorem E1.keep {w wx wy : World} {L : Nat} {wd now given births : Int} {T P' L' : Value} {a3 : Option Addr} {Q : List ByteArray} (h : E1 w wx L wd now given births T P' L' a3 Q) (hb : Below L wx wy) : E1 w wy L wd now given births T P' L' a3 Q :=
  ⟨h.sx.keep hb h.l1, h.q.below hb, h.bel.trans (hb.mono (by have := h.l1; omega)), h.l1, Nat.le_trans h.le hb.size⟩

theorem own_blk {a b : World} {base : Nat} {e : TypeId} {v : Value} {n : Nat} {xs : List Value} (ho : a.ownsRow base e 1 v n xs) (h : ∀ g, v.ownBlock = some g → b.heap[g]? = a.heap[g]?) : b.ownsRow base e 1 v n xs := by
  refine ⟨ho.1, ?_⟩
  rcases ho.2 with h2 | ⟨g, cap, cur, rfl, hb, hg, h4⟩
  · exact .inl h2
  · exact .inr ⟨g, cap, cur, rfl, hb, (h g rfl).trans hg, h4⟩

theorem grown_belowB {a b : World} {row : Option Nat} (h : a.grownBy b row) {B : Nat} (hB : B ≤ a.heap.size) (hp : ∀ k, row = some k → B ≤ k) : Below B a b := (Below.refl B a).grown h hB hp

set_option maxRecDepth 20000 in
set_option maxHeartbeats 16000000 in
theorem walk (wd now given births : Int) (a p l : Option Addr) (ac pc lc : Nat) (ks : List Kd) (ps : List Pd) (ls : List Ld) (w : World) (hrow : SRows w w.heap.size a p l ks ps ls) (hk : KMem ks) (hp : PMem ps) (hl : LMem ls) (hbw : ∀ k ∈ ks, (Lit.int .i64 k.born).wf = true) :
    Calls Try.prog 7 #[.agg #[.int .i64 wd, .int .i64 now, .int .i64 given, .int .i64 births, .slice a ks.length ac, .slice p ps.length pc, .slice l ls.length lc]] w fun e w' => e = .returned (.bool true) ∧ Below w.heap.size w w' := by
  have hb0 : Below w.heap.size w (w.alloc (.cells #[.int .i64 wd, .int .i64 now, .int .i64 given, .int .i64 births, .slice a ks.length ac, .slice p ps.length pc, .slice l ls.length lc] 26)) := (Below.refl _ _).alloc (Nat.le_refl _) _
  have hx := SBox.new w wd now given births (.slice a ks.length ac) (.slice p ps.length pc) (.slice l ls.length lc) 26
  go_enter Try.func7, Try.ntmps7
  go_wp2_with fail
  refine (szState_t wd now given births a p l ac pc lc ks ps ls _ _ (hrow.below' hb0) hk hp hl (by omega) (by omega)).mono ?_
  rintro e w1 ⟨left, rfl, hw1, hle, hfit⟩
  have hB1 := hb0.trans (hw1.mono (by simp))
  have HSX : Hid (SBox w1 w.heap.size wd now given births (.slice a ks.length ac) (.slice p ps.length pc) (.slice l ls.length lc)) := hx.below hw1
  have hz1 : w.heap.size < w1.heap.size := by have := hw1.size; simp at this; omega
  clear hw1 hx hb0
  by_cases hneg : left < 0
  · clear hrow hk hp hl hbw hfit
    go_wp2
    go_ret
    exact ⟨rfl, hB1⟩
  have hf : SFit ks ps ls := (hfit (by omega)).1
  have hrn : refsN ks ≤ 1048576 := (hfit (by omega)).2
  have hT : ∀ W, Below w.heap.size w W → Calls Try.prog 11 #[.agg #[.int .i64 wd, .int .i64 now, .int .i64 given, .int .i64 births, .slice a ks.length ac, .slice p ps.length pc, .slice l ls.length lc]] W fun e w' => ∃ g q r, e = .returned (.agg #[.int .i64 wd, .int .i64 now, .int .i64 given, .int .i64 births, .slice (some ⟨g, 0, none⟩) ks.length ks.length, .slice (some ⟨q, 0, none⟩) ps.length ps.length, .slice (some ⟨r, 0, none⟩) ls.length ls.length]) ∧ SOwn w' W.heap.size g q r ks ps ls ∧ Below W.heap.size W w' := fun W hB => toState_any wd now given births a p l ac pc lc ks ps ls W (hrow.below' hB) hf
  have hS : ∀ (W : World) (g q r : Nat), SRows W W.heap.size (some ⟨g, 0, none⟩) (some ⟨q, 0, none⟩) (some ⟨r, 0, none⟩) ks ps ls → Calls Try.prog 26 #[.agg #[.int .i64 wd, .int .i64 now, .int .i64 given, .int .i64 births, .slice (some ⟨g, 0, none⟩) ks.length ks.length, .slice (some ⟨q, 0, none⟩) ps.length ps.length, .slice (some ⟨r, 0, none⟩) ls.length ls.length]] W fun e w' => ∃ v, e = .returned v ∧ w'.ownsRow W.heap.size 9 1 v (wasteA wd now given births ks ps ls).length ((wasteA wd now given births ks ps ls).map Value.string) ∧ Below W.heap.size W w' := fun W g q r h => sWaste_any wd now given births _ _ _ _ _ _ ks ps ls W h hk hp hf
  have hI : ∀ (W : World) (g q r : Nat), SRows W W.heap.size (some ⟨g, 0, none⟩) (some ⟨q, 0, none⟩) (some ⟨r, 0, none⟩) ks ps ls → Calls Try.prog 27 #[.agg #[.int .i64 wd, .int .i64 now, .int .i64 given, .int .i64 births, .slice (some ⟨g, 0, none⟩) ks.length ks.length, .slice (some ⟨q, 0, none⟩) ps.length ps.length, .slice (some ⟨r, 0, none⟩) ls.length ls.length]] W fun e w' => ∃ v, e = .returned v ∧ w'.ownsRow W.heap.size 9 1 v (wasteA wd now given births ks ps ls).length ((wasteA wd now given births ks ps ls).map Value.string) ∧ Below W.heap.size W w' := fun W g q r h => iWaste_any wd now given births _ _ _ _ _ _ ks ps ls W h hk hp hl hf hbw
  have hQl : (wasteA wd now given births ks ps ls).length ≤ 1048576 := wasteA_len wd now given births ks ps ls hf
  generalize (wasteA wd now given births ks ps ls) = Q at *
  have HT : Hid _ := hT
  have HS : Hid _ := hS
  have HI : Hid _ := hI
  have HFit : Hid _ := And.intro hf hrn
  clear hT hS hI hf hrn hfit hrow hk hp hl hbw
  obtain ⟨x0, x1, x2, x3, x4, x5, x6, x7⟩ := HSX.out
  go_wp2_with fail
  refine (HT.out w1 hB1).mono ?_
  rintro e w2 ⟨g, q, r, rfl, ho, hw2⟩
  have hB2 := hB1.trans (hw2.mono hB1.size)
  replace HSX : Hid (SBox w2 w.heap.size wd now given births (.slice a ks.length ac) (.slice p ps.length pc) (.slice l ls.length lc)) := SBox.below HSX.out hw2
  have hz2 := hw2.size
  have hr2 := ho.rows
  clear hw2 ho x0 x1 x2 x3 x4 x5 x6 x7 hB1
  go_wp2_with fail
  refine (HS.out w2 g q r hr2).mono ?_
  rintro e w3 ⟨v3, rfl, ho3, hw3⟩
  obtain ⟨a3, c3, rfl, hq3⟩ := own_slice ho3
  have hz3 := hw3.size
  obtain ⟨L, hL⟩ : ∃ L, L = w3.heap.size := ⟨_, rfl⟩
  have E : Hid (E1 w w3 L wd now given births (.slice a ks.length ac) (.slice p ps.length pc) (.slice l ls.length lc) a3 Q) := ⟨SBox.below HSX.out hw3, hL ▸ hq3, hB2.trans (hw3.mono hB2.size), by omega, by omega⟩
  clear HSX hw3 hr2 HS ho3 hq3 hB2
  have hB3 := E.out.bel
  obtain ⟨y0, y1, y2, y3, y4, y5, y6, y7⟩ := E.out.sx
  go_wp2_with fail
  refine (HT.out w3 hB3).mono ?_
  rintro e w4 ⟨g4, q4, r4, rfl, ho4, hw4⟩
  have hB4 := hB3.trans (hw4.mono hB3.size)
  rw [← hL] at ho4
  clear y0 y1 y2 y3 y4 y5 y6 y7
  replace E : Hid _ := E1.keep E.out (hw4.mono E.out.le)
  have R9 : Hid _ := ho4.rows
  have SO : Hid _ := ho4
  have hz4 : L ≤ w4.heap.size := by have := hw4.size; omega
  clear ho4 hw4 hB3
  obtain ⟨W4, hW4⟩ : ∃ W, W = w4.alloc (.cells #[.int .i64 wd, .int .i64 now, .int .i64 given, .int .i64 births, .slice (some ⟨g4, 0, none⟩) ks.length ks.length, .slice (some ⟨q4, 0, none⟩) ps.length ps.length, .slice (some ⟨r4, 0, none⟩) ls.length ls.length] 33) := ⟨_, rfl⟩
  have h44 : Below w4.heap.size w4 W4 := by rw [hW4]; exact (Below.refl _ _).alloc (Nat.le_refl _) _
  have X9 : Hid (SBox W4 w4.heap.size wd now given births (.slice (some ⟨g4, 0, none⟩) ks.length ks.length) (.slice (some ⟨q4, 0, none⟩) ps.length ps.length) (.slice (some ⟨r4, 0, none⟩) ls.length ls.length)) := by show SBox W4 w4.heap.size wd now given births (.slice (some ⟨g4, 0, none⟩) ks.length ks.length) (.slice (some ⟨q4, 0, none⟩) ps.length ps.length) (.slice (some ⟨r4, 0, none⟩) ls.length ls.length); rw [hW4]; exact SBox.new _ _ _ _ _ _ _ _ _
  have O9 : Hid (Below w4.heap.size w4 W4) := h44
  have s4 : W4.heap.size = w4.heap.size + 1 := by rw [hW4]; simp
  replace E : Hid _ := E1.keep E.out (h44.mono E.out.le)
  replace R9 : Hid _ := SRows.below' R9.out h44
  have HW4 : Hid _ := hW4
  clear h44 hW4 hB4
  go_wp2_with fail
  rw [← HW4.out]
  refine (HI.out W4 g4 q4 r4 R9.out).mono ?_
  rintro e w6 ⟨v6, rfl, ho6, hw6⟩
  obtain ⟨a6, c6, rfl, _⟩ := own_slice ho6
  replace E : Hid _ := E1.keep E.out (hw6.mono E.out.le)
  replace R9 : Hid _ := SRows.below' R9.out hw6
  replace X9 : Hid _ := SBox.below X9.out hw6
  replace O9 : Hid _ := O9.out.trans (hw6.mono O9.out.size)
  have hv6 : ∀ g, (Value.slice a6 Q.length c6).ownBlock = some g → W4.heap.size ≤ g ∧ g < w6.heap.size := fun g hg => ho6.lt g hg
  have hz6 := hw6.size
  have O11 : Hid _ := ho6
  clear ho6 hw6 HW4
  go_wp2_with fail
  refine (eqS_yes a6 a3 c6 c3 Q w6 _ _ (own_row O11.out) E.out.q hQl).mono ?_
  rintro e w7' ⟨rfl, n7, hn7⟩
  have hw7 : Below w6.heap.size w6 w7' := by rw [hn7]; exact ⟨rfl, rfl, rfl, Nat.le_refl _, fun _ _ => rfl⟩
  revert w7'
  intro w7 hn7 hw7
  clear hn7 n7
  replace E : Hid _ := E1.keep E.out (hw7.mono E.out.le)
  replace R9 : Hid _ := SRows.below' R9.out hw7
  replace X9 : Hid _ := SBox.below X9.out hw7
  replace O9 : Hid _ := O9.out.trans (hw7.mono O9.out.size)
  replace O11 : Hid _ := own_keep O11.out hw7
  have hz7 := hw7.size
  clear hw7
  have hB7 := E.out.bel
  obtain ⟨x0, x1, x2, x3, x4, x5, x6, x7⟩ := X9.out
  obtain ⟨y0, y1, y2, y3, y4, y5, y6, y7⟩ := E.out.sx
  go_upto_region 10 with fail
  go_cut [31] (fun v wx => v = .bool false ∧ Below w7.heap.size w7 wx)
  case first =>
    go_region_with (first
      | (go_at_call 11; refine (HT.out _ hB7.drew).mono ?_; rintro e w8 ⟨g7, q7, r7, rfl, ho7, hw8⟩; have h78 : Below w7.heap.size w7 w8 := (Below.refl w7.heap.size w7).drew.trans hw8; obtain ⟨z0, z1, z2, z3, z4, z5, z6, z7⟩ := SBox.below X9.out h78; have hr7 := ho7.rows; have hr47 := SRows.below' R9.out h78)
      | (go_at_call 13; refine (eqState_yes wd now given births _ _ _ _ _ _ _ _ _ _ _ _ ks ps ls _ hr47 hr7 HFit.out.1).mono ?_; rintro e w9 ⟨rfl, hw9⟩; have h79 := h78.trans (hw9.mono h78.size)))
    all_goals (go_wp2_with fail; go_meet; exact ⟨rfl, h79⟩)
  case rest =>
  revert wc
  intro w8 hcut
  obtain ⟨rfl, hw8⟩ := hcut
  clear x0 x1 x2 x3 x4 x5 x6 x7 y0 y1 y2 y3 y4 y5 y6 y7 hB7 R9
  replace E : Hid _ := E1.keep E.out (hw8.mono E.out.le)
  replace X9 : Hid _ := SBox.below X9.out hw8
  replace O9 : Hid _ := O9.out.trans (hw8.mono O9.out.size)
  replace O11 : Hid _ := own_keep O11.out hw8
  have hz8 := hw8.size
  clear hw8
  obtain ⟨x0, x1, x2, x3, x4, x5, x6, x7⟩ := X9.out
  go_wp2_with fail
  refine (markState_any wd now given births L g4 q4 r4 1 ks ps ls w4 w8 SO.out O9.out HFit.out.1 HFit.out.2 (by omega) (by omega)).mono ?_
  rintro e w11 ⟨⟨K1, rfl, hK1, hK1'⟩, hb11, _, hf11⟩
  have hz11 := hb11.size
  replace E : Hid _ := E1.keep E.out hb11
  replace O11 : Hid _ := own_blk O11.out (fun j hj => hf11 j (by have := hv6 j hj; omega) (by have := hv6 j hj; omega))
  clear x0 x1 x2 x3 x4 x5 x6 x7 hb11 hf11 X9 O9 SO
  have hnn : decide ((K1 : Int) < 0) = false := by simp
  go_wp2_with fail
  refine (eqS_yes a6 a3 c6 c3 Q w11 _ _ (own_row O11.out) E.out.q hQl).mono ?_
  rintro e w13' ⟨rfl, n7, hn7⟩
  have hw13 : Below w11.heap.size w11 w13' := by rw [hn7]; exact ⟨rfl, rfl, rfl, Nat.le_refl _, fun _ _ => rfl⟩
  revert w13'
  intro w13 hn7 hw13
  clear hn7 n7
  replace E : Hid _ := E1.keep E.out (hw13.mono E.out.le)
  replace O11 : Hid _ := own_keep O11.out hw13
  have hz13 := hw13.size
  clear hw13
  go_wp2_with fail
  refine (markS_any a6 Q.length c6 1 _ _ w13 O11.out (by omega) (by omega)).mono ?_
  rintro e w14 ⟨rfl, hm14, ht14⟩
  have hb14 : Below L w13 w14 := grown_belowB ht14 (by have := E.out.le; omega) (fun j hj => by have := hv6 j hj; omega)
  have hz14 := hb14.size
  replace E : Hid _ := E1.keep E.out hb14
  have H11 : Hid (SRow w14 w14.heap.size a6 (marks 1 Q.length)) := own_row (c := c6) (ss := marks 1 Q.length) (by rw [marks_length]; exact hm14)
  clear ht14 hm14 O11 hb14
  go_wp2_with fail
  refine (heldS_any a6 Q.length c6 1 _ w14 H11.out (Nat.le_refl _) (by omega) (by omega)).mono ?_
  rintro e w15 ⟨rfl, hw15⟩
  replace E : Hid _ := E1.keep E.out (hw15.mono E.out.le)
  replace H11 : Hid _ := SRow.below' H11.out hw15
  have hz15 := hw15.size
  clear hw15
  have hnq : decide ((1 : Int) + Q.length < 0) = false := by simp; omega
  have hB15 := E.out.bel
  obtain ⟨y0, y1, y2, y3, y4, y5, y6, y7⟩ := E.out.sx
  go_wp2_with fail
  refine (HT.out w15 hB15).mono ?_
  rintro e w16 ⟨g, q, r, rfl, ho16, hw16⟩
  have hr16 := ho16.rows
  replace E : Hid _ := E1.keep E.out (hw16.mono E.out.le)
  replace H11 : Hid _ := SRow.below' H11.out hw16
  have hz16 := hw16.size
  clear y0 y1 y2 y3 y4 y5 y6 y7 ho16 hw16 hB15
  go_wp2_with fail
  refine (HI.out w16 g q r hr16).mono ?_
  rintro e w17 ⟨v17, rfl, ho17, hw17⟩
  obtain ⟨a7, c7, rfl, hq17⟩ := own_slice ho17
  replace E : Hid _ := E1.keep E.out (hw17.mono E.out.le)
  replace H11 : Hid _ := SRow.below' H11.out hw17
  clear ho17 hw17 hr16
  go_wp2_with fail
  refine (eqS_yes a7 a3 c7 c3 Q w17 _ _ hq17 E.out.q hQl).mono ?_
  rintro e w18' ⟨rfl, n7, hn7⟩
  have hw18 : Below w17.heap.size w17 w18' := by rw [hn7]; exact ⟨rfl, rfl, rfl, Nat.le_refl _, fun _ _ => rfl⟩
  revert w18'
  intro w18 hn7 hw18
  clear hn7 n7
  replace E : Hid _ := E1.keep E.out (hw18.mono E.out.le)
  replace H11 : Hid _ := SRow.below' H11.out hw18
  clear hw18 hq17
  go_wp2_with fail
  refine (heldS_any a6 Q.length c6 1 _ w18 H11.out (Nat.le_refl _) (by omega) (by omega)).mono ?_
  rintro e w19 ⟨rfl, hw19⟩
  have HE : Hid _ := E.out.bel.trans (hw19.mono E.out.bel.size)
  clear hw19
  go_wp2
  go_ret
  exact ⟨rfl, HE.out⟩

set_option maxRecDepth 100000 in
theorem lifted (os : Os) (started : os.Started) (H : Type) (enc : TypeId × Value → H) :
    ReturnsInHanded {} Try.checked os 7 .any (Rows.fnExactWasteSpec.pre6 enc Try.prog Try.f7 Rows.fnExactWasteRow.domain false) (Rows.fnExactWasteSpec.post enc Try.prog Try.f7 false true false false) := by
  refine returnsInHanded_of_change (C := Try.checked) own started (by kernel_rfl) Try.func7
    (ChangeSpec.witness6 (enc := enc) (C := Try.checked) false ⟨#[], #[.agg #[.int .i64 0, .int .i64 0, .int .i64 0, .int .i64 0, .slice none 0 0, .slice none 0 0, .slice none 0 0]], []⟩ 8 (by kernel_rfl) (by kernel_rfl) (by kernel_rfl) (by kernel_rfl)) ?_
  intro W base args ds gs before hval0 hW hcnd _
  have hval : ∀ (j : Nat) t v, Try.f7.params[j]? = some t → args[j]? = some v → Value.okWide Try.prog W .any base t v := hval0
  have hW' := hW
  obtain ⟨p, q, hA0, hV, rfl, hfz, hnd⟩ := hW
  have hA : DataW.TrodAll enc Try.prog W 0 (fun _ => true) true Try.f7.params.toList args.toList ds p := hA0
  rw [Try.params7] at hA hval
  obtain ⟨v0, vs0, d0, ds0, p0, q0, hargs, rfl, rfl, h0, r0⟩ := trodAll_cons hA
  obtain ⟨rfl, rfl, rfl⟩ := trodAll_nil r0
  obtain rfl : args = #[v0] := by cases args; simp_all
  obtain ⟨rfl, rfl⟩ := trodVars_none hV
  have k0 := h0
  have lt0 : ∀ x ∈ p0, x.block < W.heap.size := by obtain ⟨m, hm⟩ := k0; exact DataW.trod_lt m _ _ _ hm
  obtain ⟨wd, now, given, births, a, ac, p, pc, l, lc, ks, ps, ls, rfl, hrow, hk, hp, hl, hbw⟩ := read_state (hval 0 26 v0 rfl rfl) h0
  clear hA0 hval0
  refine (walk wd now given births a p l ac pc lc ks ps ls W hrow hk hp hl hbw).mono fun e W' ⟨he, bel⟩ => ?_
  subst he
  exact ⟨_, rfl, _, _, _, [], _, [], hW', trodAll_mk1 (shut_bool Try.underlying4 _), (trodAll_cons_mk (Below.trod laidOut (by kernel_rfl) (of_decide_eq_true (by kernel_rfl)) k0 bel lt0) trodAll_mk0), rfl, bel.frame _, fun h => by cases h⟩

end ExactWaste

end Go.Proofs.Ytbelneejghdmoaa
