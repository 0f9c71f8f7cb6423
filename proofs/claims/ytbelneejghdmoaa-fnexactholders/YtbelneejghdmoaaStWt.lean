/-
  spec.Waste.
-/
import Derived.Test.YtbelneejghdmoaaStWs
import Derived.Test.YtbelneejghdmoaaStWa
namespace Go.Proofs.Ytbelneejghdmoaa
open Go.ChangeShapes Go.WideShapes Go.ChangeAt Go.RowKit
attribute [local go_sem ↓] Go.wp_at_zero Go.wp_at_succ

theorem SRow.farO {w w' : World} {B g : Nat} {ss : List ByteArray} {row : Option Nat} (h : SRow w B (some ⟨g, 0, none⟩) ss) (hg : w.grownBy w' row) (hne : row ≠ some g) (hlt : g < w.heap.size) : SRow w' B (some ⟨g, 0, none⟩) ss := by
  rcases h with h | ⟨b, off, ha, hb, hc⟩
  · exact .inl h
  · cases ha
    exact .inr ⟨g, 0, rfl, hb, fun i s hs => (hg.cell_far ⟨g, 0 + i, none⟩ hlt (fun e => hne e.symm)).trans (hc i s hs)⟩

set_option maxRecDepth 20000 in
set_option maxHeartbeats 8000000 in
theorem sWaste_any (wd now given births : Int) (a p l : Option Addr) (ac pc lc : Nat) (ks : List Kd) (ps : List Pd) (ls : List Ld) (w : World) (hrow : SRows w w.heap.size a p l ks ps ls) (hk : KMem ks) (hp : PMem ps) (hf : SFit ks ps ls) :
    Calls Try.prog 26 #[.agg #[.int .i64 wd, .int .i64 now, .int .i64 given, .int .i64 births, .slice a ks.length ac, .slice p ps.length pc, .slice l ls.length lc]] w fun e w' => ∃ v, e = .returned v ∧
      w'.ownsRow w.heap.size 9 1 v (wasteA wd now given births ks ps ls).length ((wasteA wd now given births ks ps ls).map Value.string) ∧ Below w.heap.size w w' := by
  obtain ⟨i0, hi, hz0, hz1, hz2⟩ := info_parts Try.infoStr
  obtain ⟨W0, hW0⟩ : ∃ W0, W0 = w.alloc (.cells #[.int .i64 wd, .int .i64 now, .int .i64 given, .int .i64 births, .slice a ks.length ac, .slice p ps.length pc, .slice l ls.length lc] 33) := ⟨_, rfl⟩
  have b0 : Below w.heap.size w W0 := by rw [hW0]; exact (Below.refl _ _).alloc (Nat.le_refl _) _
  have z0 : W0.heap.size = w.heap.size + 1 := by rw [hW0]; simp
  have X0 : SBox W0 w.heap.size wd now given births (.slice a ks.length ac) (.slice p ps.length pc) (.slice l ls.length lc) := by rw [hW0]; exact SBox.new w wd now given births _ _ _ 33
  obtain ⟨W1, hW1⟩ : ∃ W1, W1 = W0.alloc (.cells #[] 9) := ⟨_, rfl⟩
  have b01 : Below W0.heap.size W0 W1 := by rw [hW1]; exact (Below.refl _ _).alloc (Nat.le_refl _) _
  have b1 : Below w.heap.size w W1 := b0.trans (b01.mono b0.size)
  have z1 : W1.heap.size = w.heap.size + 2 := by rw [hW1]; simp [z0]
  have O1 : W1.ownsRow (w.heap.size + 1) 9 1 (.slice (some ⟨w.heap.size + 1, 0, none⟩) 0 0) 0 (([] : List ByteArray).map Value.string) := by
    have := World.ownsRow_lit (base := w.heap.size + 1) (e := 9) (size := 1) W0 #[] 0 (by omega) (by unfold maxLen; omega) rfl
    rw [z0] at this
    rw [hW1]
    exact this
  have HW1 : Hid (W1 = (w.alloc (.cells #[.int .i64 wd, .int .i64 now, .int .i64 given, .int .i64 births, .slice a ks.length ac, .slice p ps.length pc, .slice l ls.length lc] 33)).alloc (.cells #[] 9)) := by show _ = _; rw [hW1, hW0]
  have HR : Hid _ := hrow
  have HM : Hid _ := And.intro hk (And.intro hp hf)
  have X1 := X0.keep b01 (by omega)
  have HX : Hid (SBox W1 w.heap.size wd now given births (.slice a ks.length ac) (.slice p ps.length pc) (.slice l ls.length lc)) := X1
  have HO1 : Hid (W1.ownsRow (w.heap.size + 1) 9 1 (.slice (some ⟨w.heap.size + 1, 0, none⟩) 0 0) 0 (([] : List ByteArray).map Value.string)) := O1
  obtain ⟨x0, x1, x2, x3, x4, x5, x6, x7⟩ := X1
  clear hW1 hW0 hrow hk hp hf X0 O1 b01 b0 z0
  go_enter Try.func26, Try.ntmps26
  go_upto_region 2 with fail
  rw [← HW1.out]
  clear HW1
  go_wp2_with fail
  refine (sValidState_any wd now given births a p l ac pc lc ks ps ls W1 (SRows.below' HR.out b1) HM.out.1 HM.out.2.1 HM.out.2.2).mono ?_
  rintro e w2 ⟨b2, rfl, hs2, hb2⟩
  have z2 := hb2.size
  have B2 : Below w.heap.size w w2 := b1.trans (hb2.mono b1.size)
  have HX2 : Hid (SBox w2 w.heap.size wd now given births (.slice a ks.length ac) (.slice p ps.length pc) (.slice l ls.length lc)) := SBox.keep HX.out hb2 (by omega)
  have HO2 : Hid (w2.ownsRow (w.heap.size + 1) 9 1 (.slice (some ⟨w.heap.size + 1, 0, none⟩) 0 0) 0 (([] : List ByteArray).map Value.string)) := World.ownsRow.kept HO1.out (grown_below none hb2) (Classical.em _)
  clear x0 x1 x2 x3 x4 x5 x6 x7 HO1 HX hb2
  cases b2 with
  | false =>
    have HN : Hid (¬ StateOk wd now given births ks ps ls) := fun h => by have := hs2.2 h; cases this
    clear hs2
    go_wp2
    go_ret
    refine ⟨_, rfl, ?_, B2⟩
    unfold wasteA
    rw [if_neg HN.out]
    exact World.ownsRow.mono HO2.out (by omega)
  | true =>
    have hP := hs2.1 rfl
    have HP : Hid _ := hP
    have hnk := hP.nth
    obtain ⟨x0, x1, x2, x3, x4, x5, x6, x7⟩ := HX2.out
    clear hs2 hP
    go_wp2_with fail
    refine (sLive_yes wd now given births a p l ac pc lc ks ps ls w2 (SRows.below' HR.out B2) HM.out.1 HM.out.2.1 HM.out.2.2 HP.out).mono ?_
    rintro e w4 ⟨gl, cl, R, rfl, ho4, hiff, hnd, hRl, hb4⟩
    have z4 := hb4.size
    have B4 : Below w.heap.size w w4 := B2.trans (hb4.mono B2.size)
    have HX4 : Hid (SBox w4 w.heap.size wd now given births (.slice a ks.length ac) (.slice p ps.length pc) (.slice l ls.length lc)) := SBox.keep HX2.out hb4 (by omega)
    have HO4 : Hid (w4.ownsRow (w.heap.size + 1) 9 1 (.slice (some ⟨w.heap.size + 1, 0, none⟩) 0 0) 0 (([] : List ByteArray).map Value.string)) := World.ownsRow.kept HO2.out (grown_below none hb4) (Classical.em _)
    have hgl := ho4.lt gl rfl
    have HS4 : Hid (SRow w4 w4.heap.size (some ⟨gl, 0, none⟩) (sortS R)) := SRow.own ho4
    have hsl := sortS_length R
    have HI : Hid (∀ s, (s ∈ sortS R) ↔ Reach ks (rootS ps ls) s) := fun s => sortS_all.trans (hiff s)
    generalize sortS R = R' at *
    clear ho4 hiff hnd HX2 HO2 hb4 x0 x1 x2 x3 x4 x5 x6 x7
    go_wp2
    go_loopw [3, 5] (fun v i wr => ∃ (k : Nat), k ≤ ks.length ∧ i = .int .i64 k ∧ Hid (wr.ownsRow (w.heap.size + 1) 9 1 v (wasteK ks (ks.take k) (rootS ps ls)).length ((wasteK ks (ks.take k) (rootS ps ls)).map Value.string)) ∧ Hid (v.ownBlock ≠ some gl) ∧ Hid (SRow wr wr.heap.size (some ⟨gl, 0, none⟩) R') ∧ Below w.heap.size w wr ∧ Hid (SBox wr w.heap.size wd now given births (.slice a ks.length ac) (.slice p ps.length pc) (.slice l ls.length lc)) ∧ w4.heap.size ≤ wr.heap.size) (fun _ i _ => ks.length - (intOf i).toNat)
    case atStart => exact ⟨0, Nat.zero_le _, rfl, HO4, (fun e => by simp [Value.ownBlock] at e; omega), HS4, B4, HX4, Nat.le_refl _⟩
    case round =>
      obtain ⟨k, hkk, rfl, HOw, HNe, HSr, B6, HX6, z6⟩ := hrel
      obtain ⟨x0, x1, x2, x3, x4, x5, x6, x7⟩ := HX6.out
      by_cases hlt : k < ks.length
      · obtain ⟨b, off, ha, hb, hc⟩ := (KRow.below HR.out.k B6).at hlt
        subst ha
        have HG : Hid (ks[k]? = some ks[k]) := List.getElem?_eq_getElem hlt
        obtain ⟨c0, _⟩ := hc k _ HG.out
        have hbr : b < wr.heap.size := by have := B6.size; omega
        clear hc
        generalize ks[k] = x at *
        have hwl := wasteK_len ks (ks.take k) (rootS ps ls)
        have hwl2 : (ks.take k).length ≤ 600 := by simp; omega
        go_wp2_with fail
        refine (has_any _ cl R' x.sum wr _ HSr.out (by omega)).mono ?_
        rintro e w7 ⟨rfl, hw7⟩
        rw [hw7]
        clear hw7 w7
        have hmem : (R'.any (fun y => decide (y = x.sum))) = true ↔ Reach ks (rootS ps ls) x.sum := by
          rw [← HI.out]
          simp
        cases hin : R'.any (fun y => decide (y = x.sum)) with
        | true =>
          have HE : Hid _ := wasteK_snoc_yes (ks := ks) (fr := rootS ps ls) HG.out (hmem.1 hin)
          have HN9 : Hid (wr.ownsRow (w.heap.size + 1) 9 1 u3 (wasteK ks (ks.take (k + 1)) (rootS ps ls)).length ((wasteK ks (ks.take (k + 1)) (rootS ps ls)).map Value.string)) := by
            rw [HE.out]
            exact HOw
          clear hmem
          go_wp2
          exact ⟨⟨k + 1, by omega, by go_num, HN9, HNe, HSr, B6, HX6, z6⟩, by simp [intOf]; omega⟩
        | false =>
          have HE : Hid _ := wasteK_snoc_no (ks := ks) (fr := rootS ps ls) HG.out (fun h => by have := hmem.2 h; rw [hin] at this; cases this)
          clear hmem
          go_wp2_with (first
            | (at_builtin; refine wpList_append_own_at _ rfl _ _ 38 rfl (w.heap.size + 1) 9 i0 (.string ⟨#[]⟩) 1 16 Try.underlying38 hi hz0 hz1 hz2 rfl (by decide) _ (wasteK ks (ks.take k) (rootS ps ls)).length ((wasteK ks (ks.take k) (rootS ps ls)).map Value.string) rfl ?d0 ⟨wr.heap.size, 0, none⟩ 1 1 [.string x.sum] rfl rfl ?d1 ?d2 ?d3 ?d4 ?d5 ?_)
            | go_in)
          case d0 => exact World.ownsRow.alloc HOw.out _
          case d1 => exact cell_one_new _ _ _
          case d2 => intro u hu; simp at hu; subst hu; rfl
          case d3 => unfold maxLen; omega
          case d4 => omega
          case d5 => simp; omega
          intro v' w9 hown' hgrow _ hat
          have hb9 : Below (w.heap.size + 1) wr w9 := ((Below.refl _ _).alloc (by omega) _).grown hgrow (by simp; omega) (fun q hq => (World.ownsRow.lt HOw.out q hq).1)
          have HN9 : Hid (w9.ownsRow (w.heap.size + 1) 9 1 v' (wasteK ks (ks.take (k + 1)) (rootS ps ls)).length ((wasteK ks (ks.take (k + 1)) (rootS ps ls)).map Value.string)) := by
            rw [HE.out, List.length_append, List.map_append]
            exact hown'
          have HNe9 : Hid (v'.ownBlock ≠ some gl) := fun e => by
            rcases hat with h | h
            · exact HNe.out (h ▸ e)
            · rw [h] at e; simp at e; omega
          have HS9 : Hid (SRow w9 w9.heap.size (some ⟨gl, 0, none⟩) R') := by
            have h1 : SRow (wr.alloc (.cells #[.string x.sum] 9)) wr.heap.size (some ⟨gl, 0, none⟩) R' := SRow.below HSr.out ((Below.refl _ _).alloc (Nat.le_refl _) _)
            exact (h1.farO hgrow HNe.out (by simp; omega)).mono hb9.size
          have HX9 : Hid (SBox w9 w.heap.size wd now given births (.slice (some ⟨b, off, none⟩) ks.length ac) (.slice p ps.length pc) (.slice l ls.length lc)) := SBox.keep HX6.out hb9 (by omega)
          have hz9 := hb9.size
          clear hown' hgrow hat
          go_wp2
          exact ⟨⟨k + 1, by omega, by go_num, HN9, HNe9, HS9, B6.trans (hb9.mono (by omega)), HX9, by omega⟩, by simp [intOf]; omega⟩
      · rw [List.take_of_length_le (by omega)] at HOw
        go_wp2
        go_ret
        refine ⟨_, rfl, ?_, B6⟩
        unfold wasteA
        rw [if_pos HP.out]
        exact World.ownsRow.mono HOw.out (by omega)

end Go.Proofs.Ytbelneejghdmoaa
