/-
  spec.Holders.
-/
import Derived.Test.YtbelneejghdmoaaStHo
import Derived.Test.YtbelneejghdmoaaStWt
namespace Go.Proofs.Ytbelneejghdmoaa
open Go.ChangeShapes Go.WideShapes Go.ChangeAt Go.RowKit
attribute [local go_sem ↓] Go.wp_at_zero Go.wp_at_succ

theorem SRow.one (w : World) (s : ByteArray) (t : TypeId) : SRow (w.alloc (.cells #[.string s] t)) (w.alloc (.cells #[.string s] t)).heap.size (some ⟨w.heap.size, 0, none⟩) [s] :=
  .inr ⟨w.heap.size, 0, rfl, by simp, fun i u hu => by
    cases i with
    | zero => simp at hu; subst hu; simp [go_sem]
    | succ i => simp at hu⟩

/-- What spec.Holders answers. -/
structure HeldS (w : World) (P : List ByteArray) (L : List Int) (e : Ending) (w' : World) : Prop where
  ex : ∃ v1 v2, e = .returned (.tuple #[v1, v2]) ∧ w'.ownsRow w.heap.size 9 1 v1 P.length (P.map Value.string) ∧ w'.ownsRow w.heap.size 3 1 v2 L.length (L.map (Value.int .i64)) ∧ Below w.heap.size w w'

set_option maxRecDepth 20000 in
set_option maxHeartbeats 16000000 in
theorem sHolders_any (wd now given births : Int) (a p l : Option Addr) (ac pc lc : Nat) (ks : List Kd) (ps : List Pd) (ls : List Ld) (sum : ByteArray) (w : World) (hrow : SRows w w.heap.size a p l ks ps ls) (hk : KMem ks) (hp : PMem ps) (hf : SFit ks ps ls) :
    Calls Try.prog 31 #[.agg #[.int .i64 wd, .int .i64 now, .int .i64 given, .int .i64 births, .slice a ks.length ac, .slice p ps.length pc, .slice l ls.length lc], .string sum] w fun e w' => HeldS w (holdPA wd now given births ks ps ls sum) (holdLA wd now given births ks ps ls sum) e w' := by
  obtain ⟨i0, hi, hz0, hz1, hz2⟩ := info_parts Try.infoStr
  obtain ⟨i1, hi', hy0, hy1, hy2⟩ := info_parts Try.infoInt
  obtain ⟨W0, hW0⟩ : ∃ W0, W0 = w.alloc (.cells #[.int .i64 wd, .int .i64 now, .int .i64 given, .int .i64 births, .slice a ks.length ac, .slice p ps.length pc, .slice l ls.length lc] 33) := ⟨_, rfl⟩
  have b0 : Below w.heap.size w W0 := by rw [hW0]; exact (Below.refl _ _).alloc (Nat.le_refl _) _
  have z0 : W0.heap.size = w.heap.size + 1 := by rw [hW0]; simp
  have X0 : SBox W0 w.heap.size wd now given births (.slice a ks.length ac) (.slice p ps.length pc) (.slice l ls.length lc) := by rw [hW0]; exact SBox.new w wd now given births _ _ _ 33
  obtain ⟨Wa, hWa⟩ : ∃ Wa, Wa = W0.alloc (.cells #[] 9) := ⟨_, rfl⟩
  have b0a : Below W0.heap.size W0 Wa := by rw [hWa]; exact (Below.refl _ _).alloc (Nat.le_refl _) _
  have za : Wa.heap.size = w.heap.size + 2 := by rw [hWa]; simp [z0]
  have Oa : Wa.ownsRow (w.heap.size + 1) 9 1 (.slice (some ⟨w.heap.size + 1, 0, none⟩) 0 0) 0 (([] : List ByteArray).map Value.string) := by
    have := World.ownsRow_lit (base := w.heap.size + 1) (e := 9) (size := 1) W0 #[] 0 (by omega) (by unfold maxLen; omega) rfl
    rw [z0] at this
    rw [hWa]
    exact this
  obtain ⟨W1, hW1⟩ : ∃ W1, W1 = Wa.alloc (.cells #[] 3) := ⟨_, rfl⟩
  have ba1 : Below Wa.heap.size Wa W1 := by rw [hW1]; exact (Below.refl _ _).alloc (Nat.le_refl _) _
  have z1 : W1.heap.size = w.heap.size + 3 := by rw [hW1]; simp [za]
  have Ob : W1.ownsRow (w.heap.size + 2) 3 1 (.slice (some ⟨w.heap.size + 2, 0, none⟩) 0 0) 0 (([] : List Int).map (Value.int .i64)) := by
    have := World.ownsRow_lit (base := w.heap.size + 2) (e := 3) (size := 1) Wa #[] 0 (by omega) (by unfold maxLen; omega) rfl
    rw [za] at this
    rw [hW1]
    exact this
  have b01 : Below W0.heap.size W0 W1 := b0a.trans (ba1.mono b0a.size)
  have b1 : Below w.heap.size w W1 := b0.trans (b01.mono b0.size)
  have HW1 : Hid (W1 = ((w.alloc (.cells #[.int .i64 wd, .int .i64 now, .int .i64 given, .int .i64 births, .slice a ks.length ac, .slice p ps.length pc, .slice l ls.length lc] 33)).alloc (.cells #[] 9)).alloc (.cells #[] 3)) := by show _ = _; rw [hW1, hWa, hW0]
  have HR : Hid _ := hrow
  have HM : Hid _ := And.intro hk (And.intro hp hf)
  have X1 := X0.keep b01 (by omega)
  have HX : Hid (SBox W1 w.heap.size wd now given births (.slice a ks.length ac) (.slice p ps.length pc) (.slice l ls.length lc)) := X1
  have HO1 : Hid (W1.ownsRow (w.heap.size + 1) 9 1 (.slice (some ⟨w.heap.size + 1, 0, none⟩) 0 0) 0 (([] : List ByteArray).map Value.string) ∧ W1.ownsRow (w.heap.size + 2) 3 1 (.slice (some ⟨w.heap.size + 2, 0, none⟩) 0 0) 0 (([] : List Int).map (Value.int .i64))) := ⟨World.ownsRow.kept Oa (grown_below none ba1) (Classical.em _), Ob⟩
  obtain ⟨x0, x1, x2, x3, x4, x5, x6, x7⟩ := X1
  clear hW1 hW0 hWa hrow hk hp hf X0 Oa Ob b01 b0a ba1 b0 z0 za
  go_enter Try.func31, Try.ntmps31
  go_upto_region 3 with fail
  rw [← HW1.out]
  clear HW1
  go_wp2_with fail
  refine (sValidState_any wd now given births a p l ac pc lc ks ps ls W1 (SRows.below' HR.out b1) HM.out.1 HM.out.2.1 HM.out.2.2).mono ?_
  rintro e wA ⟨b2, rfl, hs2, hb2⟩
  have zA := hb2.size
  have BA : Below w.heap.size w wA := b1.trans (hb2.mono b1.size)
  have HXA : Hid (SBox wA w.heap.size wd now given births (.slice a ks.length ac) (.slice p ps.length pc) (.slice l ls.length lc)) := SBox.keep HX.out hb2 (by omega)
  have HOA : Hid (wA.ownsRow (w.heap.size + 1) 9 1 (.slice (some ⟨w.heap.size + 1, 0, none⟩) 0 0) 0 (([] : List ByteArray).map Value.string) ∧ wA.ownsRow (w.heap.size + 2) 3 1 (.slice (some ⟨w.heap.size + 2, 0, none⟩) 0 0) 0 (([] : List Int).map (Value.int .i64))) := ⟨World.ownsRow.kept HO1.out.1 (grown_below none hb2) (Classical.em _), World.ownsRow.kept HO1.out.2 (grown_below none hb2) (Classical.em _)⟩
  clear x0 x1 x2 x3 x4 x5 x6 x7 HO1 HX hb2
  cases b2 with
  | false =>
    have HN : Hid (¬ HoldOk wd now given births ks ps ls sum) := fun h => by have := hs2.2 h.1; cases this
    clear hs2
    go_wp2
    go_ret2
    refine ⟨_, _, rfl, ?_, ?_, BA⟩
    · unfold holdPA
      rw [if_neg HN.out]
      exact World.ownsRow.mono HOA.out.1 (by omega)
    · unfold holdLA
      rw [if_neg HN.out]
      exact World.ownsRow.mono HOA.out.2 (by omega)
  | true =>
    have hP := hs2.1 rfl
    have HP : Hid _ := hP
    have HO : Hid _ := walkOk_of hP
    have hnk := hP.nth
    have hnp := hP.np
    have hnl := hP.nl
    obtain ⟨x0, x1, x2, x3, x4, x5, x6, x7⟩ := HXA.out
    clear hs2 hP
    have HC : Hid _ := find_any wd now given births a ac (.slice p ps.length pc) (.slice l ls.length lc) ks sum wA _ (SRows.below' HR.out BA).k (Nat.le_refl _) (by omega)
    go_wp2_with fail
    refine Calls.mono HC.out ?_
    rintro e w4 ⟨rfl, hb4⟩
    have z4 := hb4.size
    have B4 : Below w.heap.size w w4 := BA.trans (hb4.mono BA.size)
    have HX4 : Hid (SBox w4 w.heap.size wd now given births (.slice a ks.length ac) (.slice p ps.length pc) (.slice l ls.length lc)) := SBox.keep HXA.out hb4 (by omega)
    have HO4 : Hid (w4.ownsRow (w.heap.size + 1) 9 1 (.slice (some ⟨w.heap.size + 1, 0, none⟩) 0 0) 0 (([] : List ByteArray).map Value.string) ∧ w4.ownsRow (w.heap.size + 2) 3 1 (.slice (some ⟨w.heap.size + 2, 0, none⟩) 0 0) 0 (([] : List Int).map (Value.int .i64))) := ⟨World.ownsRow.kept HOA.out.1 (grown_below none hb4) (Classical.em _), World.ownsRow.kept HOA.out.2 (grown_below none hb4) (Classical.em _)⟩
    clear x0 x1 x2 x3 x4 x5 x6 x7 HC HOA HXA hb4
    have hcs := findI_cases ks sum
    generalize findI ks sum = fi at *
    by_cases hfi : fi < 0
    · have HN : Hid (¬ HoldOk wd now given births ks ps ls sum) := fun h => by
        rcases hcs with ⟨_, h2⟩ | ⟨i, k, h2, _⟩
        · exact h2 h.2
        · omega
      have hd : decide (fi < 0) = true := by simpa using hfi
      clear hcs
      go_wp2
      go_ret2
      refine ⟨_, _, rfl, ?_, ?_, B4⟩
      · unfold holdPA
        rw [if_neg HN.out]
        exact World.ownsRow.mono HO4.out.1 (by omega)
      · unfold holdLA
        rw [if_neg HN.out]
        exact World.ownsRow.mono HO4.out.2 (by omega)
    have hd : decide (fi < 0) = false := by simpa using hfi
    have HT : Hid (There ks sum) := by
      rcases hcs with ⟨h2, _⟩ | ⟨i, k, h2, h3, h4⟩
      · omega
      · exact ⟨k, List.mem_of_getElem? h3, h4⟩
    clear hcs
    obtain ⟨x0, x1, x2, x3, x4, x5, x6, x7⟩ := HX4.out
    go_wp2
    go_loopw [6, 8] (fun v i wr => ∃ (k : Nat), k ≤ ps.length ∧ i = .int .i64 k ∧ Hid (wr.ownsRow (w.heap.size + 1) 9 1 v (holdP ks (ps.take k) sum).length ((holdP ks (ps.take k) sum).map Value.string)) ∧ Hid (v.ownBlock ≠ some (w.heap.size + 2)) ∧ Hid (wr.ownsRow (w.heap.size + 2) 3 1 (.slice (some ⟨w.heap.size + 2, 0, none⟩) 0 0) 0 (([] : List Int).map (Value.int .i64))) ∧ Below w.heap.size w wr ∧ Hid (SBox wr w.heap.size wd now given births (.slice a ks.length ac) (.slice p ps.length pc) (.slice l ls.length lc)) ∧ w4.heap.size ≤ wr.heap.size) (fun _ i _ => ps.length - (intOf i).toNat)
    case atStart => exact ⟨0, Nat.zero_le _, rfl, HO4.out.1, (fun e => by simp [Value.ownBlock] at e), HO4.out.2, B4, HX4, Nat.le_refl _⟩
    case round =>
      rename World => w6
      clear x0 x1 x2 x3 x4 x5 x6 x7
      obtain ⟨k, hkk, rfl, HOw, HNe, HOt, B6, HX6, z6⟩ := hrel
      obtain ⟨x0, x1, x2, x3, x4, x5, x6, x7⟩ := HX6.out
      by_cases hlt : k < ps.length
      · obtain ⟨b, off, ha, hb, hc⟩ := (PRow.below HR.out.p B6).at hlt
        subst ha
        have HG : Hid (ps[k]? = some ps[k]) := List.getElem?_eq_getElem hlt
        obtain ⟨c0, c1⟩ := hc k _ HG.out
        have hbr : b < w6.heap.size := by have := B6.size; omega
        clear hc
        generalize ps[k] = x at *
        have hwl := holdP_len ks (ps.take k) sum
        have hwl2 : (ps.take k).length ≤ 600 := by simp; omega
        have kD : Below w6.heap.size w6 w6.drew := (Below.refl _ _).drew
        have hS0 := And.intro (sb7 (SBox.keep HX6.out kD (by omega))) ((kD.cell (p := ⟨b, off + k * 2 + 1, none⟩) hbr).trans c1)
        have zC := B6.size
        have k3 : Below w6.heap.size w6 (w6.drew.alloc (.cells #[.string x.sum] 9)) := kD.alloc kD.size _
        have hS3 := And.intro (sb7 (SBox.keep HX6.out k3 (by omega))) ((k3.cell (p := ⟨b, off + k * 2 + 1, none⟩) hbr).trans c1)
        go_upto_region 8 with fail
        go_cut [40] (fun v wx => ∃ bb : Bool, v = .bool bb ∧ Hid (bb = true ↔ Reach ks [x.sum] sum) ∧ Hid (Below w6.heap.size w6 wx))
        case first =>
          clear x0 x1 x2 x3 x4 x5 x6 x7
          go_region_held3 (fun w' => (w'.cell? ⟨w.heap.size, 0, none⟩ = some (.int .i64 wd) ∧ w'.cell? ⟨w.heap.size, 1, none⟩ = some (.int .i64 now) ∧ w'.cell? ⟨w.heap.size, 2, none⟩ = some (.int .i64 given) ∧ w'.cell? ⟨w.heap.size, 3, none⟩ = some (.int .i64 births) ∧ w'.cell? ⟨w.heap.size, 4, none⟩ = some (.slice a ks.length ac) ∧ w'.cell? ⟨w.heap.size, 5, none⟩ = some (.slice (some ⟨b, off, none⟩) ps.length pc) ∧ w'.cell? ⟨w.heap.size, 6, none⟩ = some (.slice l ls.length lc)) ∧ w'.cell? ⟨b, off + k * 2 + 1, none⟩ = some (.string x.sum))
            (first | exact hS0 | exact hS3 | exact hS4)
            (first
              | (go_at_call 73; refine (sBelow_any wd now given births a ac _ _ ks _ 1 [x.sum] (w6.drew.alloc (.cells #[.string x.sum] 9)) (SRows.below' HR.out (B6.trans (k3.mono B6.size))).k (SRow.one _ _ _) hnk (by simp) HO.out.r30 HO.out.uniq).mono ?_; rintro e w8 ⟨g8, c8, R, rfl, ho8, hB8, hb8⟩; have k4 : Below w6.heap.size w6 w8 := k3.trans (hb8.mono k3.size); have hS4 := And.intro (sb7 (SBox.keep HX6.out k4 (by omega))) ((k4.cell (p := ⟨b, off + k * 2 + 1, none⟩) hbr).trans c1); have hRl : R.length ≤ 20000 := (by have h1 := nodup_le hB8.nd hB8.pool; have h2 := pool_length (ks := ks) (from' := [x.sum]) HO.out.r30; simp at h2; omega); have HRe : Hid _ := (hB8.reach (x := sum)); have HS8 : Hid _ := SRow.own ho8)
              | (go_at_call 68; refine (has_any _ c8 R sum w8 _ HS8.out (by omega)).mono ?_; rintro e w9 ⟨rfl, hw9⟩; rw [hw9]; have hmemR : (R.any (fun y => decide (y = sum))) = true ↔ Reach ks [x.sum] sum := (by rw [← HRe.out]; simp); have HMR : Hid _ := hmemR))
          all_goals
            go_wp2_with fail
            go_meet
            exact ⟨_, rfl, HMR, k4⟩
        case rest =>
        revert wc
        intro w8 hcut
        obtain ⟨bb, rfl, HBB, K8⟩ := hcut
        have k8 := K8.out
        have z8 := k8.size
        have B8 : Below w.heap.size w w8 := B6.trans (k8.mono B6.size)
        have HX8 : Hid (SBox w8 w.heap.size wd now given births (.slice a ks.length ac) (.slice (some ⟨b, off, none⟩) ps.length pc) (.slice l ls.length lc)) := SBox.keep HX6.out k8 (by omega)
        have HO8 : Hid _ := World.ownsRow.kept HOw.out (grown_below none k8) (Classical.em _)
        have HT8 : Hid (w8.ownsRow (w.heap.size + 2) 3 1 (.slice (some ⟨w.heap.size + 2, 0, none⟩) 0 0) 0 (([] : List Int).map (Value.int .i64))) := World.ownsRow.kept HOt.out (grown_below none k8) (Classical.em _)
        have n8 := (k8.cell (p := ⟨b, off + k * 2, none⟩) hbr).trans c0
        clear x0 x1 x2 x3 x4 x5 x6 x7 c0 c1 hS0 kD K8 k3 hS3
        obtain ⟨x0, x1, x2, x3, x4, x5, x6, x7⟩ := HX8.out
        cases bb with
        | false =>
          have HE : Hid _ := holdP_no (ks := ks) (s := sum) HG.out (fun h => by have := HBB.out.2 h; cases this)
          have HN9 : Hid (w8.ownsRow (w.heap.size + 1) 9 1 u6 (holdP ks (ps.take (k + 1)) sum).length ((holdP ks (ps.take (k + 1)) sum).map Value.string)) := by
            rw [HE.out]
            exact HO8.out
          go_wp2
          exact ⟨⟨k + 1, by omega, by go_num, HN9, HNe, HT8, B8, HX8, by omega⟩, by simp [intOf]; omega⟩
        | true =>
          have HE : Hid _ := holdP_yes (ks := ks) (s := sum) HG.out (HBB.out.1 rfl)
          go_wp2_with (first
            | (at_builtin; refine wpList_append_own_at _ rfl _ _ 38 rfl ((w.heap.size + 1)) 9 i0 (.string ⟨#[]⟩) 1 16 Try.underlying38 hi hz0 hz1 hz2 rfl (by decide) _ (holdP ks (ps.take k) sum).length ((holdP ks (ps.take k) sum).map Value.string) rfl ?d0 ⟨w8.heap.size, 0, none⟩ 1 1 [.string x.name] rfl rfl ?d1 ?d2 ?d3 ?d4 ?d5 ?_)
            | go_in)
          case d0 => exact World.ownsRow.alloc HO8.out _
          try (case d1 => exact cell_one_new _ _ _)
          case d2 => first | (intro u hu; simp at hu; subst hu; rfl) | rfl
          case d3 => first | omega | (unfold maxLen; omega)
          case d4 => omega
          case d5 => first | omega | (simp; omega)
          intro v' w9 hown' hgrow _ hat
          have hb9 : Below ((w.heap.size + 1)) w8 w9 := ((Below.refl _ _).alloc (by omega) _).grown hgrow (by simp; omega) (fun q hq => (World.ownsRow.lt HO8.out q hq).1)
          have HN9 : Hid (w9.ownsRow ((w.heap.size + 1)) 9 1 v' (holdP ks (ps.take (k + 1)) sum).length ((holdP ks (ps.take (k + 1)) sum).map Value.string)) := by
            rw [HE.out, List.length_append, List.map_append]
            exact hown'
          have HNe9 : Hid (v'.ownBlock ≠ some (w.heap.size + 2)) := fun e => by
            rcases hat with h | h
            · exact HNe.out (h ▸ e)
            · rw [h] at e; simp at e; omega
          have HT9 : Hid (w9.ownsRow (w.heap.size + 2) 3 1 (.slice (some ⟨w.heap.size + 2, 0, none⟩) 0 0) 0 (([] : List Int).map (Value.int .i64))) := World.ownsRow.kept (World.ownsRow.alloc HT8.out _) hgrow (.inr (fun e => HNe.out (by rw [← e]; rfl)))
          have HX9 : Hid (SBox w9 w.heap.size wd now given births (.slice a ks.length ac) (.slice (some ⟨b, off, none⟩) ps.length pc) (.slice l ls.length lc)) := SBox.keep HX8.out hb9 (by omega)
          have hz9 := hb9.size
          clear hown' hgrow hat x0 x1 x2 x3 x4 x5 x6 x7
          go_wp2
          exact ⟨⟨k + 1, by omega, by go_num, HN9, HNe9, HT9, B8.trans (hb9.mono (by omega)), HX9, by omega⟩, by simp [intOf]; omega⟩
      · rw [List.take_of_length_le (by omega)] at HOw
        have hu6 : ∀ g, u6.ownBlock = some g → g < w6.heap.size := fun g hg => (World.ownsRow.lt HOw.out g hg).2
        have HNu : Hid (u6.ownBlock ≠ some (w.heap.size + 2)) := HNe
        have HOn : Hid (w6.ownsRow (w.heap.size + 1) 9 1 u6 (holdP ks ps sum).length ((holdP ks ps sum).map Value.string)) := HOw
        have HOi : Hid _ := HOt
        have HX6b : Hid (SBox w6 w.heap.size wd now given births (.slice a ks.length ac) (.slice p ps.length pc) (.slice l ls.length lc)) := HX6
        have B6b := B6
        have z46 := z6
        clear HOw HNe HOt HX6 B6 z6
        go_wp2
        go_loopw [7, 9] (fun v i wr => ∃ (k : Nat), k ≤ ls.length ∧ i = .int .i64 k ∧ Hid (wr.ownsRow (w.heap.size + 2) 3 1 v (holdL ks (ls.take k) sum).length ((holdL ks (ls.take k) sum).map (Value.int .i64))) ∧ Hid (u6.ownBlock = none ∨ u6.ownBlock ≠ v.ownBlock) ∧ Hid (wr.ownsRow (w.heap.size + 1) 9 1 u6 (holdP ks ps sum).length ((holdP ks ps sum).map Value.string)) ∧ Below w.heap.size w wr ∧ Hid (SBox wr w.heap.size wd now given births (.slice a ks.length ac) (.slice p ps.length pc) (.slice l ls.length lc)) ∧ w6.heap.size ≤ wr.heap.size) (fun _ i _ => ls.length - (intOf i).toNat)
        case atStart => exact ⟨0, Nat.zero_le _, rfl, HOi, .inr HNu.out, HOn, B6b, HX6b, Nat.le_refl _⟩
        case round =>
          rename World => wl
          clear x0 x1 x2 x3 x4 x5 x6 x7
          obtain ⟨k, hkk, rfl, HOw, HNe, HOt, B6, HX6, z6⟩ := hrel
          obtain ⟨x0, x1, x2, x3, x4, x5, x6, x7⟩ := HX6.out
          by_cases hlt : k < ls.length
          · obtain ⟨b, off, ha, hb, hc⟩ := (LRow.below HR.out.l B6).at hlt
            subst ha
            have HG : Hid (ls[k]? = some ls[k]) := List.getElem?_eq_getElem hlt
            obtain ⟨c0, c1, c2⟩ := hc k _ HG.out
            have hbr : b < wl.heap.size := by have := B6.size; omega
            clear hc
            generalize ls[k] = x at *
            have hwl := holdL_len ks (ls.take k) sum
            have hwl2 : (ls.take k).length ≤ 600 := by simp; omega
            have kD : Below wl.heap.size wl wl.drew := (Below.refl _ _).drew
            have hS0 := And.intro (sb7 (SBox.keep HX6.out kD (by omega))) ((kD.cell (p := ⟨b, off + k * 3 + 1, none⟩) hbr).trans c1)
            have zC := B6.size
            have k3 : Below wl.heap.size wl (wl.drew.alloc (.cells #[.string x.sum] 9)) := kD.alloc kD.size _
            have hS3 := And.intro (sb7 (SBox.keep HX6.out k3 (by omega))) ((k3.cell (p := ⟨b, off + k * 3 + 1, none⟩) hbr).trans c1)
            go_upto_region 13 with fail
            go_cut [67] (fun v wx => ∃ bb : Bool, v = .bool bb ∧ Hid (bb = true ↔ Reach ks [x.sum] sum) ∧ Hid (Below wl.heap.size wl wx))
            case first =>
              clear x0 x1 x2 x3 x4 x5 x6 x7
              go_region_held3 (fun w' => (w'.cell? ⟨w.heap.size, 0, none⟩ = some (.int .i64 wd) ∧ w'.cell? ⟨w.heap.size, 1, none⟩ = some (.int .i64 now) ∧ w'.cell? ⟨w.heap.size, 2, none⟩ = some (.int .i64 given) ∧ w'.cell? ⟨w.heap.size, 3, none⟩ = some (.int .i64 births) ∧ w'.cell? ⟨w.heap.size, 4, none⟩ = some (.slice a ks.length ac) ∧ w'.cell? ⟨w.heap.size, 5, none⟩ = some (.slice p ps.length pc) ∧ w'.cell? ⟨w.heap.size, 6, none⟩ = some (.slice (some ⟨b, off, none⟩) ls.length lc)) ∧ w'.cell? ⟨b, off + k * 3 + 1, none⟩ = some (.string x.sum))
                (first | exact hS0 | exact hS3 | exact hS4)
                (first
                  | (go_at_call 73; refine (sBelow_any wd now given births a ac _ _ ks _ 1 [x.sum] (wl.drew.alloc (.cells #[.string x.sum] 9)) (SRows.below' HR.out (B6.trans (k3.mono B6.size))).k (SRow.one _ _ _) hnk (by simp) HO.out.r30 HO.out.uniq).mono ?_; rintro e w8 ⟨g8, c8, R, rfl, ho8, hB8, hb8⟩; have k4 : Below wl.heap.size wl w8 := k3.trans (hb8.mono k3.size); have hS4 := And.intro (sb7 (SBox.keep HX6.out k4 (by omega))) ((k4.cell (p := ⟨b, off + k * 3 + 1, none⟩) hbr).trans c1); have hRl : R.length ≤ 20000 := (by have h1 := nodup_le hB8.nd hB8.pool; have h2 := pool_length (ks := ks) (from' := [x.sum]) HO.out.r30; simp at h2; omega); have HRe : Hid _ := (hB8.reach (x := sum)); have HS8 : Hid _ := SRow.own ho8)
                  | (go_at_call 68; refine (has_any _ c8 R sum w8 _ HS8.out (by omega)).mono ?_; rintro e w9 ⟨rfl, hw9⟩; rw [hw9]; have hmemR : (R.any (fun y => decide (y = sum))) = true ↔ Reach ks [x.sum] sum := (by rw [← HRe.out]; simp); have HMR : Hid _ := hmemR))
              all_goals
                go_wp2_with fail
                go_meet
                exact ⟨_, rfl, HMR, k4⟩
            case rest =>
            revert wc
            intro w8 hcut
            obtain ⟨bb, rfl, HBB, K8⟩ := hcut
            have k8 := K8.out
            have z8 := k8.size
            have B8 : Below w.heap.size w w8 := B6.trans (k8.mono B6.size)
            have HX8 : Hid (SBox w8 w.heap.size wd now given births (.slice a ks.length ac) (.slice p ps.length pc) (.slice (some ⟨b, off, none⟩) ls.length lc)) := SBox.keep HX6.out k8 (by omega)
            have HO8 : Hid _ := World.ownsRow.kept HOw.out (grown_below none k8) (Classical.em _)
            have HT8 : Hid (w8.ownsRow (w.heap.size + 1) 9 1 u6 (holdP ks ps sum).length ((holdP ks ps sum).map Value.string)) := World.ownsRow.kept HOt.out (grown_below none k8) (Classical.em _)
            have n8 := (k8.cell (p := ⟨b, off + k * 3, none⟩) hbr).trans c0
            clear x0 x1 x2 x3 x4 x5 x6 x7 c0 c1 c2 hS0 kD K8 k3 hS3
            obtain ⟨x0, x1, x2, x3, x4, x5, x6, x7⟩ := HX8.out
            cases bb with
            | false =>
              have HE : Hid _ := holdL_no (ks := ks) (s := sum) HG.out (fun h => by have := HBB.out.2 h; cases this)
              have HN9 : Hid (w8.ownsRow (w.heap.size + 2) 3 1 u7 (holdL ks (ls.take (k + 1)) sum).length ((holdL ks (ls.take (k + 1)) sum).map (Value.int .i64))) := by
                rw [HE.out]
                exact HO8.out
              go_wp2
              exact ⟨⟨k + 1, by omega, by go_num, HN9, HNe, HT8, B8, HX8, by omega⟩, by simp [intOf]; omega⟩
            | true =>
              have HE : Hid _ := holdL_yes (ks := ks) (s := sum) HG.out (HBB.out.1 rfl)
              go_wp2_with (first
                | (at_builtin; refine wpList_append_own_at _ rfl _ _ 54 rfl ((w.heap.size + 2)) 3 i1 (.int .i64 0) 1 8 Try.underlying54 hi' hy0 hy1 hy2 rfl (by decide) _ (holdL ks (ls.take k) sum).length ((holdL ks (ls.take k) sum).map (Value.int .i64)) rfl ?e0 ⟨w8.heap.size, 0, none⟩ 1 1 [.int .i64 x.num] rfl rfl ?e1 ?e2 ?e3 ?e4 ?e5 ?_)
                | go_in)
              case e0 => exact World.ownsRow.alloc HO8.out _
              try (case e1 => exact cell_one_new _ _ _)
              case e2 => first | (intro u hu; simp at hu; subst hu; rfl) | rfl
              case e3 => first | omega | (unfold maxLen; omega)
              case e4 => omega
              case e5 => first | omega | (simp; omega)
              intro v' w9 hown' hgrow _ hat
              have hb9 : Below ((w.heap.size + 2)) w8 w9 := ((Below.refl _ _).alloc (by omega) _).grown hgrow (by simp; omega) (fun q hq => (World.ownsRow.lt HO8.out q hq).1)
              have HN9 : Hid (w9.ownsRow ((w.heap.size + 2)) 3 1 v' (holdL ks (ls.take (k + 1)) sum).length ((holdL ks (ls.take (k + 1)) sum).map (Value.int .i64))) := by
                rw [HE.out, List.length_append, List.map_append]
                exact hown'
              have HNe9 : Hid (u6.ownBlock = none ∨ u6.ownBlock ≠ v'.ownBlock) := by
                rcases hat with h | h
                · rw [h]; exact HNe.out
                · rw [h]; exact .inr (fun e => by have := hu6 _ e; omega)
              have HT9 : Hid (w9.ownsRow (w.heap.size + 1) 9 1 u6 (holdP ks ps sum).length ((holdP ks ps sum).map Value.string)) := World.ownsRow.kept (World.ownsRow.alloc HT8.out _) hgrow (HNe.out)
              have HX9 : Hid (SBox w9 w.heap.size wd now given births (.slice a ks.length ac) (.slice p ps.length pc) (.slice (some ⟨b, off, none⟩) ls.length lc)) := SBox.keep HX8.out hb9 (by omega)
              have hz9 := hb9.size
              clear hown' hgrow hat x0 x1 x2 x3 x4 x5 x6 x7
              go_wp2
              exact ⟨⟨k + 1, by omega, by go_num, HN9, HNe9, HT9, B8.trans (hb9.mono (by omega)), HX9, by omega⟩, by simp [intOf]; omega⟩
          · rw [List.take_of_length_le (by omega)] at HOw
            go_wp2
            go_ret2
            refine ⟨_, _, rfl, ?_, ?_, B6⟩
            · unfold holdPA
              rw [if_pos ⟨HP.out, HT.out⟩]
              exact World.ownsRow.mono HOt.out (by omega)
            · unfold holdLA
              rw [if_pos ⟨HP.out, HT.out⟩]
              exact World.ownsRow.mono HOw.out (by omega)

end Go.Proofs.Ytbelneejghdmoaa
