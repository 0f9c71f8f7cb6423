/-
  impl.Waste.
-/
import Derived.Test.YtbelneejghdmoaaStWo
import Derived.Test.YtbelneejghdmoaaStVw
namespace Go.Proofs.Ytbelneejghdmoaa
open Go.ChangeShapes Go.WideShapes Go.ChangeAt Go.RowKit
attribute [local go_sem ↓] Go.wp_at_zero Go.wp_at_succ

open Classical in
/-- The sums of the things that cannot be reached. -/
noncomputable def wasteK (ks ks' : List Kd) (fr : List ByteArray) : List ByteArray := (ks'.filter (fun k => decide (¬ Reach ks fr k.sum))).map (·.sum)

theorem wasteK_snoc_yes {ks ks' : List Kd} {fr : List ByteArray} {k : Nat} {x : Kd} (h : ks'[k]? = some x) (hr : Reach ks fr x.sum) : wasteK ks (ks'.take (k + 1)) fr = wasteK ks (ks'.take k) fr := by
  obtain ⟨hlt, rfl⟩ := List.getElem?_eq_some_iff.1 h
  unfold wasteK
  rw [List.take_succ_eq_append_getElem hlt, List.filter_append, List.map_append]
  simp [hr]

theorem wasteK_snoc_no {ks ks' : List Kd} {fr : List ByteArray} {k : Nat} {x : Kd} (h : ks'[k]? = some x) (hr : ¬ Reach ks fr x.sum) : wasteK ks (ks'.take (k + 1)) fr = wasteK ks (ks'.take k) fr ++ [x.sum] := by
  obtain ⟨hlt, rfl⟩ := List.getElem?_eq_some_iff.1 h
  unfold wasteK
  rw [List.take_succ_eq_append_getElem hlt, List.filter_append, List.map_append]
  simp [hr]

theorem wasteK_len (ks ks' : List Kd) (fr : List ByteArray) : (wasteK ks ks' fr).length ≤ ks'.length := by
  unfold wasteK
  rw [List.length_map]
  exact List.length_filter_le _ _

open Classical in
noncomputable def wasteA (wd now given births : Int) (ks : List Kd) (ps : List Pd) (ls : List Ld) : List ByteArray := if StateOk wd now given births ks ps ls then wasteK ks ks (rootS ps ls) else []

set_option maxRecDepth 100000 in
theorem egWaste : ∀ args w, (callFunc 70 args).run Try.prog w = .ok (.enter 70 args) w := fun _ _ => rfl

set_option maxRecDepth 20000 in
set_option maxHeartbeats 8000000 in
theorem iWaste_any (wd now given births : Int) (a p l : Option Addr) (ac pc lc : Nat) (ks : List Kd) (ps : List Pd) (ls : List Ld) (w : World) (hrow : SRows w w.heap.size a p l ks ps ls) (hk : KMem ks) (hp : PMem ps) (hl : LMem ls) (hf : SFit ks ps ls) (hbw : ∀ k ∈ ks, (Lit.int .i64 k.born).wf = true) :
    Calls Try.prog 27 #[.agg #[.int .i64 wd, .int .i64 now, .int .i64 given, .int .i64 births, .slice a ks.length ac, .slice p ps.length pc, .slice l ls.length lc]] w fun e w' => ∃ v, e = .returned v ∧
      w'.ownsRow w.heap.size 9 1 v (wasteA wd now given births ks ps ls).length ((wasteA wd now given births ks ps ls).map Value.string) ∧ Below w.heap.size w w' := by
  obtain ⟨i0, hi, hz0, hz1, hz2⟩ := info_parts Try.infoStr
  have hmm := @run_makeMap Try.prog
  have hmf : ∀ (fn : Fn) (first cap : Array Value) (w : World), (Instr.makeFunc fn first cap).run Try.prog w = .ok (.func fn first cap) w := fun _ _ _ _ => rfl
  obtain ⟨W1, hW1⟩ : ∃ W1, W1 = w.alloc (.cells #[.int .i64 wd, .int .i64 now, .int .i64 given, .int .i64 births, .slice a ks.length ac, .slice p ps.length pc, .slice l ls.length lc] 33) := ⟨_, rfl⟩
  have b1 : Below w.heap.size w W1 := by rw [hW1]; exact (Below.refl _ _).alloc (Nat.le_refl _) _
  have z1 : W1.heap.size = w.heap.size + 1 := by rw [hW1]; simp
  have X1 : SBox W1 w.heap.size wd now given births (.slice a ks.length ac) (.slice p ps.length pc) (.slice l ls.length lc) := by rw [hW1]; exact SBox.new w wd now given births _ _ _ 33
  have HW1 : Hid _ := hW1
  have HR : Hid _ := hrow
  have HM : Hid _ := And.intro hk (And.intro hp (And.intro hl (And.intro hf hbw)))
  have HX : Hid _ := X1
  obtain ⟨x0, x1, x2, x3, x4, x5, x6, x7⟩ := X1
  have hfk := hf.k
  clear hW1 hrow hk hp hl hf hbw
  go_enter Try.func27, Try.ntmps27
  go_upto_region 1 with fail
  rw [← HW1.out]
  clear HW1
  go_wp2_with fail
  refine (iValidState_any wd now given births a p l ac pc lc ks ps ls W1 (SRows.below' HR.out b1) HM.out.1 HM.out.2.1 HM.out.2.2.1 HM.out.2.2.2.1 HM.out.2.2.2.2).mono ?_
  rintro e w2 ⟨b2, rfl, hs2, hb2⟩
  have X2 : SBox w2 w.heap.size wd now given births (.slice a ks.length ac) (.slice p ps.length pc) (.slice l ls.length lc) := SBox.keep HX.out hb2 (by omega)
  have B2 : Below w.heap.size w w2 := b1.trans (hb2.mono b1.size)
  have z2 := hb2.size
  clear x0 x1 x2 x3 x4 x5 x6 x7
  cases b2 with
  | false =>
    have HN : Hid (¬ StateOk wd now given births ks ps ls) := fun h => by have := hs2.2 h; cases this
    clear hs2 X2 hb2 HX
    go_wp2
    go_ret
    refine ⟨_, rfl, ?_, B2⟩
    unfold wasteA
    rw [if_neg HN.out]
    exact World.ownsRow_nil _ _ _ _
  | true =>
    have hP := hs2.1 rfl
    have HP : Hid _ := hP
    have HO : Hid _ := walkOk_of hP
    have hnk := hP.nth
    -- the marks' map and its variable
    obtain ⟨W3, hW3⟩ : ∃ W3, W3 = (w2.alloc (.map #[] 0)).alloc (.cells #[.map (some w2.heap.size)] 93) := ⟨_, rfl⟩
    have b3 : Below w2.heap.size w2 W3 := by rw [hW3]; exact ((Below.refl _ _).alloc (Nat.le_refl _) _).alloc (by simp) _
    have z3 : W3.heap.size = w2.heap.size + 2 := by rw [hW3]; simp
    have M3 : KMapC W3 96 w2.heap.size 0 0 (fun _ => none) := by
      rw [hW3]
      exact (KMapC.new w2 96).keep ((Below.refl _ _).alloc (Nat.le_refl _) _) (by simp)
    have c3 : W3.cell? ⟨w2.heap.size + 1, 0, none⟩ = some (.map (some w2.heap.size)) := by rw [hW3]; simp [go_sem]
    have J3 : JCnt w2.heap.size (w2.heap.size + 1) [] W3 := ⟨0, 0, _, M3, Nat.le_refl _, MK.nil, c3, by omega⟩
    have X3 := X2.keep b3 (by omega)
    have B3 : Below w.heap.size w W3 := B2.trans (b3.mono B2.size)
    have HW3 : Hid _ := hW3
    have HX3 : Hid _ := X3
    have HJ3 : Hid _ := J3
    obtain ⟨x0, x1, x2, x3, x4, x5, x6, x7⟩ := X3
    obtain ⟨y0, y1, y2, y3, y4, y5, y6, y7⟩ := X2
    clear hW3 M3 c3 J3 hs2 hP HX hb2
    go_upto_region 4 with fail
    rw [← HW3.out]
    clear HW3 y0 y1 y2 y3 y4 y5 y6 y7
    have R3 := SRows.below' HR.out B3
    go_wp2_with fail
    refine (walkLive_any 70 (.pointer (some ⟨w2.heap.size + 1, 0, none⟩)) egWaste wd now given births a p l ac pc lc ks ps ls [w2.heap.size] (JCnt w2.heap.size (w2.heap.size + 1)) W3 R3.k R3.p R3.l HO.out (by intro q hq; simp at hq; omega) HJ3.out (fun n0 hn => jcnt_abides n0 _ _ (by omega) (by omega)) (fun n0 vs W u ra rc hn hvs _ hJ hW => visitWaste_any n0 _ _ vs W u ra rc (by omega) (by omega) hW hvs hJ)).mono ?_
    rintro e w5 ⟨vs, ⟨rv, rfl⟩, hJ5, hnd, hiff, hV5⟩
    have z5 := hV5.size
    have X5 : SBox w5 w.heap.size wd now given births (.slice a ks.length ac) (.slice p ps.length pc) (.slice l ls.length lc) := SBox.same HX3.out (hV5.old _ (by omega) (by simp; omega))
    have B5 : Below w.heap.size w w5 := ⟨hV5.os.trans B3.os, hV5.tape.trans B3.tape, hV5.output.trans B3.output, Nat.le_trans B3.size hV5.size, fun q hq => (hV5.old q (by omega) (by simp; omega)).trans (B3.block q hq)⟩
    obtain ⟨mn, mc, mf, m1, m2, m3, m4, m5⟩ := hJ5
    have HMK : Hid _ := And.intro m1 (And.intro m3 (And.intro hiff m4))
    have hcl : w2.heap.size + 1 < w5.heap.size := by omega
    have hll : w2.heap.size < w5.heap.size := by omega
    have HX5 : Hid _ := X5
    clear x0 x1 x2 x3 x4 x5 x6 x7
    obtain ⟨x0, x1, x2, x3, x4, x5, x6, x7⟩ := X5
    clear hV5 m1 m2 m3 m4 m5 hiff R3 HJ3 HX3
    go_wp2
    go_loopw [4, 17] (fun v i wr => ∃ (k : Nat), k ≤ ks.length ∧ i = .int .i64 k ∧ Hid (wr.ownsRow w5.heap.size 9 1 v (wasteK ks (ks.take k) (rootS ps ls)).length ((wasteK ks (ks.take k) (rootS ps ls)).map Value.string)) ∧ Below w5.heap.size w5 wr) (fun _ i _ => ks.length - (intOf i).toNat)
    case atStart => exact ⟨0, Nat.zero_le _, rfl, World.ownsRow_nil _ _ _ _, Below.refl _ _⟩
    case round =>
      clear x0 x1 x2 x3 x4 x5 x6
      obtain ⟨k, hkk, rfl, HOw, hbel⟩ := hrel
      have B6 : Below w.heap.size w wr := B5.trans (hbel.mono B5.size)
      by_cases hlt : k < ks.length
      · obtain ⟨b, off, ha, hb, hc⟩ := (KRow.below HR.out.k B6).at hlt
        subst ha
        have HG : Hid (ks[k]? = some ks[k]) := List.getElem?_eq_getElem hlt
        obtain ⟨c0, c1, c2, ra, rc, c3, _⟩ := hc k _ HG.out
        have hmem : ks[k] ∈ ks := List.getElem_mem hlt
        have hxs := HO.out.sum _ hmem
        have HXM : Hid _ := hmem
        have hbr : b < wr.heap.size := by have := B6.size; omega
        clear hc hmem
        generalize ks[k] = x at *
        have z6 := hbel.size
        have hwl := wasteK_len ks (ks.take k) (rootS ps ls)
        have hwl2 : (ks.take k).length ≤ 600 := by simp; omega
        have HO2 : Hid (wr.ownsRow w5.heap.size 9 1 u4 (wasteK ks (ks.take k) (rootS ps ls)).length ((wasteK ks (ks.take k) (rootS ps ls)).map Value.string)) := HOw
        obtain ⟨W7, hW7⟩ : ∃ W7, W7 = wr.alloc (.cells #[.string x.sum, .int .i64 x.born, .string x.text, .slice ra x.refs.length rc] 92) := ⟨_, rfl⟩
        have b7 : Below wr.heap.size wr W7 := by rw [hW7]; exact (Below.refl _ _).alloc (Nat.le_refl _) _
        have s7 : W7.cell? ⟨wr.heap.size, 0, none⟩ = some (.string x.sum) := by rw [hW7]; simp [go_sem]
        have z7 : W7.heap.size = wr.heap.size + 1 := by rw [hW7]; simp
        have k57 : Below w5.heap.size w5 W7 := hbel.trans (b7.mono hbel.size)
        have m7 : W7.cell? ⟨w2.heap.size + 1, 0, none⟩ = some (.map (some w2.heap.size)) := (k57.cell (p := ⟨w2.heap.size + 1, 0, none⟩) hcl).trans HMK.out.2.2.2
        obtain ⟨nn, hn, hn0, hn1, hn2⟩ := HMK.out.2.1.get (keyL x.sum)
        have hmem : (nn = 0) ↔ ¬ Reach ks (rootS ps ls) x.sum := by
          have h1 : 0 < nn ↔ Reach ks (rootS ps ls) x.sum := by
            rw [hn2]
            show keyL x.sum ∈ vs.map keyL ↔ Reach ks (ps.map (·.sum) ++ ls.map (·.sum)) x.sum
            rw [← HMK.out.2.2.1]
            constructor
            · intro h
              obtain ⟨y, hy, e⟩ := List.mem_map.1 h
              have hyr := (HMK.out.2.2.1 y).1 hy
              have hys := HO.out.sz (reach_there (ks := ks) (fun s hs => HO.out.roots hs) (fun p hp => HO.out.dn hp) (reach_dn.2 hyr))
              exact key_inj e (by omega) (by have := HO.out.w8; omega) ▸ hy
            · intro h
              exact List.mem_map.2 ⟨x.sum, h, rfl⟩
          rw [← h1]
          omega
        have HW7 : Hid _ := hW7
        have hS0 : SV (w2.heap.size + 1) w2.heap.size wr.heap.size (.string x.sum) W7.drew := ⟨m7, s7⟩
        have X7 := SBox.keep HX5.out k57 (by omega)
        have O7 : Hid (W7.ownsRow w5.heap.size 9 1 u4 (wasteK ks (ks.take k) (rootS ps ls)).length ((wasteK ks (ks.take k) (rootS ps ls)).map Value.string)) := HO2.out.kept (grown_below none b7) (Classical.em _)
        obtain ⟨x0, x1, x2, x3, x4, x5, x6, _⟩ := SBox.keep HX5.out hbel (by omega)
        clear hW7
        go_upto_region 9 with fail
        rw [← HW7.out]
        clear HW7 c0 c1 c2 c3 x0 x1 x2 x3 x4 x5 x6
        go_cut [26] (fun v wx => v = .bool (decide (nn = 0)) ∧ Hid (Below W7.heap.size W7 wx))
        case first =>
          have hne0 : (nn == 0) = decide (nn = 0) := by by_cases h : nn = 0 <;> simp [h]
          go_region_held3 (fun w' => w'.cell? ⟨w2.heap.size + 1, 0, none⟩ = some (.map (some w2.heap.size)) ∧ w'.cell? ⟨wr.heap.size, 0, none⟩ = some (.string x.sum))
            (first | exact hS0 | exact hS8)
            (first
              | (go_at_call 71; refine (key_any x.sum W7.drew).mono ?_; rintro e w8 ⟨rfl, hb8⟩; have k8 : Below W7.heap.size W7 w8 := (Below.refl _ _).drew.trans (hb8.mono (Nat.le_refl _)); have k58 : Below w5.heap.size w5 w8 := k57.trans (k8.mono k57.size); have hl8 := (HMK.out.1.map.keep k58 hll).look keyed Try.underlying93 (zeroInt w8) (key_lit x.sum); rw [hn] at hl8; have hS8 : SV (w2.heap.size + 1) w2.heap.size wr.heap.size (.string x.sum) w8 := ⟨(k8.cell (p := ⟨w2.heap.size + 1, 0, none⟩) (by simp; omega)).trans m7, (k8.cell (p := ⟨wr.heap.size, 0, none⟩) (by simp; omega)).trans s7⟩))
          all_goals
            go_wp2_with fail
            go_meet
            exact ⟨rfl, k8⟩
        case rest =>
        revert wc
        intro w8 hcut
        obtain ⟨rfl, K8⟩ := hcut
        have k8 := K8.out
        have s8 : w8.cell? ⟨wr.heap.size, 0, none⟩ = some (.string x.sum) := (k8.cell (p := ⟨wr.heap.size, 0, none⟩) (by simp; omega)).trans s7
        have O8 : w8.ownsRow w5.heap.size 9 1 u4 (wasteK ks (ks.take k) (rootS ps ls)).length ((wasteK ks (ks.take k) (rootS ps ls)).map Value.string) := O7.out.kept (grown_below none k8) (Classical.em _)
        have B8 : Below w5.heap.size w5 w8 := k57.trans (k8.mono k57.size)
        have z8 := k8.size
        clear hS0 X7 O7 K8 k57 b7 s7 m7
        by_cases h0 : nn = 0
        · have hd : decide (nn = 0) = true := by simpa using h0
          have HE : Hid _ := wasteK_snoc_no (ks := ks) (fr := rootS ps ls) HG.out (hmem.1 h0)
          have HO8 : Hid _ := O8
          clear O8
          go_wp2_with (first
            | (at_builtin; refine wpList_append_own _ rfl _ _ 38 rfl w5.heap.size 9 i0 (.string ⟨#[]⟩) 1 16 Try.underlying38 hi hz0 hz1 hz2 rfl (by decide) _ (wasteK ks (ks.take k) (rootS ps ls)).length ((wasteK ks (ks.take k) (rootS ps ls)).map Value.string) rfl ?d0 ⟨w8.heap.size, 0, none⟩ 1 1 [.string x.sum] rfl rfl ?d1 ?d2 ?d3 ?d4 ?d5 ?_)
            | go_in)
          case d0 => exact World.ownsRow.alloc HO8.out _
          case d1 => exact cell_one_new _ _ _
          case d2 => intro u hu; simp at hu; subst hu; rfl
          case d3 => unfold maxLen; omega
          case d4 => omega
          case d5 => simp; omega
          intro v' w9 hown' hgrow _
          have hb9 : Below w5.heap.size w5 w9 := (B8.alloc B8.size _).grown hgrow (by simp; omega) (fun q hq => (World.ownsRow.lt HO8.out q hq).1)
          have HN9 : Hid (w9.ownsRow w5.heap.size 9 1 v' (wasteK ks (ks.take (k + 1)) (rootS ps ls)).length ((wasteK ks (ks.take (k + 1)) (rootS ps ls)).map Value.string)) := by
            rw [HE.out, List.length_append, List.map_append]
            exact hown'
          clear hown' hgrow
          go_wp2
          exact ⟨⟨k + 1, by omega, by go_num, HN9, hb9⟩, by simp [intOf]; omega⟩
        · have hd : decide (nn = 0) = false := by simpa using h0
          have HE : Hid _ := wasteK_snoc_yes (ks := ks) (fr := rootS ps ls) HG.out (Classical.not_not.1 (fun h => h0 (hmem.2 h)))
          have HN9 : Hid (w8.ownsRow w5.heap.size 9 1 u4 (wasteK ks (ks.take (k + 1)) (rootS ps ls)).length ((wasteK ks (ks.take (k + 1)) (rootS ps ls)).map Value.string)) := by
            rw [HE.out]
            exact O8
          clear O8
          go_wp2
          exact ⟨⟨k + 1, by omega, by go_num, HN9, B8⟩, by simp [intOf]; omega⟩
      · rw [List.take_of_length_le (by omega)] at HOw
        go_wp2
        go_ret
        refine ⟨_, rfl, ?_, B6⟩
        unfold wasteA
        rw [if_pos HP.out]
        exact World.ownsRow.mono HOw.out (by omega)

end Go.Proofs.Ytbelneejghdmoaa
