import Derived.Test.YthkmpihfhkmaoaaGreatU15
import Derived.Test.YthkmpihfhkmaoaaGreatU07
import Derived.Test.YthkmpihfhkmaoaaGreatU14
import Derived.Test.YthkmpihfhkmaoaaGreatU12
/-
  impl.validBirths.
-/
namespace Go.Proofs.YthkmpihfhkmaoaaGreat
open Go.ChangeShapes Go.WideShapes Go.ChangeAt Go.RowKit
attribute [local go_sem ↓] Go.wp_at_zero Go.wp_at_succ

def FindAt (w : World) (wd : Int) (m : Nat) (ks : List Kd) (s : ByteArray) : Prop :=
  ∃ u bo t sa sb sc ok, Found ks s bo ok ∧ ∀ w', Below w.heap.size w w' → Calls Tryz.prog 126 #[.agg #[.int .i64 wd, .map (some m)], .string s] w' fun e w'' => e = .returned (.tuple #[.agg #[.string u, .int .i64 bo, .string t, .slice sa sb sc], .bool ok]) ∧ Below w'.heap.size w' w''

theorem intKeyed : Maps.Keyed Tryz.prog 3 := Maps.int_keyed Tryz.underlying3

/-- The map of births counts each that was met once. -/
def Once (ks : List Kd) (k : Nat) (f : Lit → Option Value) : Prop := ∀ z : Int, f (.int .i64 z) = if seen ks k z = true then some (.int .i64 1) else none

set_option maxRecDepth 20000 in
set_option maxHeartbeats 8000000 in
theorem ivalidBirths_any (wd now given births : Int) (P L : Value) (a : Option Addr) (ac m : Nat) (ks : List Kd) (w : World) (hrow : KRow w w.heap.size a ks) (hl : ks.length ≤ 1048576) (hrl : ∀ k ∈ ks, k.refs.length ≤ 1048576) (hbw : ∀ k ∈ ks, (Lit.int .i64 k.born).wf = true)
    (hth : ∀ (i : Nat) k, ks[i]? = some k → ThAt wd ks i k) (hfind : ∀ s, FindAt w wd m ks s) :
    Calls Tryz.prog 73 #[.agg #[.int .i64 wd, .int .i64 now, .int .i64 given, .int .i64 births, .slice a ks.length ac, P, L], .agg #[.int .i64 wd, .map (some m)]] w fun e w' => Says ((∀ (i : Nat) k, ks[i]? = some k → BornAt births ks i k) ∧ (∀ (i : Nat) k, ks[i]? = some k → RefAt ks k)) w w' e := by
  have hmm := @run_makeMap Tryz.prog
  go_enter Tryz.func73, Tryz.ntmps73
  go_wp2
  obtain ⟨W0, hW0⟩ : ∃ W, W = (((w.alloc (Obj.cells #[Value.int IntKind.i64 wd, Value.int IntKind.i64 now, Value.int IntKind.i64 given, Value.int IntKind.i64 births, Value.slice a ks.length ac, P, L] 36)).alloc (Obj.cells #[Value.int IntKind.i64 wd, Value.map (some m)] 110)).alloc (Obj.map #[] 0)) := ⟨_, rfl⟩
  have hB0 : Below w.heap.size w W0 := by
    rw [hW0]
    exact ((((Below.refl _ _).alloc (Nat.le_refl _) _).alloc (by simp) _).alloc (by simp; omega) _)
  have hz0 : W0.heap.size = w.heap.size + 3 := by rw [hW0]; simp
  have hM0 : KMap W0 3 (w.heap.size + 1 + 1) 0 (fun _ => none) := by
    have := KMap.new ((w.alloc (Obj.cells #[Value.int IntKind.i64 wd, Value.int IntKind.i64 now, Value.int IntKind.i64 given, Value.int IntKind.i64 births, Value.slice a ks.length ac, P, L] 36)).alloc (Obj.cells #[Value.int IntKind.i64 wd, Value.map (some m)] 110)) 3
    rw [hW0]
    simpa using this
  have s3 : W0.cell? ⟨w.heap.size, 3, none⟩ = some (.int .i64 births) := by rw [hW0]; simp [go_sem]
  have g0 : W0.cell? ⟨w.heap.size + 1, 0, none⟩ = some (.int .i64 wd) := by rw [hW0]; simp [go_sem]
  have g1 : W0.cell? ⟨w.heap.size + 1, 1, none⟩ = some (.map (some m)) := by rw [hW0]; simp [go_sem]
  rw [← hW0]
  clear hW0 hmm
  go_loopw [16] (fun i wr => ∃ (k : Nat) (f : Lit → Option Value), k ≤ ks.length ∧ i = .int .i64 k ∧ Hid (KMap wr 3 (w.heap.size + 1 + 1) k f) ∧ Hid (Once ks k f) ∧ Hid (W0.grownBy wr (some (w.heap.size + 1 + 1))) ∧ Hid (∀ (j : Nat) x, j < k → ks[j]? = some x → BornAt births ks j x ∧ RefAt ks x)) (fun i _ => ks.length - (intOf i).toNat)
  case atStart => exact ⟨0, _, Nat.zero_le _, rfl, hM0, fun z => by simp [seen], grown_refl _ _, fun j x h => by omega⟩
  case round =>
    obtain ⟨k, f, hk, rfl, HM, HO, HGr, hall⟩ := hrel
    have hgr : W0.grownBy wr (some (w.heap.size + 1 + 1)) := HGr.out
    have hbel : Below w.heap.size w wr := hB0.grown hgr (by omega) (by intro j hj; cases hj; omega)
    have hzr := hgr.size
    by_cases hlt : k < ks.length
    · obtain ⟨b, off, ha, hb, hc⟩ := (hrow.below hbel).at hlt
      subst ha
      have HG : Hid (ks[k]? = some ks[k]) := List.getElem?_eq_getElem hlt
      obtain ⟨c0, c1, c2, ra, rc, c3, hr⟩ := hc k _ HG.out
      have hmem := List.getElem_mem hlt
      have hxr := hrl _ hmem
      have hxw := hbw _ hmem
      have hbr : b < wr.heap.size := by omega
      have t3 := hgr.cell s3 (by simp; omega)
      have hkey : keyOf Tryz.prog 3 (.int .i64 ks[k].born) = some (.int .i64 ks[k].born) := Maps.keyOf_int_mk Tryz.underlying3 hxw
      have HR : Hid _ := hr
      generalize ks[k] = x at *
      clear hc hr hmem
      have hb1 : Below wr.heap.size wr (wr.alloc (Obj.cells #[Value.string x.sum, Value.int IntKind.i64 x.born, Value.string x.text, Value.slice ra x.refs.length rc] 59)) := (Below.refl _ _).alloc (Nat.le_refl _) _
      have hM1 := HM.out.keep hb1 (by omega)
      have hlk := hM1.look intKeyed Tryz.underlying162 (zeroInt _) hkey
      rw [HO.out] at hlk
      have hcnt : ∃ c : Int, (if seen ks k x.born = true then some (Value.int .i64 1) else none).getD (.int .i64 0) = .int .i64 c ∧ (c = if seen ks k x.born = true then 1 else 0) := by
        cases seen ks k x.born <;> exact ⟨_, rfl, rfl⟩
      obtain ⟨c, hc1, hc2⟩ := hcnt
      rw [hc1] at hlk
      have hcb0 : 0 ≤ c := by rw [hc2]; split <;> omega
      have hcb1 : c ≤ 1 := by rw [hc2]; split <;> omega
      obtain ⟨w3, hup, hm3, hg3⟩ := hM1.put intKeyed Tryz.underlying162 (val := .int .i64 (c + 1)) (by unfold maxLen; omega) hkey
      have hlk3 := hm3.look intKeyed Tryz.underlying162 (zeroInt _) hkey
      rw [upd_same] at hlk3
      simp only [Option.getD_some] at hlk3
      have hgn : W0.grownBy w3 (some (w.heap.size + 1 + 1)) := grown_trans hgr (grown_trans (grown_below _ hb1) hg3)
      have hB3 : Below w.heap.size w w3 := hB0.grown hgn (by omega) (by intro j hj; cases hj; omega)
      have u1 : w3.cell? ⟨wr.heap.size, 1, none⟩ = some (.int .i64 x.born) := hg3.cell (by simp) (by simp; omega)
      have u3 : w3.cell? ⟨wr.heap.size, 3, none⟩ = some (.slice ra x.refs.length rc) := hg3.cell (by simp) (by simp; omega)
      have v3 := hgn.cell s3 (by simp; omega)
      have hz3 : wr.heap.size < w3.heap.size := by have := hg3.size; simp at this; omega
      have hbw3 : Below w.heap.size wr w3 := ((Below.refl _ _).alloc hbel.size _).grown hg3 (by simp; have := hbel.size; omega) (by intro j hj; cases hj; omega)
      have HR3 : Hid (SRow w3 w.heap.size ra x.refs) := SRow.below HR.out hbw3
      have HK : Hid _ := And.intro hm3 (And.intro hgn hB3)
      have HP : Hid _ := And.intro hgr hbel
      have HF : Hid _ := hfind
      have HBig : Hid _ := And.intro hrow (And.intro hrl (And.intro hbw hth))
      clear hM1 hm3 hg3 hgn hB3 hgr hbel hbw3 HR hrow hrl hbw hth hfind HM HGr hkey hb1 hc1 hxw hM0 hB0 s3 t3
      by_cases hlo : 1 ≤ x.born
      · have hlo' : decide (x.born < 1) = false := by simp; omega
        by_cases hhi : x.born ≤ births
        · have hhi' : decide (births < x.born) = false := by simp; omega
          cases hse : seen ks k x.born with
          | true =>
            have hc3 : c = 1 := by rw [hc2, hse]; rfl
            have hd : decide (1 < c + 1) = true := by simp; omega
            have HSe : Hid _ := hse
            clear hc2 hse hc3
            go_wp2
            go_ret
            refine Says.no (fun h => ?_) HK.out.2.2
            obtain ⟨j', p', hj', hp', he'⟩ := seen_iff.1 HSe.out
            exact (h.1 _ _ HG.out).new j' p' hj' hp' he'
          | false =>
            have hc3 : c = 0 := by rw [hc2, hse]; rfl
            have hd : decide (1 < c + 1) = false := by simp; omega
            have HSe : Hid _ := hse
            have HB : Hid (BornAt births ks k x) := ⟨hlo, hhi, fun j2 p2 hj2 hp2 he => by
              have := seen_iff.2 ⟨j2, p2, hj2, hp2, he⟩
              rw [hse] at this
              cases this⟩
            have HO1 : Hid (Once ks (k + 1) (upd f (.int .i64 x.born) (.int .i64 (c + 1)))) := by
              intro z
              rw [seen_snoc HG.out]
              by_cases hz : z = x.born
              · subst hz; rw [upd_same, hc3]; simp
              · rw [upd_other _ _ (fun e => hz (by cases e; rfl)), HO.out]
                have : decide (x.born = z) = false := by simp; exact fun e => hz e.symm
                rw [this]; simp
            clear hc2 hse hc3 HO
            go_wp2
            clear HP hlk hup hlk3
            generalize hN : wr.heap.size = N at *
            go_loopw [46] (fun jv wz => ∃ q : Nat, q ≤ x.refs.length ∧ jv = .int .i64 q ∧ Hid (Below w3.heap.size w3 wz) ∧ Hid (∀ (r : Nat) s, r < q → x.refs[r]? = some s → ∃ u ∈ ks, u.sum = s ∧ u.born < x.born)) (fun jv _ => x.refs.length - (intOf jv).toNat)
            case atStart => exact ⟨0, Nat.zero_le _, rfl, Below.refl _ _, fun r s h => by omega⟩
            case round =>
              obtain ⟨q, hq, rfl, HBz, hrs⟩ := hrel
              have hbz : Below w3.heap.size w3 wr := HBz.out
              have hBz : Below w.heap.size w wr := HK.out.2.2.trans (hbz.mono HK.out.2.2.size)
              have y1 := (hbz.cell (p := ⟨N, 1, none⟩) hz3).trans u1
              have p0 := (hbz.cell (p := ⟨w.heap.size + 1, 0, none⟩) (by simp; omega)).trans (HK.out.2.1.cell g0 (by simp))
              have p1 := (hbz.cell (p := ⟨w.heap.size + 1, 1, none⟩) (by simp; omega)).trans (HK.out.2.1.cell g1 (by simp))
              have hNz : N < wr.heap.size := Nat.lt_of_lt_of_le hz3 hbz.size
              have hHz : w.heap.size + 1 < wr.heap.size := by have := hbz.size; omega
              by_cases hql : q < x.refs.length
              · have hr4 : SRow wr w.heap.size ra x.refs := SRow.below HR3.out (hbz.mono (by omega))
                obtain ⟨rb, roff, hra, hrb, hrc⟩ := hr4.at hql
                subst hra
                have HS : Hid (x.refs[q]? = some x.refs[q]) := List.getElem?_eq_getElem hql
                have es := hrc q _ HS.out
                have hrbw : rb < wr.heap.size := by omega
                generalize x.refs[q] = s at *
                obtain ⟨u, bo, t, sa, sb, sc, ok, hfd, hcl⟩ := HF.out s
                have HC : Hid _ := hcl wr hBz
                have HFd : Hid _ := hfd
                have HBB : Hid _ := And.intro hbz hBz
                clear hcl hfd hrc hr4 hbz hBz
                go_wp2_with fail
                refine Calls.mono HC.out ?_
                rintro e w4 ⟨rfl, hb4⟩
                have y4 := (hb4.cell (p := ⟨N, 1, none⟩) hNz).trans y1
                have hN4 : N < w4.heap.size := Nat.lt_of_lt_of_le hNz hb4.size
                have hB4 : Below w.heap.size w w4 := HBB.out.2.trans (hb4.mono HBB.out.2.size)
                have hb34 : Below w3.heap.size w3 w4 := HBB.out.1.trans (hb4.mono HBB.out.1.size)
                have HB4 : Hid _ := And.intro hB4 hb34
                have hs4 : w3.heap.size ≤ w4.heap.size := hb34.size
                have hsw : w.heap.size ≤ w4.heap.size := hB4.size
                clear hb4 hB4 hb34 y1 p0 p1 es HC
                cases ok with
                | false =>
                  go_wp2
                  go_ret
                  refine Says.no (fun h => ?_) (HB4.out.1.alloc hsw _)
                  obtain ⟨v, hv, hvs, _⟩ := h.2 _ _ HG.out s (List.mem_of_getElem? HS.out)
                  exact HFd.out.no rfl ⟨v, hv, hvs⟩
                | true =>
                  obtain ⟨v, hv, hvs, hvb⟩ := HFd.out.yes rfl
                  have HV : Hid _ := And.intro hv (And.intro hvs hvb)
                  clear hv hvs hvb HFd
                  by_cases hlt2 : bo < x.born
                  · have hd2 : decide (x.born ≤ bo) = false := by simp; omega
                    have HN : Hid (∀ (r : Nat) s, r < q + 1 → x.refs[r]? = some s → ∃ u ∈ ks, u.sum = s ∧ u.born < x.born) := by
                      intro r s' hr' hs'
                      rcases Nat.lt_or_ge r q with h' | h'
                      · exact hrs.out r s' h' hs'
                      · obtain rfl : r = q := by omega
                        rw [HS.out] at hs'
                        cases hs'
                        exact ⟨v, HV.out.1, HV.out.2.1, by rw [HV.out.2.2]; exact hlt2⟩
                    go_wp2
                    exact ⟨⟨q + 1, by omega, by go_num, HB4.out.2.alloc hs4 _, HN⟩, by simp [intOf]; omega⟩
                  · have hd2 : decide (x.born ≤ bo) = true := by simp; omega
                    go_wp2
                    go_ret
                    refine Says.no (fun h => ?_) (HB4.out.1.alloc hsw _)
                    obtain ⟨v', hv', hvs', hb'⟩ := h.2 _ _ HG.out s (List.mem_of_getElem? HS.out)
                    obtain ⟨i2, hi2⟩ := List.getElem?_of_mem HV.out.1
                    obtain ⟨i3, hi3⟩ := List.getElem?_of_mem hv'
                    have := sums_inj HBig.out.2.2.2 hi2 hi3 (by rw [HV.out.2.1, hvs'])
                    subst this
                    rw [HV.out.2.2] at hb'
                    omega
              · have HN : Hid (∀ (j : Nat) y, j < k + 1 → ks[j]? = some y → BornAt births ks j y ∧ RefAt ks y) := by
                  intro j y hj hy
                  rcases Nat.lt_or_ge j k with h' | h'
                  · exact hall.out j y h' hy
                  · obtain rfl : j = k := by omega
                    rw [HG.out] at hy
                    cases hy
                    refine ⟨HB.out, fun r hr' => ?_⟩
                    obtain ⟨p, hp⟩ := List.getElem?_of_mem hr'
                    exact hrs.out p r (by have := (List.getElem?_eq_some_iff.1 hp).1; omega) hp
                have hKM : Hid (KMap wr 3 (w.heap.size + 1 + 1) (k + 1) (upd f (.int .i64 x.born) (.int .i64 (c + 1)))) := HK.out.1.keep hbz (by omega)
                have hGW : Hid (W0.grownBy wr (some (w.heap.size + 1 + 1))) := grown_trans HK.out.2.1 (grown_below _ hbz)
                clear hbz hBz y1 p0 p1
                go_wp2
                exact ⟨⟨k + 1, _, by omega, by go_num, hKM, HO1, hGW, HN⟩, by simp [intOf]; omega⟩
        · have hhi' : decide (births < x.born) = true := by simp; omega
          clear hc2
          go_wp2
          go_ret
          refine Says.no (fun h => ?_) HK.out.2.2
          have := (h.1 _ _ HG.out).hi
          omega
      · have hlo' : decide (x.born < 1) = true := by simp; omega
        clear hc2
        go_wp2
        go_ret
        refine Says.no (fun h => ?_) HK.out.2.2
        have := (h.1 _ _ HG.out).lo
        omega
    · clear HM HO hM0 hB0
      go_wp2
      go_ret
      exact Says.yes ⟨fun i x hx => (hall.out i x (by have := (List.getElem?_eq_some_iff.1 hx).1; omega) hx).1, fun i x hx => (hall.out i x (by have := (List.getElem?_eq_some_iff.1 hx).1; omega) hx).2⟩ hbel

end Go.Proofs.YthkmpihfhkmaoaaGreat

/-
  impl.validNumbers, ValidState.
-/
namespace Go.Proofs.YthkmpihfhkmaoaaGreat
open Go.ChangeShapes Go.WideShapes Go.ChangeAt Go.RowKit

theorem iwidth_any (n : Int) (w : World) :
    Calls Tryz.prog 122 #[.int .i64 n] w fun e w' => e = .returned (.bool (decide (1 ≤ n ∧ n ≤ 8))) ∧ w' = w := by
  by_cases h1 : 1 ≤ n
  · by_cases h2 : n ≤ 8
    · go_enter Tryz.func122, Tryz.ntmps122
      go_wp2
      go_ret
      exact ⟨ret_b (by simp [h1, h2]), rfl⟩
    · have h2' : decide (n ≤ 8) = false := by simpa using h2
      go_enter Tryz.func122, Tryz.ntmps122
      go_wp2
      go_ret
      exact ⟨rfl, rfl⟩
  · have h1' : decide (1 ≤ n) = false := by simpa using h1
    go_enter Tryz.func122, Tryz.ntmps122
    go_wp2
    go_ret
    exact ⟨rfl, rfl⟩

theorem itime_any (n : Int) (w : World) :
    Calls Tryz.prog 123 #[.int .i64 n] w fun e w' => e = .returned (.bool (decide (0 ≤ n ∧ n ≤ 1000000000))) ∧ w' = w := by
  by_cases h1 : 0 ≤ n
  · by_cases h2 : n ≤ 1000000000
    · go_enter Tryz.func123, Tryz.ntmps123
      go_wp2
      go_ret
      exact ⟨ret_b (by simp [h1, h2]), rfl⟩
    · have h2' : decide (n ≤ 1000000000) = false := by simpa using h2
      go_enter Tryz.func123, Tryz.ntmps123
      go_wp2
      go_ret
      exact ⟨rfl, rfl⟩
  · have h1' : decide (0 ≤ n) = false := by simpa using h1
    go_enter Tryz.func123, Tryz.ntmps123
    go_wp2
    go_ret
    exact ⟨rfl, rfl⟩

set_option maxHeartbeats 1000000 in
theorem inums_any (wd now given births : Int) (T P L : Value) (w : World) :
    Calls Tryz.prog 70 #[.agg #[.int .i64 wd, .int .i64 now, .int .i64 given, .int .i64 births, T, P, L]] w fun e w' => Says (NumsOk wd now given births) w w' e := by
  have hb0 : Below w.heap.size w (w.alloc (.cells #[.int .i64 wd, .int .i64 now, .int .i64 given, .int .i64 births, T, P, L] 36)) := (Below.refl _ _).alloc (Nat.le_refl _) _
  go_enter Tryz.func70, Tryz.ntmps70
  go_wp2_with fail
  refine (iwidth_any wd _).mono ?_
  rintro e w1 ⟨rfl, rfl⟩
  by_cases h0 : 1 ≤ wd ∧ wd ≤ 8
  · rw [decide_eq_true h0]
    go_wp2_with fail
    refine (itime_any now _).mono ?_
    rintro e w1 ⟨rfl, rfl⟩
    by_cases h1 : 0 ≤ now ∧ now ≤ 1000000000
    · rw [decide_eq_true h1]
      go_wp2_with fail
      refine (itime_any given _).mono ?_
      rintro e w1 ⟨rfl, rfl⟩
      by_cases h2 : 0 ≤ given ∧ given ≤ 1000000000
      · rw [decide_eq_true h2]
        go_wp2_with fail
        refine (itime_any births _).mono ?_
        rintro e w1 ⟨rfl, rfl⟩
        by_cases h3 : 0 ≤ births ∧ births ≤ 1000000000
        · rw [decide_eq_true h3]
          go_wp2
          go_ret
          exact Says.yes ⟨h0.1, h0.2, h1.1, h1.2, h2.1, h2.2, h3.1, h3.2⟩ hb0
        · rw [decide_eq_false h3]
          go_wp2
          go_ret
          exact Says.no (fun h => h3 ⟨h.births1, h.births2⟩) hb0
      · rw [decide_eq_false h2]
        go_wp2
        go_ret
        exact Says.no (fun h => h2 ⟨h.given1, h.given2⟩) hb0
    · rw [decide_eq_false h1]
      go_wp2
      go_ret
      exact Says.no (fun h => h1 ⟨h.now1, h.now2⟩) hb0
  · rw [decide_eq_false h0]
    go_wp2
    go_ret
    exact Says.no (fun h => h0 ⟨h.wd1, h.wd2⟩) hb0

theorem sumOf_size (k : Kd) (wd : Int) (h : 1 ≤ wd) : ((sumOf k wd).size : Int) = wd := by
  have e : ∀ l : List Int, (strOfNums l).size = l.length := fun l => by unfold strOfNums; simp [ByteArray.size]
  unfold sumOf sumText
  rw [e, sumNums_length]
  omega

set_option maxRecDepth 20000 in
set_option maxHeartbeats 4000000 in
theorem iValidState_any (wd now given births : Int) (a p l : Option Addr) (ac pc lc : Nat) (ks : List Kd) (ps : List Pd) (ls : List Ld) (w : World) (hrow : SRows w w.heap.size a p l ks ps ls) (hk : KMem ks) (hp : PMem ps) (hl : LMem ls) (hf : SFit ks ps ls) (hbw : ∀ k ∈ ks, (Lit.int .i64 k.born).wf = true) :
    Calls Tryz.prog 23 #[.agg #[.int .i64 wd, .int .i64 now, .int .i64 given, .int .i64 births, .slice a ks.length ac, .slice p ps.length pc, .slice l ls.length lc]] w fun e w' => Says (StateOk wd now given births ks ps ls) w w' e := by
  have hb0 : Below w.heap.size w (w.alloc (.cells #[.int .i64 wd, .int .i64 now, .int .i64 given, .int .i64 births, .slice a ks.length ac, .slice p ps.length pc, .slice l ls.length lc] 36)) := (Below.refl _ _).alloc (Nat.le_refl _) _
  have hx := SBox.new w wd now given births (.slice a ks.length ac) (.slice p ps.length pc) (.slice l ls.length lc) 36
  have HBW : Hid _ := hbw
  clear hbw
  go_enter Tryz.func23, Tryz.ntmps23
  go_wp2_with fail
  refine (inums_any wd now given births _ _ _ _).mono ?_
  rintro e w1 ⟨b1, rfl, hb1, hw1⟩
  have hB1 := hb0.trans (hw1.mono (by simp))
  have hx1 := hx.below hw1
  clear hw1 hx
  cases b1 with
  | false =>
    go_wp2
    go_ret
    exact Says.no (fun h => by have := hb1.2 h.nums; cases this) hB1
  | true =>
    have hN := hb1.1 rfl
    clear hb1
    obtain ⟨x0, x1, x2, x3, x4, x5, x6, x7⟩ := hx1
    go_wp2_with fail
    refine (ivalidThings_any wd now given births a ac _ _ ks _ (hrow.below' hB1).k hk hf.k hf.r hN.wd1 hN.wd2).mono ?_
    rintro e w2 ⟨b2, rfl, hb2, hw2⟩
    have hB2 := hB1.trans (hw2.mono hB1.size)
    have hx2 := SBox.below ⟨x0, x1, x2, x3, x4, x5, x6, x7⟩ hw2
    clear hw2 x0 x1 x2 x3 x4 x5 x6 x7
    cases b2 with
    | false =>
      go_wp2
      go_ret
      exact Says.no (fun h => by have := hb2.2 ⟨h.nth, h.th⟩; cases this) hB2
    | true =>
      obtain ⟨hn, hth⟩ := hb2.1 rfl
      have HTH : Hid _ := hth
      clear hb2
      have hsz : ∀ k ∈ ks, (k.sum.size : Int) = wd := fun k hk' => by
        obtain ⟨i, hi⟩ := List.getElem?_of_mem hk'
        rw [(hth i k hi).sum]
        exact sumOf_size k wd hN.wd1
      have HSZ : Hid _ := hsz
      clear hth hsz
      obtain ⟨x0, x1, x2, x3, x4, x5, x6, x7⟩ := hx2
      go_wp2_with fail
      refine (shelfOf_any wd now given births a ac _ _ ks _ (hrow.below' hB2).k hf.k HSZ.out hN.wd2).mono ?_
      rintro e w3 ⟨m, f, rfl, hm, hM, hH, hw3⟩
      have hB3 := hB2.trans (hw3.mono hB2.size)
      have hx3 := SBox.below ⟨x0, x1, x2, x3, x4, x5, x6, x7⟩ hw3
      have z3 := hw3.size
      have HH : Hid _ := hH
      clear hw3 x0 x1 x2 x3 x4 x5 x6 x7 hH
      obtain ⟨W3, hW3⟩ : ∃ W, W = w3.alloc (.cells #[.int .i64 wd, .map (some m)] 110) := ⟨_, rfl⟩
      have h33 : Below w3.heap.size w3 W3 := by rw [hW3]; exact (Below.refl _ _).alloc (Nat.le_refl _) _
      have s3 : W3.heap.size = w3.heap.size + 1 := by rw [hW3]; simp
      have q3 : HBox W3 w3.heap.size wd m := by rw [hW3]; exact HBox.new _ _ _ _
      have hx3' := hx3.below h33
      have hM3 := hM.keep h33 hM.lt
      have hB3 := hB3.trans (h33.mono hB3.size)
      have HW3 : Hid _ := hW3
      clear hW3 h33 hM
      obtain ⟨x0, x1, x2, x3, x4, x5, x6, x7⟩ := hx3
      have HQ : Hid _ := And.intro hx3' q3
      clear hx3' q3
      go_wp2_with fail
      rw [← HW3.out]
      refine (ivalidBirths_any wd now given births _ _ a ac m ks W3 (hrow.below' hB3).k hf.k hf.r HBW.out HTH.out (fun s => shelf_find wd m _ f ks _ _ s W3 hM3 HH.out HSZ.out)).mono ?_
      rintro e w4 ⟨b4, rfl, hb4, hw4⟩
      have hB4 := hB3.trans (hw4.mono hB3.size)
      have hx4 := SBox.below HQ.out.1 hw4
      have hg4 := HBox.keep HQ.out.2 hw4 HQ.out.2.2.2
      have hM4 := hM3.keep hw4 hM3.lt
      clear hw4 x0 x1 x2 x3 x4 x5 x6 x7 HW3 hM3 HQ
      have HB4 : Hid _ := hb4
      clear hb4
      cases b4 with
      | false =>
        clear hx4 hg4 hM4
        go_wp2
        go_ret
        exact Says.no (fun h => by have := HB4.out.2 ⟨h.born, h.ref⟩; cases this) hB4
      | true =>
        obtain ⟨hbo, hre⟩ := HB4.out.1 rfl
        have HBR : Hid _ := And.intro hbo hre
        clear hbo hre
        obtain ⟨x0, x1, x2, x3, x4, x5, x6, x7⟩ := hx4
        obtain ⟨g0, g1, g2⟩ := hg4
        go_wp2_with fail
        refine (ivalidPins_any wd now given births _ _ _ p pc m ks ps w4 (hrow.below' hB4).p hp hf.p (fun s => shelf_has wd m _ f ks _ _ s w4 hM4 HH.out HSZ.out) rfl).mono ?_
        rintro e w5 ⟨b5, rfl, hb5, hw5⟩
        have hB5 := hB4.trans (hw5.mono hB4.size)
        have hx5 := SBox.below ⟨x0, x1, x2, x3, x4, x5, x6, x7⟩ hw5
        have hg5 := HBox.keep ⟨g0, g1, g2⟩ hw5 g2
        have hM5 := hM4.keep hw5 hM4.lt
        clear hw5 x0 x1 x2 x3 x4 x5 x6 x7 g0 g1 g2 hM4
        have HB5 : Hid _ := hb5
        clear hb5
        cases b5 with
        | false =>
          clear hx5 hg5 hM5
          go_wp2
          go_ret
          exact Says.no (fun h => by have := HB5.out.2 ⟨h.np, h.pin⟩; cases this) hB5
        | true =>
          obtain ⟨hnp, hpi⟩ := HB5.out.1 rfl
          have HPI : Hid _ := hpi
          clear hpi
          obtain ⟨x0, x1, x2, x3, x4, x5, x6, x7⟩ := hx5
          obtain ⟨g0, g1, g2⟩ := hg5
          go_wp2_with fail
          refine (ivalidLeases_any wd now given births _ _ _ l lc m ks ls w5 (hrow.below' hB5).l hl hf.l hN.now1 hN.now2 (fun s => shelf_has wd m _ f ks _ _ s w5 hM5 HH.out HSZ.out) rfl).mono ?_
          rintro e w6 ⟨b6, rfl, hb6, hw6⟩
          have hB6 := hB5.trans (hw6.mono hB5.size)
          have HB6 : Hid _ := hb6
          clear hb6 x0 x1 x2 x3 x4 x5 x6 x7 g0 g1 g2 hM5 hw6
          go_wp2
          go_ret
          refine ⟨_, rfl, ⟨fun h => ?_, fun h => HB6.out.2 ⟨h.nl, h.lease⟩⟩, hB6⟩
          obtain ⟨hnl, hle⟩ := HB6.out.1 h
          exact ⟨hN, hn, hnp, hnl, HTH.out, HBR.out.1, HBR.out.2, HPI.out, hle⟩

end Go.Proofs.YthkmpihfhkmaoaaGreat

/-
  impl.validRound, impl.ValidRound.
-/
namespace Go.Proofs.YthkmpihfhkmaoaaGreat
open Go.ChangeShapes Go.WideShapes Go.ChangeAt Go.RowKit
attribute [local go_sem ↓] Go.wp_at_zero Go.wp_at_succ

/-- The parts of a round fit its phase. -/
def PhOk (births ph top at_ : Int) (qs ms : List ByteArray) : Prop :=
  (ph = 0 ∧ qs = [] ∧ ms = [] ∧ top = 0 ∧ at_ = 0) ∨ (ph = 1 ∧ 0 ≤ top ∧ top ≤ births ∧ at_ = top + 1) ∨ (ph = 2 ∧ 0 ≤ top ∧ top ≤ births ∧ 1 ≤ at_ ∧ at_ ≤ top + 1)

/-- A round is valid for a state of width wd. -/
structure RoundOk (wd births ph top at_ ro : Int) (qs ms : List ByteArray) : Prop where
  ro1 : 0 ≤ ro
  ro2 : ro ≤ 1000000000
  sums : SumsOk wd qs ms
  ph : PhOk births ph top at_ qs ms

set_option maxRecDepth 20000 in
set_option maxHeartbeats 4000000 in
theorem validRound_any (ph top at_ ro wd births : Int) (a b : Option Addr) (ac bc : Nat) (qs ms : List ByteArray) (w : World) (hq : SRow w w.heap.size a qs) (hm : SRow w w.heap.size b ms) (hf : RFit qs ms) (h8 : wd ≤ 8) (hbi : births ≤ 1000000000) :
    Calls Tryz.prog 95 #[.agg #[.int .i64 ph, .slice a qs.length ac, .slice b ms.length bc, .int .i64 top, .int .i64 at_, .int .i64 ro], .int .i64 wd, .int .i64 births] w fun e w' => Says (RoundOk wd births ph top at_ ro qs ms) w w' e := by
  have hfq := hf.q
  have hfm := hf.m
  have hb : Below w.heap.size w (w.alloc (.cells #[.int .i64 ph, .slice a qs.length ac, .slice b ms.length bc, .int .i64 top, .int .i64 at_, .int .i64 ro] 37)) := (Below.refl _ _).alloc (Nat.le_refl _) _
  have hx := RBox.new w ph top at_ ro (.slice a qs.length ac) (.slice b ms.length bc) 37
  go_enter Tryz.func95, Tryz.ntmps95
  go_wp2_with fail
  refine (itime_any ro _).mono ?_
  rintro e w1 ⟨rfl, rfl⟩
  by_cases h1 : 0 ≤ ro ∧ ro ≤ 1000000000
  · rw [decide_eq_true h1]
    go_wp2_with fail
    refine (validSums_any ph top at_ ro wd a b ac bc qs ms _ (hq.below' hb) (hm.below' hb) hf h8).mono ?_
    rintro e w2 ⟨b2, rfl, hs2, hb2⟩
    have hB2 := hb.trans (hb2.mono (by simp))
    obtain ⟨x0, x1, x2, x3, x4, x5, x6⟩ := hx.below hb2
    clear hb2 hx
    cases b2 with
    | false =>
      go_wp2
      go_ret
      exact Says.no (fun h => by have := hs2.2 h.sums; cases this) hB2
    | true =>
      have hsum := hs2.1 rfl
      have HS : Hid _ := hsum
      clear hs2 hsum
      by_cases p0 : ph = 0
      · subst p0
        by_cases e1 : qs.length = 0
        · by_cases e2 : ms.length = 0
          · by_cases e3 : top = 0
            · by_cases e4 : at_ = 0
              · go_wp2
                go_ret
                exact Says.yes ⟨h1.1, h1.2, HS.out, .inl ⟨rfl, List.eq_nil_of_length_eq_zero e1, List.eq_nil_of_length_eq_zero e2, e3, e4⟩⟩ hB2
              · have e4' : (at_ == 0) = false := by simpa using e4
                go_wp2
                go_ret
                exact Says.no (P := RoundOk wd births 0 top at_ ro qs ms) (fun h => by have := h.ph; unfold PhOk at this; simp at this; have h9 := this.2.2.2; omega) hB2
            · have e3' : (top == 0) = false := by simpa using e3
              go_wp2
              go_ret
              exact Says.no (fun h => by have := h.ph; unfold PhOk at this; simp at this; have h9 := this.2.2.1; omega) hB2
          · have e2' : ((ms.length : Int) == 0) = false := beq_eq_false_iff_ne.2 (by omega)
            go_wp2
            go_ret
            exact Says.no (fun h => by have := h.ph; unfold PhOk at this; simp at this; exact e2 (by rw [this.2.1]; rfl)) hB2
        · have e1' : ((qs.length : Int) == 0) = false := beq_eq_false_iff_ne.2 (by omega)
          go_wp2
          go_ret
          exact Says.no (fun h => by have := h.ph; unfold PhOk at this; simp at this; exact e1 (by rw [this.1]; rfl)) hB2
      · have p0' : (ph == 0) = false := by simpa using p0
        by_cases p1 : ph = 1
        · subst p1
          by_cases e1 : 0 ≤ top
          · by_cases e2 : top ≤ births
            · have hwr : IntKind.i64.wrap (top + 1) = top + 1 := cnt_wrap (by omega) (by omega)
              by_cases e3 : at_ = top + 1
              · have e3' : (at_ == top + 1) = true := by simpa using e3
                go_wp2
                go_ret
                exact Says.yes (P := RoundOk wd births 1 top at_ ro qs ms) ⟨h1.1, h1.2, HS.out, .inr (.inl ⟨rfl, e1, e2, e3⟩)⟩ hB2
              · have e3' : (at_ == top + 1) = false := by simpa using e3
                go_wp2
                go_ret
                exact Says.no (P := RoundOk wd births 1 top at_ ro qs ms) (fun h => by have := h.ph; unfold PhOk at this; simp at this; have h9 := this.2.2; omega) hB2
            · have e2' : decide (top ≤ births) = false := by simpa using e2
              go_wp2
              go_ret
              exact Says.no (P := RoundOk wd births 1 top at_ ro qs ms) (fun h => by have := h.ph; unfold PhOk at this; simp at this; have h9 := this.2.1; omega) hB2
          · have e1' : decide (0 ≤ top) = false := by simpa using e1
            go_wp2
            go_ret
            exact Says.no (P := RoundOk wd births 1 top at_ ro qs ms) (fun h => by have := h.ph; unfold PhOk at this; simp at this; have h9 := this.1; omega) hB2
        · have p1' : (ph == 1) = false := by simpa using p1
          by_cases p2 : ph = 2
          · subst p2
            by_cases e1 : 0 ≤ top
            · by_cases e2 : top ≤ births
              · have hwr : IntKind.i64.wrap (top + 1) = top + 1 := cnt_wrap (by omega) (by omega)
                by_cases e3 : 1 ≤ at_
                · by_cases e4 : at_ ≤ top + 1
                  · have e4' : decide (at_ ≤ top + 1) = true := by simpa using e4
                    go_wp2
                    go_ret
                    exact Says.yes (P := RoundOk wd births 2 top at_ ro qs ms) ⟨h1.1, h1.2, HS.out, .inr (.inr ⟨rfl, e1, e2, e3, e4⟩)⟩ hB2
                  · have e4' : decide (at_ ≤ top + 1) = false := by simpa using e4
                    go_wp2
                    go_ret
                    exact Says.no (P := RoundOk wd births 2 top at_ ro qs ms) (fun h => by have := h.ph; unfold PhOk at this; simp at this; have h9 := this.2.2.2; omega) hB2
                · have e3' : decide (1 ≤ at_) = false := by simpa using e3
                  go_wp2
                  go_ret
                  exact Says.no (P := RoundOk wd births 2 top at_ ro qs ms) (fun h => by have := h.ph; unfold PhOk at this; simp at this; have h9 := this.2.2.1; omega) hB2
              · have e2' : decide (top ≤ births) = false := by simpa using e2
                go_wp2
                go_ret
                exact Says.no (P := RoundOk wd births 2 top at_ ro qs ms) (fun h => by have := h.ph; unfold PhOk at this; simp at this; have h9 := this.2.1; omega) hB2
            · have e1' : decide (0 ≤ top) = false := by simpa using e1
              go_wp2
              go_ret
              exact Says.no (P := RoundOk wd births 2 top at_ ro qs ms) (fun h => by have := h.ph; unfold PhOk at this; simp at this; have h9 := this.1; omega) hB2
          · have p2' : (ph == 2) = false := by simpa using p2
            go_wp2
            go_ret
            exact Says.no (P := RoundOk wd births ph top at_ ro qs ms) (fun h => by rcases h.ph with h | h | h; exact p0 h.1; exact p1 h.1; exact p2 h.1) hB2
  · rw [decide_eq_false h1]
    go_wp2
    go_ret
    exact Says.no (fun h => h1 ⟨h.ro1, h.ro2⟩) hb

end Go.Proofs.YthkmpihfhkmaoaaGreat

/-
  What a unit comes to is one.
-/
namespace Go.Proofs.YthkmpihfhkmaoaaGreat
open Go.ChangeShapes Go.WideShapes Go.ChangeAt Go.RowKit

/-- A list whose neighbours rise, rises. -/
theorem rises {xs : List ByteArray} (h : ∀ (j : Nat) p q, xs[j]? = some p → xs[j + 1]? = some q → less p q = true) : xs.Pairwise (fun a b => less a b = true) := by
  have hd : ∀ (d i : Nat) u v, xs[i]? = some u → xs[i + d + 1]? = some v → less u v = true := by
    intro d
    induction d with
    | zero => intro i u v hu hv; exact h i u v hu hv
    | succ d ih =>
      intro i u v hu hv
      have hlt := (List.getElem?_eq_some_iff.1 hv).1
      have hm : xs[i + d + 1]? = some xs[i + d + 1] := List.getElem?_eq_getElem (by omega)
      exact less_trans (ih i u _ hu hm) (h _ _ _ hm (by rw [show i + d + 1 + 1 = i + (d + 1) + 1 by omega]; exact hv))
  rw [List.pairwise_iff_getElem]
  intro i j hi hj hij
  exact hd (j - i - 1) i _ _ (List.getElem?_eq_getElem hi) (by rw [show i + (j - i - 1) + 1 = j by omega]; exact List.getElem?_eq_getElem hj)

theorem rises_nodup {xs : List ByteArray} (h : xs.Pairwise (fun a b => less a b = true)) : xs.Nodup := by
  refine List.Pairwise.imp ?_ h
  intro a b hab e
  rw [e, less_irrefl] at hab
  cases hab

theorem refs_rise {wd : Int} {ss : List ByteArray} (h : refsOk wd ss = true) : ss.Pairwise (fun a b => less a b = true) := by
  refine rises (fun j p q hp hq => ?_)
  have hl := (List.getElem?_eq_some_iff.1 hq).1
  unfold refsOk at h
  rw [List.all_eq_true] at h
  have := h (j + 1) (by simpa using hl)
  rw [refAt_succ hq hp] at this
  simp at this
  exact this.2

theorem uok_of {wd now given births ph top at_ ro : Int} {ks : List Kd} {ps : List Pd} {ls : List Ld} {qs ms : List ByteArray} (h : StateOk wd now given births ks ps ls) (hr : RoundOk wd births ph top at_ ro qs ms) : UOk wd births ks ps ls ph ro qs ms := by
  have th : ∀ k ∈ ks, ThingOk k.text k.refs wd := fun k hk => by
    obtain ⟨i, hi⟩ := List.getElem?_of_mem hk
    exact okThing_parts (h.th i k hi).ok
  have sz : ∀ k ∈ ks, (k.sum.size : Int) = wd := fun k hk => by
    obtain ⟨i, hi⟩ := List.getElem?_of_mem hk
    rw [(h.th i k hi).sum]
    exact sumOf_size k wd h.nums.wd1
  have srt : (ks.map (·.sum)).Pairwise (fun a b => less a b = true) := by
    refine rises (fun j p q hp hq => ?_)
    rw [List.getElem?_map] at hp hq
    obtain ⟨u, hu, rfl⟩ := Option.map_eq_some_iff.1 hp
    obtain ⟨v, hv, rfl⟩ := Option.map_eq_some_iff.1 hq
    exact (h.th (j + 1) v hv).up j u rfl hu
  refine ⟨⟨rises_nodup srt, srt, sz, fun k hk => ⟨by have := (th k hk).refs; omega, refs_rise (th k hk).all⟩, h.nth, h.nums.wd2⟩, fun k hk => ?_, fun k hk => ⟨(th k hk).refs, fun r hr => ?_⟩, h.np, h.nl, fun p hp => ?_, fun l hl => ?_, h.nums.births1, h.nums.births2, ?_, hr.ro1, hr.ro2, hr.sums.q, hr.sums.m, by have := hr.sums.nq; omega, by have := hr.sums.nm; omega⟩
  · obtain ⟨i, hi⟩ := List.getElem?_of_mem hk
    exact (h.born i k hi).lo
  · obtain ⟨i, hi⟩ := List.getElem?_of_mem hr
    exact (th k hk).size hi
  · obtain ⟨i, hi⟩ := List.getElem?_of_mem hp
    obtain ⟨u, hu, e⟩ := (h.pin i p hi).sum
    rw [← e]
    exact sz u hu
  · obtain ⟨i, hi⟩ := List.getElem?_of_mem hl
    obtain ⟨u, hu, e⟩ := (h.lease i l hi).sum
    rw [← e]
    exact sz u hu
  · rcases hr.ph with h | h | h
    · exact .inl h.1
    · exact .inr (.inl h.1)
    · exact .inr (.inr h.1)

theorem born_uniq {wd now given births : Int} {ks : List Kd} {ps : List Pd} {ls : List Ld} (h : StateOk wd now given births ks ps ls) {u v : Kd} (hu : u ∈ ks) (hv : v ∈ ks) (e : u.born = v.born) : u = v := by
  obtain ⟨i, hi⟩ := List.getElem?_of_mem hu
  obtain ⟨j, hj⟩ := List.getElem?_of_mem hv
  rcases Nat.lt_trichotomy i j with h' | h' | h'
  · exact absurd e ((h.born j v hj).new i u h' hi)
  · subst h'
    rw [hi] at hj
    exact Option.some.inj hj
  · exact absurd e.symm ((h.born i u hi).new j v h' hj)

theorem MarkTo.det {ks : List Kd} {s : ByteArray} {qs ms q1 m1 q2 m2 : List ByteArray} (hnd : (ks.map (·.sum)).Nodup) (h1 : MarkTo ks s qs ms q1 m1) (h2 : MarkTo ks s qs ms q2 m2) : q1 = q2 ∧ m1 = m2 := by
  rcases h1 with ⟨a, rfl, rfl⟩ | ⟨k, hk, e, hn, rfl, rfl⟩ <;> rcases h2 with ⟨a', rfl, rfl⟩ | ⟨k', hk', e', hn', rfl, rfl⟩
  · exact ⟨rfl, rfl⟩
  · rcases a with a | a
    · exact absurd ⟨k', hk', e'⟩ a
    · exact absurd a hn'
  · rcases a' with a | a
    · exact absurd ⟨k, hk, e⟩ a
    · exact absurd a hn
  · rw [sum_uniq hnd hk hk' (e.trans e'.symm)]
    exact ⟨rfl, rfl⟩

theorem UTo.det {wd now given births ph top at_ ro : Int} {ks : List Kd} {ps : List Pd} {ls : List Ld} {qs ms : List ByteArray} {r1 r2 : UR} (hs : StateOk wd now given births ks ps ls) (hnd : (ks.map (·.sum)).Nodup) (h1 : UTo ks ps ls births ph top at_ ro qs ms r1) (h2 : UTo ks ps ls births ph top at_ ro qs ms r2) : r1 = r2 := by
  have hy : ∀ {u v : Kd}, Young ks at_ u → Young ks at_ v → u = v := fun {u v} hu hv => born_uniq hs hu.1 hv.1 (by have := hu.2.2 v hv.1 hv.2.1; have := hv.2.2 u hu.1 hu.2.1; omega)
  cases h1 with
  | begin h1 =>
    cases h2 with
    | begin h2 => rfl
    | mark h2 s2 q02 qs12 ms12 hq2 hm2 => exact absurd h1 h2
    | rest h2 hq2 hn2 => exact absurd h1 h2
    | keep h2 hq2 u2 hu2 hk2 => exact absurd h1 h2
    | drop h2 hq2 u2 hu2 hm2 hk2 => exact absurd h1 h2
  | mark h1 s1 q01 qs11 ms11 hq1 hm1 =>
    cases h2 with
    | begin h2 => exact absurd h2 h1
    | mark h2 s2 q02 qs12 ms12 hq2 hm2 => rw [hq1] at hq2; cases hq2; obtain ⟨rfl, rfl⟩ := hm1.det hnd hm2; rfl
    | rest h2 hq2 hn2 => rw [hq1] at hq2; cases hq2
    | keep h2 hq2 u2 hu2 hk2 => rw [hq1] at hq2; cases hq2
    | drop h2 hq2 u2 hu2 hm2 hk2 => rw [hq1] at hq2; cases hq2
  | rest h1 hq1 hn1 =>
    cases h2 with
    | begin h2 => exact absurd h2 h1
    | mark h2 s2 q02 qs12 ms12 hq2 hm2 => rw [hq1] at hq2; cases hq2
    | rest h2 hq2 hn2 => rfl
    | keep h2 hq2 u2 hu2 hk2 => exact absurd hu2.2.1 (hn1 _ hu2.1)
    | drop h2 hq2 u2 hu2 hm2 hk2 => exact absurd hu2.2.1 (hn1 _ hu2.1)
  | keep h1 hq1 u1 hu1 hk1 =>
    cases h2 with
    | begin h2 => exact absurd h2 h1
    | mark h2 s2 q02 qs12 ms12 hq2 hm2 => rw [hq1] at hq2; cases hq2
    | rest h2 hq2 hn2 => exact absurd hu1.2.1 (hn2 _ hu1.1)
    | keep h2 hq2 u2 hu2 hk2 => cases hy hu1 hu2; rfl
    | drop h2 hq2 u2 hu2 hm2 hk2 => cases hy hu1 hu2; exact (hk1.elim hm2 hk2).elim
  | drop h1 hq1 u1 hu1 hm1 hk1 =>
    cases h2 with
    | begin h2 => exact absurd h2 h1
    | mark h2 s2 q02 qs12 ms12 hq2 hm2 => rw [hq1] at hq2; cases hq2
    | rest h2 hq2 hn2 => exact absurd hu1.2.1 (hn2 _ hu1.1)
    | keep h2 hq2 u2 hu2 hk2 => cases hy hu1 hu2; exact (hk2.elim hm1 hk1).elim
    | drop h2 hq2 u2 hu2 hm2 hk2 => cases hy hu1 hu2; rfl

/-- What Unit answers. -/
structure UOut where
  code : Int
  wd : Int
  now : Int
  given : Int
  births : Int
  ps : List Pd
  ls : List Ld
  r : UR

/-- What Unit answers of a state and a round. -/
inductive UnitTo (wd now given births : Int) (ks : List Kd) (ps : List Pd) (ls : List Ld) (ph top at_ ro : Int) (qs ms : List ByteArray) : UOut → Prop
  | bad (h : ¬ ((StateOk wd now given births ks ps ls ∧ RoundOk wd births ph top at_ ro qs ms) ∧ ro ≠ 1000000000)) : UnitTo wd now given births ks ps ls ph top at_ ro qs ms ⟨1, 0, 0, 0, 0, [], [], ⟨[], 0, 0, 0, 0, [], [], []⟩⟩
  | good (h : (StateOk wd now given births ks ps ls ∧ RoundOk wd births ph top at_ ro qs ms) ∧ ro ≠ 1000000000) (r : UR) (hr : UTo ks ps ls births ph top at_ ro qs ms r) : UnitTo wd now given births ks ps ls ph top at_ ro qs ms ⟨0, wd, now, given, births, ps, ls, r⟩

theorem UnitTo.det {wd now given births ph top at_ ro : Int} {ks : List Kd} {ps : List Pd} {ls : List Ld} {qs ms : List ByteArray} {o1 o2 : UOut} (h1 : UnitTo wd now given births ks ps ls ph top at_ ro qs ms o1) (h2 : UnitTo wd now given births ks ps ls ph top at_ ro qs ms o2) : o1 = o2 := by
  cases h1 with
  | bad h1 =>
    cases h2 with
    | bad h2 => rfl
    | good h2 r2 hr2 => exact absurd h2 h1
  | good h1 r1 hr1 =>
    cases h2 with
    | bad h2 => exact absurd h1 h2
    | good h2 r2 hr2 => rw [hr1.det h1.1.1 (uok_of h1.1.1 h1.1.2).ok.nd hr2]

end Go.Proofs.YthkmpihfhkmaoaaGreat

/-
  impl.draftOf, with what its map holds.
-/
namespace Go.Proofs.YthkmpihfhkmaoaaGreat
open Go.ChangeShapes Go.WideShapes Go.ChangeAt Go.RowKit

set_option maxRecDepth 20000 in
set_option maxHeartbeats 8000000 in
theorem draftOfU_any (wd now given births : Int) (a p l : Option Addr) (ac pc lc : Nat) (ks : List Kd) (ps : List Pd) (ls : List Ld) (w : World) (hrow : SRows w w.heap.size a p l ks ps ls) (hk : ks.length ≤ 600) (hp : ps.length ≤ 100) (hl : ls.length ≤ 200) (hsz : ∀ k ∈ ks, (k.sum.size : Int) = wd) (h8 : wd ≤ 8) :
    Calls Tryz.prog 43 #[.agg #[.int .i64 wd, .int .i64 now, .int .i64 given, .int .i64 births, .slice a ks.length ac, .slice p ps.length pc, .slice l ls.length lc]] w fun e w' => ∃ d m O P L, e = .returned (.pointer (some ⟨d, 0, none⟩)) ∧ Dr w' (w.heap.size + 1) d m O P L wd now given births ks ps ls ∧ HU w' (w.heap.size + 1) m wd ks ∧ Below w.heap.size w w' := by
  have hx := SBox.new w wd now given births (.slice a ks.length ac) (.slice p ps.length pc) (.slice l ls.length lc) 36
  obtain ⟨W0, hW0⟩ : ∃ W, W = w.alloc (.cells #[.int .i64 wd, .int .i64 now, .int .i64 given, .int .i64 births, .slice a ks.length ac, .slice p ps.length pc, .slice l ls.length lc] 36) := ⟨_, rfl⟩
  have hB0 : Below w.heap.size w W0 := by rw [hW0]; exact (Below.refl _ _).alloc (Nat.le_refl _) _
  have hz0 : W0.heap.size = w.heap.size + 1 := by rw [hW0]; simp
  rw [← hW0] at hx
  have HROW : Hid _ := hrow
  have HX : Hid _ := hx
  have HW0 : Hid _ := hW0
  have S0 := sq7 hx
  have S0d : W0.drew.cell? ⟨w.heap.size, 0, none⟩ = some (.int .i64 wd) ∧ W0.drew.cell? ⟨w.heap.size, 1, none⟩ = some (.int .i64 now) ∧ W0.drew.cell? ⟨w.heap.size, 2, none⟩ = some (.int .i64 given) ∧ W0.drew.cell? ⟨w.heap.size, 3, none⟩ = some (.int .i64 births) ∧ W0.drew.cell? ⟨w.heap.size, 4, none⟩ = some (.slice a ks.length ac) ∧ W0.drew.cell? ⟨w.heap.size, 5, none⟩ = some (.slice p ps.length pc) ∧ W0.drew.cell? ⟨w.heap.size, 6, none⟩ = some (.slice l ls.length lc) := S0
  have K0 : KRow W0.drew W0.drew.heap.size a ks := KRow.mono (KRow.below hrow.k hB0.drew) hB0.size
  have hk' : ks.length ≤ 1048576 := by omega
  have hp' : ps.length ≤ 1048576 := by omega
  have hl' : ls.length ≤ 1048576 := by omega
  clear hrow hx hW0
  go_enter Tryz.func43, Tryz.ntmps43
  go_upto_region 1 with fail
  rw [← HW0.out]
  clear HW0
  go_region_held3 (fun w' => w'.cell? ⟨w.heap.size, 0, none⟩ = some (.int .i64 wd) ∧ w'.cell? ⟨w.heap.size, 1, none⟩ = some (.int .i64 now) ∧ w'.cell? ⟨w.heap.size, 2, none⟩ = some (.int .i64 given) ∧ w'.cell? ⟨w.heap.size, 3, none⟩ = some (.int .i64 births) ∧ w'.cell? ⟨w.heap.size, 4, none⟩ = some (.slice a ks.length ac) ∧ w'.cell? ⟨w.heap.size, 5, none⟩ = some (.slice p ps.length pc) ∧ w'.cell? ⟨w.heap.size, 6, none⟩ = some (.slice l ls.length lc))
    (first | exact S3 | exact S2 | exact S1 | exact S0d | exact sq7 (SBox.below X3.out ((Below.refl _ _).alloc (Nat.le_refl _) _)))
    (first
    | (go_at_call 72; refine (shelfOf_any wd now given births a ac (.slice p ps.length pc) (.slice l ls.length lc) ks W0.drew K0 hk' hsz h8).mono ?_; rintro e w1 ⟨m, f, rfl, hm, hM, hH, hb1⟩; have B1 : Below W0.heap.size W0 w1 := (Below.refl W0.heap.size W0).drew.trans hb1; have S1 := sq7 (SBox.below HX.out B1))
    | (go_at_call 98; refine (clonePin_any p pc ps w1 (PRow.mono (PRow.below HROW.out.p (hB0.trans (B1.mono hB0.size))) (hB0.trans (B1.mono hB0.size)).size) hp').mono ?_; rintro e w2 ⟨p2, pc2, rfl, ho2, hb2⟩; have B2 : Below W0.heap.size W0 w2 := B1.trans (hb2.mono B1.size); have S2 := sq7 (SBox.below HX.out B2))
    | (go_at_call 99; refine (cloneLease_any l lc ls w2 (LRow.mono (LRow.below HROW.out.l (hB0.trans (B2.mono hB0.size))) (hB0.trans (B2.mono hB0.size)).size) hl').mono ?_; rintro e w3 ⟨l3, lc3, rfl, ho3, hb3⟩; have B3 : Below W0.heap.size W0 w3 := B2.trans (hb3.mono B2.size); have X3 : Hid _ := SBox.below HX.out B3; have S3 := sq7 X3.out))
  obtain ⟨W4, hW4⟩ : ∃ W, W = w3.alloc (.cells #[.int .i64 wd, .map (some m), .int .i64 now, .int .i64 given, .int .i64 births, .slice none 0 0, .slice p2 ps.length pc2, .slice l3 ls.length lc3] 140) := ⟨_, rfl⟩
  have hz4 : W4.heap.size = w3.heap.size + 1 := by rw [hW4]; simp
  have hb4 : Below w3.heap.size w3 W4 := by rw [hW4]; exact (Below.refl _ _).alloc (Nat.le_refl _) _
  have Z4 : CellsAt W4 w3.heap.size [.int .i64 wd, .map (some m), .int .i64 now, .int .i64 given, .int .i64 births, .slice none 0 0, .slice p2 ps.length pc2, .slice l3 ls.length lc3] := by rw [hW4]; exact CellsAt.new w3 _ _
  have hz01 : w.heap.size + 1 ≤ w1.heap.size := by have := B1.size; omega
  have hz12 := hb2.size
  have hz23 := hb3.size
  have hm3 : m < w1.heap.size := hM.lt
  have B4 : Below w.heap.size w W4 := (hB0.trans (B3.mono hB0.size)).trans (hb4.mono (by omega))
  have B04 : Hid (Below W0.drew.heap.size W0.drew W4) := ((hb1.trans (hb2.mono (by simp; omega))).trans (hb3.mono (by simp; omega))).trans (hb4.mono (by simp; omega))
  have HX4 : Hid _ := SBox.below X3.out hb4
  have HM4 : Hid (KMap W4 98 m ks.length f) := hM.keep (B := w1.heap.size) ((hb2.trans (hb3.mono hz12)).trans (hb4.mono (by omega))) hm3
  have HP4 : Hid (W4.ownsRow w1.heap.size 104 2 (.slice p2 ps.length pc2) ps.length (rowC pC ps)) := own_below (own_below ho2 hb3) hb4
  have HL4 : Hid (W4.ownsRow w2.heap.size 107 3 (.slice l3 ls.length lc3) ls.length (rowC lC ls)) := own_below ho3 hb4
  have HP2 : Hid (∀ g, (Value.slice p2 ps.length pc2).ownBlock = some g → w1.heap.size ≤ g ∧ g < w2.heap.size) := fun g hg => own_lt ho2 hg
  have HL3 : Hid (∀ g, (Value.slice l3 ls.length lc3).ownBlock = some g → w2.heap.size ≤ g ∧ g < w3.heap.size) := fun g hg => own_lt ho3 hg
  have HH : Hid _ := hH
  have HZ4 : Hid _ := Z4
  have hm0 : w.heap.size + 1 ≤ m := by have := hm; simp at this; omega
  rw [← hW4]
  clear hW4 S0 S0d S1 S2 S3 X3 HX B1 B2 B3 hb1 hb2 hb3 hM ho2 ho3 hH Z4 K0 hm
  obtain ⟨x0, x1, x2, x3, x4, x5, x6, x7⟩ := HX4.out
  go_wp2
  go_loopw [25] (fun i wr => ∃ (k : Nat) (O : Value), k ≤ ks.length ∧ i = .int .i64 k ∧ Hid (CellsAt wr w3.heap.size [.int .i64 wd, .map (some m), .int .i64 now, .int .i64 given, .int .i64 births, O, .slice p2 ps.length pc2, .slice l3 ls.length lc3]) ∧ Hid (wr.ownsRow (w3.heap.size + 1) 98 8 O ((ks.take k).map (·.sum)).length (cells8 ((ks.take k).map (·.sum)))) ∧ Below w3.heap.size W4 wr) (fun i _ => ks.length - (intOf i).toNat)
  case atStart => exact ⟨0, _, Nat.zero_le _, rfl, HZ4, ⟨rfl, .inl ⟨rfl, rfl⟩⟩, Below.refl _ _⟩
  case round =>
    clear x0 x1 x2 x3 x4 x5 x6 x7 HZ4
    obtain ⟨k, O, hkl, rfl, HZ, HO, hbel⟩ := hrel
    obtain ⟨x0, x1, x2, x3, x4, x5, x6, x7⟩ := SBox.keep HX4.out hbel (by omega)
    have hzr : w3.heap.size + 1 ≤ wr.heap.size := by have := hbel.size; omega
    by_cases hlt : k < ks.length
    · obtain ⟨b, off, ha, hb, hc⟩ := (KRow.below HROW.out.k (B4.trans (hbel.mono (by omega)))).at hlt
      subst ha
      have HG : Hid (ks[k]? = some ks[k]) := List.getElem?_eq_getElem hlt
      obtain ⟨c0, c1, c2, ra, rc, c3, _⟩ := hc k _ HG.out
      have hbr : b < wr.heap.size := by omega
      have HN : Hid ((ks.take (k + 1)).map (·.sum) = (ks.take k).map (·.sum) ++ [ks[k].sum]) := by
        show _ = _
        rw [List.take_succ_eq_append_getElem hlt, List.map_append]
        rfl
      have hln : ((ks.take k).map (·.sum)).length ≤ 600 := by simp; omega
      clear hc
      generalize ks[k] = x at *
      generalize (ks.take k).map (·.sum) = Os at *
      obtain ⟨W5, hW5⟩ : ∃ W, W = wr.alloc (.cells #[.string x.sum, .int .i64 x.born, .string x.text, .slice ra x.refs.length rc] 59) := ⟨_, rfl⟩
      have hz5 : W5.heap.size = wr.heap.size + 1 := by rw [hW5]; simp
      have b5 : Below wr.heap.size wr W5 := by rw [hW5]; exact (Below.refl _ _).alloc (Nat.le_refl _) _
      have Z5 : CellsAt W5 wr.heap.size [.string x.sum, .int .i64 x.born, .string x.text, .slice ra x.refs.length rc] := by rw [hW5]; exact CellsAt.new wr _ _
      have HOr : Hid _ := HO.out
      have HO5 : Hid _ := own_below HO.out b5
      have HZ5 : Hid _ := CellsAt.below HZ.out b5
      have HB5 : Hid (Below w3.heap.size W4 W5) := hbel.trans (b5.mono (by omega))
      have P5 : W5.drew.cell? ⟨w3.heap.size, 5, none⟩ = some O ∧ W5.drew.cell? ⟨wr.heap.size, 0, none⟩ = some (.string x.sum) := ⟨(HZ5.out 5 _ rfl).1, (Z5 0 _ rfl).1⟩
      have D5 : Below W5.heap.size W5 W5.drew := (Below.refl _ _).drew
      have HW5 : Hid _ := hW5
      clear hW5 Z5 HO HZ
      go_upto_region 5 with fail
      rw [← HW5.out]
      clear HW5 x0 x1 x2 x3 x4 x5 x6 x7 c0 c1 c2 c3
      obtain ⟨P5a, P5b⟩ := P5
      have hne : ∀ g, O.ownBlock = some g → w3.heap.size + 1 ≤ g ∧ g < wr.heap.size := fun g hg => own_lt HOr.out hg
      have hwn : wr.heap.size ≠ w3.heap.size := by omega
      go_region_law (first
        | (go_simp; go_at_call 63; refine (key_out x.sum W5.drew).mono ?_; rintro e w6 ⟨rfl, hb6⟩; have b6 : Below W5.heap.size W5 w6 := D5.trans hb6; have P6a : w6.cell? ⟨w3.heap.size, 5, none⟩ = some O := (b6.cell (p := ⟨w3.heap.size, 5, none⟩) (by simp; omega)).trans P5a; have P6b : w6.cell? ⟨wr.heap.size, 0, none⟩ = some (.string x.sum) := (b6.cell (p := ⟨wr.heap.size, 0, none⟩) (by simp; omega)).trans P5b; have b7 : Below W5.heap.size W5 (w6.alloc (oneK x.sum)) := b6.alloc b6.size _; have P7a : (w6.alloc (oneK x.sum)).cell? ⟨w3.heap.size, 5, none⟩ = some O := (b7.cell (p := ⟨w3.heap.size, 5, none⟩) (by simp; omega)).trans P5a; have P7b : (w6.alloc (oneK x.sum)).cell? ⟨wr.heap.size, 0, none⟩ = some (.string x.sum) := (b7.cell (p := ⟨wr.heap.size, 0, none⟩) (by simp; omega)).trans P5b; have z6 := b6.size; obtain ⟨g8, c8, w8, hr8, ho8, hg8, ha8⟩ := opush w6 (w3.heap.size + 1) O Os (own_below HO5.out b6) x.sum (by omega) (by omega) 116; have Z6 := CellsAt.below HZ5.out b6; unfold oneK at hr8 P7a P7b; go_wp2_with fail)
        | (refine step_append_run (by rfl) (.tmp 33) (.tmp 37) 116 116 (by rfl) (by rfl) (by rfl) hr8 ?_; have P8b : w8.cell? ⟨wr.heap.size, 0, none⟩ = some (.string x.sum) := hg8.cell P6b (fun e => by have := (hne _ e.symm).2; simp at this); have Z8 : CellsAt w8 w3.heap.size _ := (CellsAt.same Z6 (hg8.block w3.heap.size (by omega) (fun e => by have := (hne _ e.symm).1; omega))); have P8a := (Z8 5 _ rfl).1; have F8 := (Z8 5 _ rfl).2))
      all_goals
        have hx8 : Below w3.heap.size W4 w8 := (HB5.out.trans (b6.mono (by omega))).grown hg8 (by omega) (fun g hg => by have := (hne g hg).1; omega)
        have HX8 : Hid _ := And.intro Z8 (And.intro hx8 ho8)
        clear Z8 hx8 ho8 hg8 hr8 Z6 b6 b7 hb6 HO5 HZ5 HB5 P5a P5b P6a P6b P7a P7b P8a P8b F8 ha8 D5 b5
        go_wp2
        refine ⟨⟨k + 1, .slice (some ⟨g8, 0, none⟩) (Os.length + 1) c8, by omega, by go_num, ?_, ?_, ?_⟩, by simp [intOf]; omega⟩
        · exact CellsAt.set HX8.out.1 5 _
        · rw [HN.out]
          exact ownsRow_setCell_below HX8.out.2.2 (by simp <;> omega) _
        · exact HX8.out.2.1.setCell (by simp) _
    · obtain rfl : k = ks.length := by omega
      rw [List.take_of_length_le (Nat.le_refl _)] at HO
      go_wp2
      have hap : (vB w3.heap.size m O (.slice p2 ps.length pc2) (.slice l3 ls.length lc3)).Nodup := by
        have hO : ∀ g, O.ownBlock = some g → w3.heap.size + 1 ≤ g := fun g hg => (own_lt HO.out hg).1
        have hP : ∀ g, (Value.slice p2 ps.length pc2).ownBlock = some g → w1.heap.size ≤ g ∧ g < w2.heap.size := HP2.out
        have hL : ∀ g, (Value.slice l3 ls.length lc3).ownBlock = some g → w2.heap.size ≤ g ∧ g < w3.heap.size := HL3.out
        unfold vB
        generalize (Value.slice p2 ps.length pc2).ownBlock = bp at *
        generalize (Value.slice l3 ls.length lc3).ownBlock = bl at *
        generalize O.ownBlock = bo at *
        cases bo <;> cases bp <;> cases bl <;> simp_all <;> omega
      have hV : ∀ q ∈ vB w3.heap.size m O (.slice p2 ps.length pc2) (.slice l3 ls.length lc3), w.heap.size + 1 ≤ q := by
        intro q hq
        unfold vB at hq
        simp only [List.mem_cons, List.mem_append, Option.mem_toList] at hq
        rcases hq with rfl | rfl | hq | hq | hq
        · omega
        · omega
        · have := (own_lt HO.out hq).1; omega
        · have := (HP2.out _ hq).1; omega
        · have := (HL3.out _ hq).1; omega
      go_ret
      refine ⟨_, rfl, m, ⟨O, _, _, ⟨HZ.out, ⟨ks.length, f, by omega, HM4.out.keep hbel (by omega), ?_⟩, ?_, ?_, ?_, by omega, by omega, hap⟩⟩, ⟨ks.length, f, by omega, HM4.out.keep hbel (by omega), ?hu⟩, B4.trans (hbel.mono (by omega))⟩
      · have hq : W0.drew.heap.size = w.heap.size + 1 := hz0
        rw [← hq]
        exact HoldsV.of HH.out (B04.out.trans (hbel.mono (by simp; omega))) (fun q hq => by have := hV q hq; simp; omega)
      · have := HO.out
        rw [List.length_map] at this
        exact this.mono (by omega)
      · refine World.ownsRow.mono ?_ (show w.heap.size + 1 ≤ w1.heap.size by omega)
        exact own_at HP4.out hbel (fun g hg => by have := (HP2.out g hg).2; omega)
      · refine World.ownsRow.mono ?_ (show w.heap.size + 1 ≤ w2.heap.size by omega)
        exact own_at HL4.out hbel (fun g hg => by have := (HL3.out g hg).2; omega)
      case hu =>
        have hq : W0.drew.heap.size = w.heap.size + 1 := hz0
        rw [← hq]
        exact Holds.low HH.out (B04.out.trans (hbel.mono (by simp; omega)))



end Go.Proofs.YthkmpihfhkmaoaaGreat
