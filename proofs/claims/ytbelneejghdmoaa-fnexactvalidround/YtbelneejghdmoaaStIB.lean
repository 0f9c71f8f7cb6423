/-
  impl.validBirths.
-/
import Derived.Test.YtbelneejghdmoaaStST
import Derived.Test.YtbelneejghdmoaaStIP
namespace Go.Proofs.Ytbelneejghdmoaa
open Go.ChangeShapes Go.WideShapes Go.ChangeAt Go.RowKit
attribute [local go_sem ↓] Go.wp_at_zero Go.wp_at_succ

def FindAt (w : World) (wd : Int) (m : Nat) (ks : List Kd) (s : ByteArray) : Prop :=
  ∃ u bo t sa sb sc ok, Found ks s bo ok ∧ ∀ w', Below w.heap.size w w' → Calls Try.prog 92 #[.agg #[.int .i64 wd, .map (some m)], .string s] w' fun e w'' => e = .returned (.tuple #[.agg #[.string u, .int .i64 bo, .string t, .slice sa sb sc], .bool ok]) ∧ Below w'.heap.size w' w''

theorem intKeyed : Maps.Keyed Try.prog 3 := Maps.int_keyed Try.underlying3

theorem zeroInt (w : World) : (zeroValue 3).run Try.prog w = .ok (.int .i64 0) w := by kernel_rfl

/-- The map of births counts each that was met once. -/
def Once (ks : List Kd) (k : Nat) (f : Lit → Option Value) : Prop := ∀ z : Int, f (.int .i64 z) = if seen ks k z = true then some (.int .i64 1) else none

set_option maxRecDepth 20000 in
set_option maxHeartbeats 8000000 in
theorem ivalidBirths_any (wd now given births : Int) (P L : Value) (a : Option Addr) (ac m : Nat) (ks : List Kd) (w : World) (hrow : KRow w w.heap.size a ks) (hl : ks.length ≤ 1048576) (hrl : ∀ k ∈ ks, k.refs.length ≤ 1048576) (hbw : ∀ k ∈ ks, (Lit.int .i64 k.born).wf = true)
    (hth : ∀ (i : Nat) k, ks[i]? = some k → ThAt wd ks i k) (hfind : ∀ s, FindAt w wd m ks s) :
    Calls Try.prog 50 #[.agg #[.int .i64 wd, .int .i64 now, .int .i64 given, .int .i64 births, .slice a ks.length ac, P, L], .agg #[.int .i64 wd, .map (some m)]] w fun e w' => Says ((∀ (i : Nat) k, ks[i]? = some k → BornAt births ks i k) ∧ (∀ (i : Nat) k, ks[i]? = some k → RefAt ks k)) w w' e := by
  have hmm := @run_makeMap Try.prog
  go_enter Try.func50, Try.ntmps50
  go_wp2
  obtain ⟨W0, hW0⟩ : ∃ W, W = (((w.alloc (Obj.cells #[Value.int IntKind.i64 wd, Value.int IntKind.i64 now, Value.int IntKind.i64 given, Value.int IntKind.i64 births, Value.slice a ks.length ac, P, L] 33)).alloc (Obj.cells #[Value.int IntKind.i64 wd, Value.map (some m)] 76)).alloc (Obj.map #[] 0)) := ⟨_, rfl⟩
  have hB0 : Below w.heap.size w W0 := by
    rw [hW0]
    exact ((((Below.refl _ _).alloc (Nat.le_refl _) _).alloc (by simp) _).alloc (by simp; omega) _)
  have hz0 : W0.heap.size = w.heap.size + 3 := by rw [hW0]; simp
  have hM0 : KMap W0 3 (w.heap.size + 1 + 1) 0 (fun _ => none) := by
    have := KMap.new ((w.alloc (Obj.cells #[Value.int IntKind.i64 wd, Value.int IntKind.i64 now, Value.int IntKind.i64 given, Value.int IntKind.i64 births, Value.slice a ks.length ac, P, L] 33)).alloc (Obj.cells #[Value.int IntKind.i64 wd, Value.map (some m)] 76)) 3
    rw [hW0]
    simpa using this
  have s3 : W0.cell? ⟨w.heap.size, 3, none⟩ = some (.int .i64 births) := by rw [hW0]; simp [go_sem]
  have g0 : W0.cell? ⟨w.heap.size + 1, 0, none⟩ = some (.int .i64 wd) := by rw [hW0]; simp [go_sem]
  have g1 : W0.cell? ⟨w.heap.size + 1, 1, none⟩ = some (.map (some m)) := by rw [hW0]; simp [go_sem]
  rw [← hW0]
  clear hW0 hmm
  go_loopw [16] (fun i wr => ∃ (k : Nat) (f : Lit → Option Value), k ≤ ks.length ∧ i = .int .i64 k ∧ Hid (KMap wr 3 (w.heap.size + 1 + 1) k f) ∧ Hid (Once ks k f) ∧ Hid (W0.grownBy wr (some (w.heap.size + 1 + 1))) ∧ Hid (∀ (j : Nat) x, j < k → ks[j]? = some x → BornAt births ks j x ∧ RefAt ks x)) (fun i _ => ks.length - (intOf i).toNat)
  case atStart => exact ⟨0, _, Nat.zero_le _, rfl, hM0, fun z => by simp [seen], grown_refl _ _, fun j x h => by omega⟩
  case round =>
    obtain ⟨k, f, hk, rfl, HM, HO, HGr, hall⟩ := hrel
    have hgr : W0.grownBy wr (some (w.heap.size + 1 + 1)) := HGr.out
    have hbel : Below w.heap.size w wr := hB0.grown hgr (by omega) (by intro j hj; cases hj; omega)
    have hzr := hgr.size
    by_cases hlt : k < ks.length
    · obtain ⟨b, off, ha, hb, hc⟩ := (hrow.below hbel).at hlt
      subst ha
      have HG : Hid (ks[k]? = some ks[k]) := List.getElem?_eq_getElem hlt
      obtain ⟨c0, c1, c2, ra, rc, c3, hr⟩ := hc k _ HG.out
      have hmem := List.getElem_mem hlt
      have hxr := hrl _ hmem
      have hxw := hbw _ hmem
      have hbr : b < wr.heap.size := by omega
      have t3 := hgr.cell s3 (by simp; omega)
      have hkey : keyOf Try.prog 3 (.int .i64 ks[k].born) = some (.int .i64 ks[k].born) := Maps.keyOf_int_mk Try.underlying3 hxw
      have HR : Hid _ := hr
      generalize ks[k] = x at *
      clear hc hr hmem
      have hb1 : Below wr.heap.size wr (wr.alloc (Obj.cells #[Value.string x.sum, Value.int IntKind.i64 x.born, Value.string x.text, Value.slice ra x.refs.length rc] 92)) := (Below.refl _ _).alloc (Nat.le_refl _) _
      have hM1 := HM.out.keep hb1 (by omega)
      have hlk := hM1.look intKeyed Try.underlying121 (zeroInt _) hkey
      rw [HO.out] at hlk
      have hcnt : ∃ c : Int, (if seen ks k x.born = true then some (Value.int .i64 1) else none).getD (.int .i64 0) = .int .i64 c ∧ (c = if seen ks k x.born = true then 1 else 0) := by
        cases seen ks k x.born <;> exact ⟨_, rfl, rfl⟩
      obtain ⟨c, hc1, hc2⟩ := hcnt
      rw [hc1] at hlk
      have hcb0 : 0 ≤ c := by rw [hc2]; split <;> omega
      have hcb1 : c ≤ 1 := by rw [hc2]; split <;> omega
      obtain ⟨w3, hup, hm3, hg3⟩ := hM1.put intKeyed Try.underlying121 (val := .int .i64 (c + 1)) (by unfold maxLen; omega) hkey
      have hlk3 := hm3.look intKeyed Try.underlying121 (zeroInt _) hkey
      rw [upd_same] at hlk3
      simp only [Option.getD_some] at hlk3
      have hgn : W0.grownBy w3 (some (w.heap.size + 1 + 1)) := grown_trans hgr (grown_trans (grown_below _ hb1) hg3)
      have hB3 : Below w.heap.size w w3 := hB0.grown hgn (by omega) (by intro j hj; cases hj; omega)
      have u1 : w3.cell? ⟨wr.heap.size, 1, none⟩ = some (.int .i64 x.born) := hg3.cell (by simp) (by simp; omega)
      have u3 : w3.cell? ⟨wr.heap.size, 3, none⟩ = some (.slice ra x.refs.length rc) := hg3.cell (by simp) (by simp; omega)
      have v3 := hgn.cell s3 (by simp; omega)
      have hz3 : wr.heap.size < w3.heap.size := by have := hg3.size; simp at this; omega
      have hbw3 : Below w.heap.size wr w3 := ((Below.refl _ _).alloc hbel.size _).grown hg3 (by simp; have := hbel.size; omega) (by intro j hj; cases hj; omega)
      have HR3 : Hid (SRow w3 w.heap.size ra x.refs) := SRow.below HR.out hbw3
      have HK : Hid _ := And.intro hm3 (And.intro hgn hB3)
      have HP : Hid _ := And.intro hgr hbel
      have HF : Hid _ := hfind
      have HBig : Hid _ := And.intro hrow (And.intro hrl (And.intro hbw hth))
      clear hM1 hm3 hg3 hgn hB3 hgr hbel hbw3 HR hrow hrl hbw hth hfind HM HGr hkey hb1 hc1 hxw hM0 hB0 s3 t3
      by_cases hlo : 1 ≤ x.born
      · have hlo' : decide (x.born < 1) = false := by simp; omega
        by_cases hhi : x.born ≤ births
        · have hhi' : decide (births < x.born) = false := by simp; omega
          cases hse : seen ks k x.born with
          | true =>
            have hc3 : c = 1 := by rw [hc2, hse]; rfl
            have hd : decide (1 < c + 1) = true := by simp; omega
            have HSe : Hid _ := hse
            clear hc2 hse hc3
            go_wp2
            go_ret
            refine Says.no (fun h => ?_) HK.out.2.2
            obtain ⟨j', p', hj', hp', he'⟩ := seen_iff.1 HSe.out
            exact (h.1 _ _ HG.out).new j' p' hj' hp' he'
          | false =>
            have hc3 : c = 0 := by rw [hc2, hse]; rfl
            have hd : decide (1 < c + 1) = false := by simp; omega
            have HSe : Hid _ := hse
            have HB : Hid (BornAt births ks k x) := ⟨hlo, hhi, fun j2 p2 hj2 hp2 he => by
              have := seen_iff.2 ⟨j2, p2, hj2, hp2, he⟩
              rw [hse] at this
              cases this⟩
            have HO1 : Hid (Once ks (k + 1) (upd f (.int .i64 x.born) (.int .i64 (c + 1)))) := by
              intro z
              rw [seen_snoc HG.out]
              by_cases hz : z = x.born
              · subst hz; rw [upd_same, hc3]; simp
              · rw [upd_other _ _ (fun e => hz (by cases e; rfl)), HO.out]
                have : decide (x.born = z) = false := by simp; exact fun e => hz e.symm
                rw [this]; simp
            clear hc2 hse hc3 HO
            go_wp2
            clear HP hlk hup hlk3
            generalize hN : wr.heap.size = N at *
            go_loopw [46] (fun jv wz => ∃ q : Nat, q ≤ x.refs.length ∧ jv = .int .i64 q ∧ Hid (Below w3.heap.size w3 wz) ∧ Hid (∀ (r : Nat) s, r < q → x.refs[r]? = some s → ∃ u ∈ ks, u.sum = s ∧ u.born < x.born)) (fun jv _ => x.refs.length - (intOf jv).toNat)
            case atStart => exact ⟨0, Nat.zero_le _, rfl, Below.refl _ _, fun r s h => by omega⟩
            case round =>
              obtain ⟨q, hq, rfl, HBz, hrs⟩ := hrel
              have hbz : Below w3.heap.size w3 wr := HBz.out
              have hBz : Below w.heap.size w wr := HK.out.2.2.trans (hbz.mono HK.out.2.2.size)
              have y1 := (hbz.cell (p := ⟨N, 1, none⟩) hz3).trans u1
              have p0 := (hbz.cell (p := ⟨w.heap.size + 1, 0, none⟩) (by simp; omega)).trans (HK.out.2.1.cell g0 (by simp))
              have p1 := (hbz.cell (p := ⟨w.heap.size + 1, 1, none⟩) (by simp; omega)).trans (HK.out.2.1.cell g1 (by simp))
              have hNz : N < wr.heap.size := Nat.lt_of_lt_of_le hz3 hbz.size
              have hHz : w.heap.size + 1 < wr.heap.size := by have := hbz.size; omega
              by_cases hql : q < x.refs.length
              · have hr4 : SRow wr w.heap.size ra x.refs := SRow.below HR3.out (hbz.mono (by omega))
                obtain ⟨rb, roff, hra, hrb, hrc⟩ := hr4.at hql
                subst hra
                have HS : Hid (x.refs[q]? = some x.refs[q]) := List.getElem?_eq_getElem hql
                have es := hrc q _ HS.out
                have hrbw : rb < wr.heap.size := by omega
                generalize x.refs[q] = s at *
                obtain ⟨u, bo, t, sa, sb, sc, ok, hfd, hcl⟩ := HF.out s
                have HC : Hid _ := hcl wr hBz
                have HFd : Hid _ := hfd
                have HBB : Hid _ := And.intro hbz hBz
                clear hcl hfd hrc hr4 hbz hBz
                go_wp2_with fail
                refine Calls.mono HC.out ?_
                rintro e w4 ⟨rfl, hb4⟩
                have y4 := (hb4.cell (p := ⟨N, 1, none⟩) hNz).trans y1
                have hN4 : N < w4.heap.size := Nat.lt_of_lt_of_le hNz hb4.size
                have hB4 : Below w.heap.size w w4 := HBB.out.2.trans (hb4.mono HBB.out.2.size)
                have hb34 : Below w3.heap.size w3 w4 := HBB.out.1.trans (hb4.mono HBB.out.1.size)
                have HB4 : Hid _ := And.intro hB4 hb34
                have hs4 : w3.heap.size ≤ w4.heap.size := hb34.size
                have hsw : w.heap.size ≤ w4.heap.size := hB4.size
                clear hb4 hB4 hb34 y1 p0 p1 es HC
                cases ok with
                | false =>
                  go_wp2
                  go_ret
                  refine Says.no (fun h => ?_) (HB4.out.1.alloc hsw _)
                  obtain ⟨v, hv, hvs, _⟩ := h.2 _ _ HG.out s (List.mem_of_getElem? HS.out)
                  exact HFd.out.no rfl ⟨v, hv, hvs⟩
                | true =>
                  obtain ⟨v, hv, hvs, hvb⟩ := HFd.out.yes rfl
                  have HV : Hid _ := And.intro hv (And.intro hvs hvb)
                  clear hv hvs hvb HFd
                  by_cases hlt2 : bo < x.born
                  · have hd2 : decide (x.born ≤ bo) = false := by simp; omega
                    have HN : Hid (∀ (r : Nat) s, r < q + 1 → x.refs[r]? = some s → ∃ u ∈ ks, u.sum = s ∧ u.born < x.born) := by
                      intro r s' hr' hs'
                      rcases Nat.lt_or_ge r q with h' | h'
                      · exact hrs.out r s' h' hs'
                      · obtain rfl : r = q := by omega
                        rw [HS.out] at hs'
                        cases hs'
                        exact ⟨v, HV.out.1, HV.out.2.1, by rw [HV.out.2.2]; exact hlt2⟩
                    go_wp2
                    exact ⟨⟨q + 1, by omega, by go_num, HB4.out.2.alloc hs4 _, HN⟩, by simp [intOf]; omega⟩
                  · have hd2 : decide (x.born ≤ bo) = true := by simp; omega
                    go_wp2
                    go_ret
                    refine Says.no (fun h => ?_) (HB4.out.1.alloc hsw _)
                    obtain ⟨v', hv', hvs', hb'⟩ := h.2 _ _ HG.out s (List.mem_of_getElem? HS.out)
                    obtain ⟨i2, hi2⟩ := List.getElem?_of_mem HV.out.1
                    obtain ⟨i3, hi3⟩ := List.getElem?_of_mem hv'
                    have := sums_inj HBig.out.2.2.2 hi2 hi3 (by rw [HV.out.2.1, hvs'])
                    subst this
                    rw [HV.out.2.2] at hb'
                    omega
              · have HN : Hid (∀ (j : Nat) y, j < k + 1 → ks[j]? = some y → BornAt births ks j y ∧ RefAt ks y) := by
                  intro j y hj hy
                  rcases Nat.lt_or_ge j k with h' | h'
                  · exact hall.out j y h' hy
                  · obtain rfl : j = k := by omega
                    rw [HG.out] at hy
                    cases hy
                    refine ⟨HB.out, fun r hr' => ?_⟩
                    obtain ⟨p, hp⟩ := List.getElem?_of_mem hr'
                    exact hrs.out p r (by have := (List.getElem?_eq_some_iff.1 hp).1; omega) hp
                have hKM : Hid (KMap wr 3 (w.heap.size + 1 + 1) (k + 1) (upd f (.int .i64 x.born) (.int .i64 (c + 1)))) := HK.out.1.keep hbz (by omega)
                have hGW : Hid (W0.grownBy wr (some (w.heap.size + 1 + 1))) := grown_trans HK.out.2.1 (grown_below _ hbz)
                clear hbz hBz y1 p0 p1
                go_wp2
                exact ⟨⟨k + 1, _, by omega, by go_num, hKM, HO1, hGW, HN⟩, by simp [intOf]; omega⟩
        · have hhi' : decide (births < x.born) = true := by simp; omega
          clear hc2
          go_wp2
          go_ret
          refine Says.no (fun h => ?_) HK.out.2.2
          have := (h.1 _ _ HG.out).hi
          omega
      · have hlo' : decide (x.born < 1) = true := by simp; omega
        clear hc2
        go_wp2
        go_ret
        refine Says.no (fun h => ?_) HK.out.2.2
        have := (h.1 _ _ HG.out).lo
        omega
    · clear HM HO hM0 hB0
      go_wp2
      go_ret
      exact Says.yes ⟨fun i x hx => (hall.out i x (by have := (List.getElem?_eq_some_iff.1 hx).1; omega) hx).1, fun i x hx => (hall.out i x (by have := (List.getElem?_eq_some_iff.1 hx).1; omega) hx).2⟩ hbel

end Go.Proofs.Ytbelneejghdmoaa
