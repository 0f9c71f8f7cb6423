/-
  spec.ValidState.
-/
import Derived.Test.YtbelneejghdmoaaStIV
namespace Go.Proofs.Ytbelneejghdmoaa
open Go.ChangeShapes Go.WideShapes Go.ChangeAt Go.RowKit

theorem swidth_any (n : Int) (w : World) :
    Calls Try.prog 39 #[.int .i64 n] w fun e w' => e = .returned (.bool (decide (1 ≤ n ∧ n ≤ 8))) ∧ w' = w := by
  by_cases h1 : 1 ≤ n
  · by_cases h2 : n ≤ 8
    · go_enter Try.func39, Try.ntmps39
      go_wp2
      go_ret
      exact ⟨ret_b (by simp [h1, h2]), rfl⟩
    · have h2' : decide (n ≤ 8) = false := by simpa using h2
      go_enter Try.func39, Try.ntmps39
      go_wp2
      go_ret
      exact ⟨rfl, rfl⟩
  · have h1' : decide (1 ≤ n) = false := by simpa using h1
    go_enter Try.func39, Try.ntmps39
    go_wp2
    go_ret
    exact ⟨rfl, rfl⟩

set_option maxRecDepth 100000 in
set_option maxHeartbeats 16000000 in
theorem sValidState_any (wd now given births : Int) (a p l : Option Addr) (ac pc lc : Nat) (ks : List Kd) (ps : List Pd) (ls : List Ld) (w : World) (hrow : SRows w w.heap.size a p l ks ps ls) (hk : KMem ks) (hp : PMem ps) (hf : SFit ks ps ls) :
    Calls Try.prog 10 #[.agg #[.int .i64 wd, .int .i64 now, .int .i64 given, .int .i64 births, .slice a ks.length ac, .slice p ps.length pc, .slice l ls.length lc]] w fun e w' => Says (StateOk wd now given births ks ps ls) w w' e := by
  have hb0 : Below w.heap.size w (w.alloc (.cells #[.int .i64 wd, .int .i64 now, .int .i64 given, .int .i64 births, .slice a ks.length ac, .slice p ps.length pc, .slice l ls.length lc] 33)) := (Below.refl _ _).alloc (Nat.le_refl _) _
  have hx := SBox.new w wd now given births (.slice a ks.length ac) (.slice p ps.length pc) (.slice l ls.length lc) 33
  have hfk := hf.k
  have hfp := hf.p
  have hfl := hf.l
  have HRW : Hid _ := hrow
  have HKR : Hid _ := hrow.k
  have HPR : Hid _ := hrow.p
  have HLR : Hid _ := hrow.l
  clear hrow
  go_enter Try.func10, Try.ntmps10
  go_wp2_with fail
  refine (swidth_any wd _).mono ?_
  rintro e w1 ⟨rfl, rfl⟩
  by_cases h0 : 1 ≤ wd ∧ wd ≤ 8
  · rw [decide_eq_true h0]
    go_wp2_with fail
    refine (range_any now 0 1000000000 _).mono ?_
    rintro e w1 ⟨rfl, rfl⟩
    by_cases h1 : 0 ≤ now ∧ now ≤ 1000000000
    · rw [decide_eq_true h1]
      go_wp2_with fail
      refine (range_any given 0 1000000000 _).mono ?_
      rintro e w1 ⟨rfl, rfl⟩
      by_cases h2 : 0 ≤ given ∧ given ≤ 1000000000
      · rw [decide_eq_true h2]
        go_wp2_with fail
        refine (range_any births 0 1000000000 _).mono ?_
        rintro e w1 ⟨rfl, rfl⟩
        by_cases h3 : 0 ≤ births ∧ births ≤ 1000000000
        · rw [decide_eq_true h3]
          have hN : NumsOk wd now given births := ⟨h0.1, h0.2, h1.1, h1.2, h2.1, h2.2, h3.1, h3.2⟩
          by_cases hn1 : ks.length ≤ 600
          · have hn1' : decide ((600 : Int) < (ks.length : Int)) = false := by simp; omega
            by_cases hn2 : ps.length ≤ 100
            · have hn2' : decide ((100 : Int) < (ps.length : Int)) = false := by simp; omega
              by_cases hn3 : ls.length ≤ 200
              · have hn3' : decide ((200 : Int) < (ls.length : Int)) = false := by simp; omega
                go_wp2_with fail
                refine (sThings_any wd now given births a ac _ _ ks _ (SRows.below' HRW.out hb0).k hk hn1 hf.r hN.wd1 hN.wd2).mono ?_
                rintro e w2 ⟨b2, rfl, hb2, hw2⟩
                have hB2 := hb0.trans (hw2.mono (by simp))
                have hx2 := hx.below hw2
                have HB2 : Hid _ := hb2
                clear hw2 hb2 hb0 hx
                cases b2 with
                | false =>
                  clear hx2
                  go_wp2
                  go_ret
                  exact Says.no (fun h => by have := HB2.out.2 ⟨h.th, h.born, h.ref⟩; cases this) hB2
                | true =>
                  have HF1 : Hid _ := HB2.out.1 rfl
                  clear HB2
                  obtain ⟨x0, x1, x2, x3, x4, x5, x6, x7⟩ := hx2
                  have HX2 : Hid (SBox w2 w.heap.size wd now given births (.slice a ks.length ac) (.slice p ps.length pc) (.slice l ls.length lc)) := ⟨x0, x1, x2, x3, x4, x5, x6, x7⟩
                  go_wp2
                  go_loopw [3] (fun i wr => ∃ k : Nat, k ≤ ps.length ∧ i = .int .i64 k ∧ Below w.heap.size w wr ∧ Hid (SBox wr w.heap.size wd now given births (.slice a ks.length ac) (.slice p ps.length pc) (.slice l ls.length lc)) ∧ Hid (∀ (j : Nat) x, j < k → ps[j]? = some x → PinAt ks ps j x)) (fun i _ => ps.length - (intOf i).toNat)
                  case atStart => exact ⟨0, Nat.zero_le _, rfl, hB2, HX2, fun j x h => by omega⟩
                  case round =>
                    clear x0 x1 x2 x3 x4 x5 x6 x7 HX2 hB2
                    obtain ⟨k, hk', rfl, hbel, HX, hall⟩ := hrel
                    obtain ⟨x0, x1, x2, x3, x4, x5, x6, x7⟩ := HX.out
                    by_cases hlt : k < ps.length
                    · obtain ⟨b, off, ha, hb, hc⟩ := (PRow.below HPR.out hbel).at hlt
                      subst ha
                      have hg : ps[k]? = some ps[k] := List.getElem?_eq_getElem hlt
                      obtain ⟨c0, c1⟩ := hc k _ hg
                      have m1 := hp.name _ (List.getElem_mem hlt)
                      have hbr : b < wr.heap.size := by omega
                      match k, hk', hlt, hall, hg, c0, c1, m1 with
                      | 0, hk', hlt, hall, hg, c0, c1, m1 =>
                        have HG : Hid _ := hg
                        clear hc hg HX
                        simp only [Nat.zero_mul, Nat.add_zero] at c0 c1
                        generalize ps[0] = x at *
                        go_wp2
                        have q0 := Cls.cell x0 x7
                        have q1 := Cls.cell x1 x7
                        have q2 := Cls.cell x2 x7
                        have q3 := Cls.cell x3 x7
                        have q4 := Cls.cell x4 x7
                        have q5 := Cls.cell x5 x7
                        have q6 := Cls.cell x6 x7
                        have q7 := Cls.cell c0 hbr
                        have q8 := Cls.cell c1 hbr
                        have hne := Cls.ne wr
                        have hV : ∀ n : Cls wr, Calls Try.prog 42 #[.string x.name] n.w fun e w' => e = .returned (.bool (nameOk x.name)) ∧ Below n.w.heap.size n.w w' := fun n => (sName_any _ _ m1).mono (by rintro e w' ⟨rfl, rfl⟩; exact ⟨rfl, Below.refl _ _⟩)
                        have hF : ∀ n : Cls wr, Calls Try.prog 43 #[.agg #[.int .i64 wd, .int .i64 now, .int .i64 given, .int .i64 births, .slice a ks.length ac, .slice (some ⟨b, off, none⟩) ps.length pc, .slice l ls.length lc], .string x.sum] n.w fun e w' => e = .returned (.int .i64 (findI ks x.sum)) ∧ Below n.w.heap.size n.w w' := fun n => find_any wd now given births a ac _ _ ks x.sum n.w w.heap.size (KRow.below HKR.out (hbel.trans (n.h.mono hbel.size))) (by have := n.h.size; omega) (by omega)
                        have HV : Hid _ := hV
                        have HF : Hid _ := hF
                        have hlew : w.heap.size ≤ wr.heap.size := hbel.size
                        have HXr : Hid (SBox wr w.heap.size wd now given births (.slice a ks.length ac) (.slice (some ⟨b, off, none⟩) ps.length pc) (.slice l ls.length lc)) := ⟨x0, x1, x2, x3, x4, x5, x6, x7⟩
                        clear hV hF
                        cases hnm : nameOk x.name with
                        | false =>
                          rw [hnm] at HV
                          refine region_cls_lit (by kernel_rfl) (by kernel_rfl) ?_
                          repeat (go_big_quiet_step (first | exact Cls.calls (HV.out _) | exact Cls.calls (HF.out _)))
                          refine wpQuiet_nil ?_
                          intro n
                          have HBn : Hid _ := hbel.trans (n.h.mono hlew)
                          clear hbel
                          go_wp2
                          go_ret
                          exact Says.no (fun h => by have := (h.pin _ _ HG.out).name; rw [hnm] at this; cases this) HBn.out
                        | true =>
                          rw [hnm] at HV
                          rcases findI_cases ks x.sum with ⟨hfi, hno⟩ | ⟨i2, u, hfi, hu, hus⟩
                          · rw [hfi] at HF
                            refine region_cls_lit (by kernel_rfl) (by kernel_rfl) ?_
                            repeat (go_big_quiet_step (first | exact Cls.calls (HV.out _) | exact Cls.calls (HF.out _)))
                            refine wpQuiet_nil ?_
                            intro n
                            have HBn : Hid _ := hbel.trans (n.h.mono hlew)
                            clear hbel
                            go_wp2
                            go_ret
                            exact Says.no (fun h => hno (h.pin _ _ HG.out).sum) HBn.out
                          · rw [hfi] at HF
                            have hneg : decide ((i2 : Int) < 0) = false := by simp
                            have HA : Hid (∀ (j' : Nat) y, j' < 0 + 1 → ps[j']? = some y → PinAt ks ps j' y) := by
                              intro j' y hj hy
                              rcases Nat.lt_or_ge j' (0) with h' | h'
                              · exact hall.out j' y h' hy
                              · obtain rfl : j' = 0 := by omega
                                rw [HG.out] at hy
                                cases hy
                                exact ⟨hnm, fun j p h => by omega, ⟨u, List.mem_of_getElem? hu, hus⟩⟩
                            refine region_cls_lit (by kernel_rfl) (by kernel_rfl) ?_
                            repeat (go_big_quiet_step (first | exact Cls.calls (HV.out _) | exact Cls.calls (HF.out _)))
                            refine wpQuiet_nil ?_
                            intro n
                            have HBn : Hid _ := hbel.trans (n.h.mono hlew)
                            have HXn := SBox.keep HXr.out n.h x7
                            clear hbel
                            go_wp2
                            exact ⟨⟨0 + 1, by omega, by go_num, HBn.out, HXn, HA⟩, by simp [intOf]; omega⟩

                      | j + 1, hk', hlt, hall, hg, c0, c1, m1 =>
                        have HG : Hid _ := hg
                        have HP : Hid (ps[j]? = some ps[j]) := List.getElem?_eq_getElem (by omega)
                        obtain ⟨d0, _⟩ := hc j _ HP.out
                        clear hc hg HX
                        generalize ps[j + 1] = x at *
                        generalize ps[j] = p at *
                        have hwj : IntKind.i64.wrap (j : Int) = (j : Int) := wrap_small (by omega) (by omega)
                        have hj0 : (0 : Int) ≤ (j : Int) := by omega
                        have hj1 : (j : Int) < (ps.length : Int) := by omega
                        have hk0 : (0 : Int) ≤ (j : Int) + 1 := by omega
                        have hk1 : (j : Int) + 1 < (ps.length : Int) := by omega
                        go_wp2
                        have q0 := Cls.cell x0 x7
                        have q1 := Cls.cell x1 x7
                        have q2 := Cls.cell x2 x7
                        have q3 := Cls.cell x3 x7
                        have q4 := Cls.cell x4 x7
                        have q5 := Cls.cell x5 x7
                        have q6 := Cls.cell x6 x7
                        have q7 := Cls.cell c0 hbr
                        have q8 := Cls.cell c1 hbr
                        have q9 := Cls.cell d0 hbr
                        have hne := Cls.ne wr
                        have hV : ∀ n : Cls wr, Calls Try.prog 42 #[.string x.name] n.w fun e w' => e = .returned (.bool (nameOk x.name)) ∧ Below n.w.heap.size n.w w' := fun n => (sName_any _ _ m1).mono (by rintro e w' ⟨rfl, rfl⟩; exact ⟨rfl, Below.refl _ _⟩)
                        have hF : ∀ n : Cls wr, Calls Try.prog 43 #[.agg #[.int .i64 wd, .int .i64 now, .int .i64 given, .int .i64 births, .slice a ks.length ac, .slice (some ⟨b, off, none⟩) ps.length pc, .slice l ls.length lc], .string x.sum] n.w fun e w' => e = .returned (.int .i64 (findI ks x.sum)) ∧ Below n.w.heap.size n.w w' := fun n => find_any wd now given births a ac _ _ ks x.sum n.w w.heap.size (KRow.below HKR.out (hbel.trans (n.h.mono hbel.size))) (by have := n.h.size; omega) (by omega)
                        have HV : Hid _ := hV
                        have HF : Hid _ := hF
                        have hlew : w.heap.size ≤ wr.heap.size := hbel.size
                        have HXr : Hid (SBox wr w.heap.size wd now given births (.slice a ks.length ac) (.slice (some ⟨b, off, none⟩) ps.length pc) (.slice l ls.length lc)) := ⟨x0, x1, x2, x3, x4, x5, x6, x7⟩
                        clear hV hF
                        cases hnm : nameOk x.name with
                        | false =>
                          rw [hnm] at HV
                          refine region_cls_lit (by kernel_rfl) (by kernel_rfl) ?_
                          repeat (go_big_quiet_step (first | exact Cls.calls (HV.out _) | exact Cls.calls (HF.out _)))
                          refine wpQuiet_nil ?_
                          intro n
                          have HBn : Hid _ := hbel.trans (n.h.mono hlew)
                          clear hbel
                          go_wp2
                          go_ret
                          exact Says.no (fun h => by have := (h.pin _ _ HG.out).name; rw [hnm] at this; cases this) HBn.out
                        | true =>
                          rw [hnm] at HV
                          cases hless : Op.bytesLess p.name.toList x.name.toList with
                          | false =>
                            refine region_cls_lit (by kernel_rfl) (by kernel_rfl) ?_
                            repeat (go_big_quiet_step (first | exact Cls.calls (HV.out _) | exact Cls.calls (HF.out _)))
                            refine wpQuiet_nil ?_
                            intro n
                            have HBn : Hid _ := hbel.trans (n.h.mono hlew)
                            clear hbel
                            go_wp2
                            go_ret
                            exact Says.no (fun h => by have := (h.pin _ _ HG.out).up j p rfl HP.out; unfold less at this; rw [hless] at this; cases this) HBn.out
                          | true =>
                            rcases findI_cases ks x.sum with ⟨hfi, hno⟩ | ⟨i2, u, hfi, hu, hus⟩
                            · rw [hfi] at HF
                              refine region_cls_lit (by kernel_rfl) (by kernel_rfl) ?_
                              repeat (go_big_quiet_step (first | exact Cls.calls (HV.out _) | exact Cls.calls (HF.out _)))
                              refine wpQuiet_nil ?_
                              intro n
                              have HBn : Hid _ := hbel.trans (n.h.mono hlew)
                              clear hbel
                              go_wp2
                              go_ret
                              exact Says.no (fun h => hno (h.pin _ _ HG.out).sum) HBn.out
                            · rw [hfi] at HF
                              have hneg : decide ((i2 : Int) < 0) = false := by simp
                              have HA : Hid (∀ (j' : Nat) y, j' < (j + 1) + 1 → ps[j']? = some y → PinAt ks ps j' y) := by
                                intro j' y hj hy
                                rcases Nat.lt_or_ge j' ((j + 1)) with h' | h'
                                · exact hall.out j' y h' hy
                                · obtain rfl : j' = (j + 1) := by omega
                                  rw [HG.out] at hy
                                  cases hy
                                  exact ⟨hnm, fun j2 p2 h hp2 => by cases h; rw [HP.out] at hp2; cases hp2; exact hless, ⟨u, List.mem_of_getElem? hu, hus⟩⟩
                              refine region_cls_lit (by kernel_rfl) (by kernel_rfl) ?_
                              repeat (go_big_quiet_step (first | exact Cls.calls (HV.out _) | exact Cls.calls (HF.out _)))
                              refine wpQuiet_nil ?_
                              intro n
                              have HBn : Hid _ := hbel.trans (n.h.mono hlew)
                              have HXn := SBox.keep HXr.out n.h x7
                              clear hbel
                              go_wp2
                              exact ⟨⟨(j + 1) + 1, by omega, by go_num, HBn.out, HXn, HA⟩, by simp [intOf]; omega⟩

                    · clear x0 x1 x2 x3 x4 x5 x6 x7
                      obtain ⟨x0, x1, x2, x3, x4, x5, x6, x7⟩ := HX.out
                      have HPins : Hid (∀ (i : Nat) x, ps[i]? = some x → PinAt ks ps i x) := fun i x hx => hall.out i x (by have := (List.getElem?_eq_some_iff.1 hx).1; omega) hx
                      clear hall
                      go_wp2
                      go_loopw [4] (fun i wr => ∃ k : Nat, k ≤ ls.length ∧ i = .int .i64 k ∧ Below w.heap.size w wr ∧ Hid (SBox wr w.heap.size wd now given births (.slice a ks.length ac) (.slice p ps.length pc) (.slice l ls.length lc)) ∧ Hid (∀ (j : Nat) x, j < k → ls[j]? = some x → LeaseAt now given ks ls j x)) (fun i _ => ls.length - (intOf i).toNat)
                      case atStart => exact ⟨0, Nat.zero_le _, rfl, hbel, HX, fun j x h => by omega⟩
                      case round =>
                        obtain ⟨k, hk', rfl, hbel, HX, hall⟩ := hrel
                        obtain ⟨x0, x1, x2, x3, x4, x5, x6, x7⟩ := HX.out
                        by_cases hlt : k < ls.length
                        · obtain ⟨b, off, ha, hb, hc⟩ := (LRow.below HLR.out hbel).at hlt
                          subst ha
                          have hg : ls[k]? = some ls[k] := List.getElem?_eq_getElem hlt
                          obtain ⟨c0, c1, c2⟩ := hc k _ hg
                          have hbr : b < wr.heap.size := by omega
                          match k, hk', hlt, hall, hg, c0, c1, c2 with
                          | 0, hk', hlt, hall, hg, c0, c1, c2 =>
                            have HG : Hid _ := hg
                            clear hc hg HX
                            simp only [Nat.zero_mul, Nat.add_zero] at c0 c1 c2
                            generalize ls[0] = x at *
                            go_wp2
                            have hb1 : Below wr.heap.size wr (wr.alloc (Obj.cells #[Value.int IntKind.i64 x.num, Value.string x.sum, Value.int IntKind.i64 x.til] 70)) := (Below.refl _ _).alloc (Nat.le_refl _) _
                            have z1 : (wr.alloc (Obj.cells #[Value.int IntKind.i64 x.num, Value.string x.sum, Value.int IntKind.i64 x.til] 70)).heap.size = wr.heap.size + 1 := by simp
                            have t0 : (wr.alloc (Obj.cells #[Value.int IntKind.i64 x.num, Value.string x.sum, Value.int IntKind.i64 x.til] 70)).cell? ⟨wr.heap.size, 0, none⟩ = some (.int .i64 x.num) := by simp
                            have t1 : (wr.alloc (Obj.cells #[Value.int IntKind.i64 x.num, Value.string x.sum, Value.int IntKind.i64 x.til] 70)).cell? ⟨wr.heap.size, 1, none⟩ = some (.string x.sum) := by simp
                            have t2 : (wr.alloc (Obj.cells #[Value.int IntKind.i64 x.num, Value.string x.sum, Value.int IntKind.i64 x.til] 70)).cell? ⟨wr.heap.size, 2, none⟩ = some (.int .i64 x.til) := by simp
                            have HXr : Hid (SBox (wr.alloc (Obj.cells #[Value.int IntKind.i64 x.num, Value.string x.sum, Value.int IntKind.i64 x.til] 70)) w.heap.size wd now given births (.slice a ks.length ac) (.slice p ps.length pc) (.slice (some ⟨b, off, none⟩) ls.length lc)) := SBox.keep ⟨x0, x1, x2, x3, x4, x5, x6, x7⟩ hb1 x7
                            generalize hW1 : (wr.alloc (Obj.cells #[Value.int IntKind.i64 x.num, Value.string x.sum, Value.int IntKind.i64 x.til] 70)) = W1 at *
                            have hB1 : Below w.heap.size w W1 := hbel.trans (hb1.mono hbel.size)
                            have hlew : w.heap.size ≤ W1.heap.size := hB1.size
                            clear x0 x1 x2 x3 x4 x5 x6
                            obtain ⟨x0, x1, x2, x3, x4, x5, x6, y7⟩ := HXr.out
                            have q0 := Cls.cell x0 y7
                            have q1 := Cls.cell x1 y7
                            have q2 := Cls.cell x2 y7
                            have q3 := Cls.cell x3 y7
                            have q4 := Cls.cell x4 y7
                            have q5 := Cls.cell x5 y7
                            have q6 := Cls.cell x6 y7
                            have q7 := Cls.cell t0 (by omega)
                            have q8 := Cls.cell t1 (by omega)
                            have q9 := Cls.cell t2 (by omega)
                            have hne := Cls.ne W1
                            have hV : ∀ n : Cls W1, Calls Try.prog 40 #[.int .i64 x.num, .int .i64 1, .int .i64 given] n.w fun e w' => e = .returned (.bool (decide (1 ≤ x.num ∧ x.num ≤ given))) ∧ Below n.w.heap.size n.w w' := fun n => (range_any _ _ _ _).mono (by rintro e w' ⟨rfl, rfl⟩; exact ⟨rfl, Below.refl _ _⟩)
                            have hF : ∀ n : Cls W1, Calls Try.prog 43 #[.agg #[.int .i64 wd, .int .i64 now, .int .i64 given, .int .i64 births, .slice a ks.length ac, .slice p ps.length pc, .slice (some ⟨b, off, none⟩) ls.length lc], .string x.sum] n.w fun e w' => e = .returned (.int .i64 (findI ks x.sum)) ∧ Below n.w.heap.size n.w w' := fun n => find_any wd now given births a ac _ _ ks x.sum n.w w.heap.size (KRow.below HKR.out (hB1.trans (n.h.mono hB1.size))) (by have := n.h.size; omega) (by omega)
                            have HV : Hid _ := hV
                            have HF : Hid _ := hF
                            have hwn : IntKind.i64.wrap (now + 100000) = now + 100000 := wrap_big (by omega) (by omega)
                            clear hV hF hbel
                            have hbel := hB1
                            by_cases hrg : 1 ≤ x.num ∧ x.num ≤ given
                            · rw [decide_eq_true hrg] at HV
                              rcases findI_cases ks x.sum with ⟨hfi, hno⟩ | ⟨i2, u, hfi, hu, hus⟩
                              · rw [hfi] at HF
                                refine region_cls_lit (by kernel_rfl) (by kernel_rfl) ?_
                                repeat (go_big_quiet_step (first | exact Cls.calls (HV.out _) | exact Cls.calls (HF.out _)))
                                refine wpQuiet_nil ?_
                                intro n
                                have HBn : Hid _ := hbel.trans (n.h.mono hlew)
                                clear hbel
                                go_wp2
                                go_ret
                                exact Says.no (fun h => hno (h.lease _ _ HG.out).sum) HBn.out
                              · rw [hfi] at HF
                                have hneg : decide ((i2 : Int) < 0) = false := by simp
                                by_cases ht1 : now < x.til
                                · have ht1' : decide (x.til ≤ now) = false := by simp; omega
                                  by_cases ht2 : x.til ≤ now + 100000
                                  · have ht2' : decide (now + 100000 < x.til) = false := by simp; omega
                                    have HA : Hid (∀ (j' : Nat) y, j' < 0 + 1 → ls[j']? = some y → LeaseAt now given ks ls j' y) := by
                                      intro j' y hj hy
                                      rcases Nat.lt_or_ge j' (0) with h' | h'
                                      · exact hall.out j' y h' hy
                                      · obtain rfl : j' = 0 := by omega
                                        rw [HG.out] at hy
                                        cases hy
                                        exact ⟨hrg.1, hrg.2, fun j p h => by omega, ⟨u, List.mem_of_getElem? hu, hus⟩, ht1, ht2⟩
                                    refine region_cls_lit (by kernel_rfl) (by kernel_rfl) ?_
                                    repeat (go_big_quiet_step (first | exact Cls.calls (HV.out _) | exact Cls.calls (HF.out _)))
                                    refine wpQuiet_nil ?_
                                    intro n
                                    have HBn : Hid _ := hbel.trans (n.h.mono hlew)
                                    have HXn := SBox.keep HXr.out n.h y7
                                    clear hbel hB1
                                    go_wp2
                                    exact ⟨⟨0 + 1, by omega, by go_num, HBn.out, HXn, HA⟩, by simp [intOf]; omega⟩
                                  · have ht2' : decide (now + 100000 < x.til) = true := by simp; omega
                                    refine region_cls_lit (by kernel_rfl) (by kernel_rfl) ?_
                                    repeat (go_big_quiet_step (first | exact Cls.calls (HV.out _) | exact Cls.calls (HF.out _)))
                                    refine wpQuiet_nil ?_
                                    intro n
                                    have HBn : Hid _ := hbel.trans (n.h.mono hlew)
                                    clear hbel
                                    go_wp2
                                    go_ret
                                    exact Says.no (fun h => by have := (h.lease _ _ HG.out).til2; omega) HBn.out
                                · have ht1' : decide (x.til ≤ now) = true := by simp; omega
                                  refine region_cls_lit (by kernel_rfl) (by kernel_rfl) ?_
                                  repeat (go_big_quiet_step (first | exact Cls.calls (HV.out _) | exact Cls.calls (HF.out _)))
                                  refine wpQuiet_nil ?_
                                  intro n
                                  have HBn : Hid _ := hbel.trans (n.h.mono hlew)
                                  clear hbel
                                  go_wp2
                                  go_ret
                                  exact Says.no (fun h => by have := (h.lease _ _ HG.out).til1; omega) HBn.out
                            · rw [decide_eq_false hrg] at HV
                              refine region_cls_lit (by kernel_rfl) (by kernel_rfl) ?_
                              repeat (go_big_quiet_step (first | exact Cls.calls (HV.out _) | exact Cls.calls (HF.out _)))
                              refine wpQuiet_nil ?_
                              intro n
                              have HBn : Hid _ := hbel.trans (n.h.mono hlew)
                              clear hbel
                              go_wp2
                              go_ret
                              exact Says.no (fun h => hrg ⟨(h.lease _ _ HG.out).lo, (h.lease _ _ HG.out).hi⟩) HBn.out

                          | j + 1, hk', hlt, hall, hg, c0, c1, c2 =>
                            have HG : Hid _ := hg
                            have HP : Hid (ls[j]? = some ls[j]) := List.getElem?_eq_getElem (by omega)
                            obtain ⟨d0, _, _⟩ := hc j _ HP.out
                            clear hc hg HX
                            generalize ls[j + 1] = x at *
                            generalize ls[j] = p' at *
                            have hwj : IntKind.i64.wrap (j : Int) = (j : Int) := wrap_small (by omega) (by omega)
                            have hj0 : (0 : Int) ≤ (j : Int) := by omega
                            have hj1 : (j : Int) < (ls.length : Int) := by omega
                            go_wp2
                            have hb1 : Below wr.heap.size wr (wr.alloc (Obj.cells #[Value.int IntKind.i64 x.num, Value.string x.sum, Value.int IntKind.i64 x.til] 70)) := (Below.refl _ _).alloc (Nat.le_refl _) _
                            have z1 : (wr.alloc (Obj.cells #[Value.int IntKind.i64 x.num, Value.string x.sum, Value.int IntKind.i64 x.til] 70)).heap.size = wr.heap.size + 1 := by simp
                            have t0 : (wr.alloc (Obj.cells #[Value.int IntKind.i64 x.num, Value.string x.sum, Value.int IntKind.i64 x.til] 70)).cell? ⟨wr.heap.size, 0, none⟩ = some (.int .i64 x.num) := by simp
                            have t1 : (wr.alloc (Obj.cells #[Value.int IntKind.i64 x.num, Value.string x.sum, Value.int IntKind.i64 x.til] 70)).cell? ⟨wr.heap.size, 1, none⟩ = some (.string x.sum) := by simp
                            have t2 : (wr.alloc (Obj.cells #[Value.int IntKind.i64 x.num, Value.string x.sum, Value.int IntKind.i64 x.til] 70)).cell? ⟨wr.heap.size, 2, none⟩ = some (.int .i64 x.til) := by simp
                            have HXr : Hid (SBox (wr.alloc (Obj.cells #[Value.int IntKind.i64 x.num, Value.string x.sum, Value.int IntKind.i64 x.til] 70)) w.heap.size wd now given births (.slice a ks.length ac) (.slice p ps.length pc) (.slice (some ⟨b, off, none⟩) ls.length lc)) := SBox.keep ⟨x0, x1, x2, x3, x4, x5, x6, x7⟩ hb1 x7
                            have d1 := (hb1.cell (p := ⟨b, off + j * 3, none⟩) hbr).trans d0
                            generalize hW1 : (wr.alloc (Obj.cells #[Value.int IntKind.i64 x.num, Value.string x.sum, Value.int IntKind.i64 x.til] 70)) = W1 at *
                            have hB1 : Below w.heap.size w W1 := hbel.trans (hb1.mono hbel.size)
                            have hlew : w.heap.size ≤ W1.heap.size := hB1.size
                            clear x0 x1 x2 x3 x4 x5 x6
                            obtain ⟨x0, x1, x2, x3, x4, x5, x6, y7⟩ := HXr.out
                            have q0 := Cls.cell x0 y7
                            have q1 := Cls.cell x1 y7
                            have q2 := Cls.cell x2 y7
                            have q3 := Cls.cell x3 y7
                            have q4 := Cls.cell x4 y7
                            have q5 := Cls.cell x5 y7
                            have q6 := Cls.cell x6 y7
                            have q7 := Cls.cell t0 (by omega)
                            have q8 := Cls.cell t1 (by omega)
                            have q9 := Cls.cell t2 (by omega)
                            have q10 := Cls.cell d1 (by omega)
                            have hne := Cls.ne W1
                            have hV : ∀ n : Cls W1, Calls Try.prog 40 #[.int .i64 x.num, .int .i64 1, .int .i64 given] n.w fun e w' => e = .returned (.bool (decide (1 ≤ x.num ∧ x.num ≤ given))) ∧ Below n.w.heap.size n.w w' := fun n => (range_any _ _ _ _).mono (by rintro e w' ⟨rfl, rfl⟩; exact ⟨rfl, Below.refl _ _⟩)
                            have hF : ∀ n : Cls W1, Calls Try.prog 43 #[.agg #[.int .i64 wd, .int .i64 now, .int .i64 given, .int .i64 births, .slice a ks.length ac, .slice p ps.length pc, .slice (some ⟨b, off, none⟩) ls.length lc], .string x.sum] n.w fun e w' => e = .returned (.int .i64 (findI ks x.sum)) ∧ Below n.w.heap.size n.w w' := fun n => find_any wd now given births a ac _ _ ks x.sum n.w w.heap.size (KRow.below HKR.out (hB1.trans (n.h.mono hB1.size))) (by have := n.h.size; omega) (by omega)
                            have HV : Hid _ := hV
                            have HF : Hid _ := hF
                            have hwn : IntKind.i64.wrap (now + 100000) = now + 100000 := wrap_big (by omega) (by omega)
                            clear hV hF hbel
                            have hbel := hB1
                            by_cases hrg : 1 ≤ x.num ∧ x.num ≤ given
                            · rw [decide_eq_true hrg] at HV
                              by_cases hless : p'.num < x.num
                              · have hless' : decide (x.num ≤ p'.num) = false := by simp; omega
                                rcases findI_cases ks x.sum with ⟨hfi, hno⟩ | ⟨i2, u, hfi, hu, hus⟩
                                · rw [hfi] at HF
                                  refine region_cls_lit (by kernel_rfl) (by kernel_rfl) ?_
                                  repeat (go_big_quiet_step (first | exact Cls.calls (HV.out _) | exact Cls.calls (HF.out _)))
                                  refine wpQuiet_nil ?_
                                  intro n
                                  have HBn : Hid _ := hbel.trans (n.h.mono hlew)
                                  clear hbel
                                  go_wp2
                                  go_ret
                                  exact Says.no (fun h => hno (h.lease _ _ HG.out).sum) HBn.out
                                · rw [hfi] at HF
                                  have hneg : decide ((i2 : Int) < 0) = false := by simp
                                  by_cases ht1 : now < x.til
                                  · have ht1' : decide (x.til ≤ now) = false := by simp; omega
                                    by_cases ht2 : x.til ≤ now + 100000
                                    · have ht2' : decide (now + 100000 < x.til) = false := by simp; omega
                                      have HA : Hid (∀ (j' : Nat) y, j' < (j + 1) + 1 → ls[j']? = some y → LeaseAt now given ks ls j' y) := by
                                        intro j' y hj hy
                                        rcases Nat.lt_or_ge j' ((j + 1)) with h' | h'
                                        · exact hall.out j' y h' hy
                                        · obtain rfl : j' = (j + 1) := by omega
                                          rw [HG.out] at hy
                                          cases hy
                                          exact ⟨hrg.1, hrg.2, fun j2 p2 h hp2 => by cases h; rw [HP.out] at hp2; cases hp2; exact hless, ⟨u, List.mem_of_getElem? hu, hus⟩, ht1, ht2⟩
                                      refine region_cls_lit (by kernel_rfl) (by kernel_rfl) ?_
                                      repeat (go_big_quiet_step (first | exact Cls.calls (HV.out _) | exact Cls.calls (HF.out _)))
                                      refine wpQuiet_nil ?_
                                      intro n
                                      have HBn : Hid _ := hbel.trans (n.h.mono hlew)
                                      have HXn := SBox.keep HXr.out n.h y7
                                      clear hbel hB1
                                      go_wp2
                                      exact ⟨⟨(j + 1) + 1, by omega, by go_num, HBn.out, HXn, HA⟩, by simp [intOf]; omega⟩
                                    · have ht2' : decide (now + 100000 < x.til) = true := by simp; omega
                                      refine region_cls_lit (by kernel_rfl) (by kernel_rfl) ?_
                                      repeat (go_big_quiet_step (first | exact Cls.calls (HV.out _) | exact Cls.calls (HF.out _)))
                                      refine wpQuiet_nil ?_
                                      intro n
                                      have HBn : Hid _ := hbel.trans (n.h.mono hlew)
                                      clear hbel
                                      go_wp2
                                      go_ret
                                      exact Says.no (fun h => by have := (h.lease _ _ HG.out).til2; omega) HBn.out
                                  · have ht1' : decide (x.til ≤ now) = true := by simp; omega
                                    refine region_cls_lit (by kernel_rfl) (by kernel_rfl) ?_
                                    repeat (go_big_quiet_step (first | exact Cls.calls (HV.out _) | exact Cls.calls (HF.out _)))
                                    refine wpQuiet_nil ?_
                                    intro n
                                    have HBn : Hid _ := hbel.trans (n.h.mono hlew)
                                    clear hbel
                                    go_wp2
                                    go_ret
                                    exact Says.no (fun h => by have := (h.lease _ _ HG.out).til1; omega) HBn.out
                              · have hless' : decide (x.num ≤ p'.num) = true := by simp; omega
                                refine region_cls_lit (by kernel_rfl) (by kernel_rfl) ?_
                                repeat (go_big_quiet_step (first | exact Cls.calls (HV.out _) | exact Cls.calls (HF.out _)))
                                refine wpQuiet_nil ?_
                                intro n
                                have HBn : Hid _ := hbel.trans (n.h.mono hlew)
                                clear hbel
                                go_wp2
                                go_ret
                                exact Says.no (fun h => by have := (h.lease _ _ HG.out).up j p' rfl HP.out; omega) HBn.out
                            · rw [decide_eq_false hrg] at HV
                              refine region_cls_lit (by kernel_rfl) (by kernel_rfl) ?_
                              repeat (go_big_quiet_step (first | exact Cls.calls (HV.out _) | exact Cls.calls (HF.out _)))
                              refine wpQuiet_nil ?_
                              intro n
                              have HBn : Hid _ := hbel.trans (n.h.mono hlew)
                              clear hbel
                              go_wp2
                              go_ret
                              exact Says.no (fun h => hrg ⟨(h.lease _ _ HG.out).lo, (h.lease _ _ HG.out).hi⟩) HBn.out

                        · go_wp2
                          go_ret
                          exact Says.yes ⟨hN, hn1, hn2, hn3, HF1.out.1, HF1.out.2.1, HF1.out.2.2, HPins.out, fun i x hx => hall.out i x (by have := (List.getElem?_eq_some_iff.1 hx).1; omega) hx⟩ hbel

              · have hn3' : decide ((200 : Int) < (ls.length : Int)) = true := by simp; omega
                clear hx
                go_wp2
                go_ret
                exact Says.no (fun h => hn3 h.nl) hb0
            · have hn2' : decide ((100 : Int) < (ps.length : Int)) = true := by simp; omega
              clear hx
              go_wp2
              go_ret
              exact Says.no (fun h => hn2 h.np) hb0
          · have hn1' : decide ((600 : Int) < (ks.length : Int)) = true := by simp; omega
            clear hx
            go_wp2
            go_ret
            exact Says.no (fun h => hn1 h.nth) hb0
        · rw [decide_eq_false h3]
          go_wp2
          go_ret
          exact Says.no (fun h => h3 ⟨h.nums.births1, h.nums.births2⟩) hb0

      · rw [decide_eq_false h2]
        go_wp2
        go_ret
        exact Says.no (fun h => h2 ⟨h.nums.given1, h.nums.given2⟩) hb0

    · rw [decide_eq_false h1]
      go_wp2
      go_ret
      exact Says.no (fun h => h1 ⟨h.nums.now1, h.nums.now2⟩) hb0

  · rw [decide_eq_false h0]
    go_wp2
    go_ret
    exact Says.no (fun h => h0 ⟨h.nums.wd1, h.nums.wd2⟩) hb0

end Go.Proofs.Ytbelneejghdmoaa
