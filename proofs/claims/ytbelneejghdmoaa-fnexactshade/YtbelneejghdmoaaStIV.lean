/-
  impl.validNumbers, ValidState.
-/
import Derived.Test.YtbelneejghdmoaaStIB
namespace Go.Proofs.Ytbelneejghdmoaa
open Go.ChangeShapes Go.WideShapes Go.ChangeAt Go.RowKit

theorem iwidth_any (n : Int) (w : World) :
    Calls Try.prog 87 #[.int .i64 n] w fun e w' => e = .returned (.bool (decide (1 ≤ n ∧ n ≤ 8))) ∧ w' = w := by
  by_cases h1 : 1 ≤ n
  · by_cases h2 : n ≤ 8
    · go_enter Try.func87, Try.ntmps87
      go_wp2
      go_ret
      exact ⟨ret_b (by simp [h1, h2]), rfl⟩
    · have h2' : decide (n ≤ 8) = false := by simpa using h2
      go_enter Try.func87, Try.ntmps87
      go_wp2
      go_ret
      exact ⟨rfl, rfl⟩
  · have h1' : decide (1 ≤ n) = false := by simpa using h1
    go_enter Try.func87, Try.ntmps87
    go_wp2
    go_ret
    exact ⟨rfl, rfl⟩

theorem itime_any (n : Int) (w : World) :
    Calls Try.prog 88 #[.int .i64 n] w fun e w' => e = .returned (.bool (decide (0 ≤ n ∧ n ≤ 1000000000))) ∧ w' = w := by
  by_cases h1 : 0 ≤ n
  · by_cases h2 : n ≤ 1000000000
    · go_enter Try.func88, Try.ntmps88
      go_wp2
      go_ret
      exact ⟨ret_b (by simp [h1, h2]), rfl⟩
    · have h2' : decide (n ≤ 1000000000) = false := by simpa using h2
      go_enter Try.func88, Try.ntmps88
      go_wp2
      go_ret
      exact ⟨rfl, rfl⟩
  · have h1' : decide (0 ≤ n) = false := by simpa using h1
    go_enter Try.func88, Try.ntmps88
    go_wp2
    go_ret
    exact ⟨rfl, rfl⟩

set_option maxHeartbeats 1000000 in
theorem inums_any (wd now given births : Int) (T P L : Value) (w : World) :
    Calls Try.prog 47 #[.agg #[.int .i64 wd, .int .i64 now, .int .i64 given, .int .i64 births, T, P, L]] w fun e w' => Says (NumsOk wd now given births) w w' e := by
  have hb0 : Below w.heap.size w (w.alloc (.cells #[.int .i64 wd, .int .i64 now, .int .i64 given, .int .i64 births, T, P, L] 33)) := (Below.refl _ _).alloc (Nat.le_refl _) _
  go_enter Try.func47, Try.ntmps47
  go_wp2_with fail
  refine (iwidth_any wd _).mono ?_
  rintro e w1 ⟨rfl, rfl⟩
  by_cases h0 : 1 ≤ wd ∧ wd ≤ 8
  · rw [decide_eq_true h0]
    go_wp2_with fail
    refine (itime_any now _).mono ?_
    rintro e w1 ⟨rfl, rfl⟩
    by_cases h1 : 0 ≤ now ∧ now ≤ 1000000000
    · rw [decide_eq_true h1]
      go_wp2_with fail
      refine (itime_any given _).mono ?_
      rintro e w1 ⟨rfl, rfl⟩
      by_cases h2 : 0 ≤ given ∧ given ≤ 1000000000
      · rw [decide_eq_true h2]
        go_wp2_with fail
        refine (itime_any births _).mono ?_
        rintro e w1 ⟨rfl, rfl⟩
        by_cases h3 : 0 ≤ births ∧ births ≤ 1000000000
        · rw [decide_eq_true h3]
          go_wp2
          go_ret
          exact Says.yes ⟨h0.1, h0.2, h1.1, h1.2, h2.1, h2.2, h3.1, h3.2⟩ hb0
        · rw [decide_eq_false h3]
          go_wp2
          go_ret
          exact Says.no (fun h => h3 ⟨h.births1, h.births2⟩) hb0
      · rw [decide_eq_false h2]
        go_wp2
        go_ret
        exact Says.no (fun h => h2 ⟨h.given1, h.given2⟩) hb0
    · rw [decide_eq_false h1]
      go_wp2
      go_ret
      exact Says.no (fun h => h1 ⟨h.now1, h.now2⟩) hb0
  · rw [decide_eq_false h0]
    go_wp2
    go_ret
    exact Says.no (fun h => h0 ⟨h.wd1, h.wd2⟩) hb0

theorem sumOf_size (k : Kd) (wd : Int) (h : 1 ≤ wd) : ((sumOf k wd).size : Int) = wd := by
  have e : ∀ l : List Int, (strOfNums l).size = l.length := fun l => by unfold strOfNums; simp [ByteArray.size]
  unfold sumOf sumText
  rw [e, sumNums_length]
  omega

set_option maxRecDepth 20000 in
set_option maxHeartbeats 4000000 in
theorem iValidState_any (wd now given births : Int) (a p l : Option Addr) (ac pc lc : Nat) (ks : List Kd) (ps : List Pd) (ls : List Ld) (w : World) (hrow : SRows w w.heap.size a p l ks ps ls) (hk : KMem ks) (hp : PMem ps) (hl : LMem ls) (hf : SFit ks ps ls) (hbw : ∀ k ∈ ks, (Lit.int .i64 k.born).wf = true) :
    Calls Try.prog 12 #[.agg #[.int .i64 wd, .int .i64 now, .int .i64 given, .int .i64 births, .slice a ks.length ac, .slice p ps.length pc, .slice l ls.length lc]] w fun e w' => Says (StateOk wd now given births ks ps ls) w w' e := by
  have hb0 : Below w.heap.size w (w.alloc (.cells #[.int .i64 wd, .int .i64 now, .int .i64 given, .int .i64 births, .slice a ks.length ac, .slice p ps.length pc, .slice l ls.length lc] 33)) := (Below.refl _ _).alloc (Nat.le_refl _) _
  have hx := SBox.new w wd now given births (.slice a ks.length ac) (.slice p ps.length pc) (.slice l ls.length lc) 33
  have HBW : Hid _ := hbw
  clear hbw
  go_enter Try.func12, Try.ntmps12
  go_wp2_with fail
  refine (inums_any wd now given births _ _ _ _).mono ?_
  rintro e w1 ⟨b1, rfl, hb1, hw1⟩
  have hB1 := hb0.trans (hw1.mono (by simp))
  have hx1 := hx.below hw1
  clear hw1 hx
  cases b1 with
  | false =>
    go_wp2
    go_ret
    exact Says.no (fun h => by have := hb1.2 h.nums; cases this) hB1
  | true =>
    have hN := hb1.1 rfl
    clear hb1
    obtain ⟨x0, x1, x2, x3, x4, x5, x6, x7⟩ := hx1
    go_wp2_with fail
    refine (ivalidThings_any wd now given births a ac _ _ ks _ (hrow.below' hB1).k hk hf.k hf.r hN.wd1 hN.wd2).mono ?_
    rintro e w2 ⟨b2, rfl, hb2, hw2⟩
    have hB2 := hB1.trans (hw2.mono hB1.size)
    have hx2 := SBox.below ⟨x0, x1, x2, x3, x4, x5, x6, x7⟩ hw2
    clear hw2 x0 x1 x2 x3 x4 x5 x6 x7
    cases b2 with
    | false =>
      go_wp2
      go_ret
      exact Says.no (fun h => by have := hb2.2 ⟨h.nth, h.th⟩; cases this) hB2
    | true =>
      obtain ⟨hn, hth⟩ := hb2.1 rfl
      have HTH : Hid _ := hth
      clear hb2
      have hsz : ∀ k ∈ ks, (k.sum.size : Int) = wd := fun k hk' => by
        obtain ⟨i, hi⟩ := List.getElem?_of_mem hk'
        rw [(hth i k hi).sum]
        exact sumOf_size k wd hN.wd1
      have HSZ : Hid _ := hsz
      clear hth hsz
      obtain ⟨x0, x1, x2, x3, x4, x5, x6, x7⟩ := hx2
      go_wp2_with fail
      refine (shelfOf_any wd now given births a ac _ _ ks _ (hrow.below' hB2).k hf.k HSZ.out hN.wd2).mono ?_
      rintro e w3 ⟨m, f, rfl, hm, hM, hH, hw3⟩
      have hB3 := hB2.trans (hw3.mono hB2.size)
      have hx3 := SBox.below ⟨x0, x1, x2, x3, x4, x5, x6, x7⟩ hw3
      have z3 := hw3.size
      have HH : Hid _ := hH
      clear hw3 x0 x1 x2 x3 x4 x5 x6 x7 hH
      obtain ⟨W3, hW3⟩ : ∃ W, W = w3.alloc (.cells #[.int .i64 wd, .map (some m)] 76) := ⟨_, rfl⟩
      have h33 : Below w3.heap.size w3 W3 := by rw [hW3]; exact (Below.refl _ _).alloc (Nat.le_refl _) _
      have s3 : W3.heap.size = w3.heap.size + 1 := by rw [hW3]; simp
      have q3 : HBox W3 w3.heap.size wd m := by rw [hW3]; exact HBox.new _ _ _ _
      have hx3' := hx3.below h33
      have hM3 := hM.keep h33 hM.lt
      have hB3 := hB3.trans (h33.mono hB3.size)
      have HW3 : Hid _ := hW3
      clear hW3 h33 hM
      obtain ⟨x0, x1, x2, x3, x4, x5, x6, x7⟩ := hx3
      have HQ : Hid _ := And.intro hx3' q3
      clear hx3' q3
      go_wp2_with fail
      rw [← HW3.out]
      refine (ivalidBirths_any wd now given births _ _ a ac m ks W3 (hrow.below' hB3).k hf.k hf.r HBW.out HTH.out (fun s => shelf_find wd m _ f ks _ _ s W3 hM3 HH.out HSZ.out)).mono ?_
      rintro e w4 ⟨b4, rfl, hb4, hw4⟩
      have hB4 := hB3.trans (hw4.mono hB3.size)
      have hx4 := SBox.below HQ.out.1 hw4
      have hg4 := HBox.keep HQ.out.2 hw4 HQ.out.2.2.2
      have hM4 := hM3.keep hw4 hM3.lt
      clear hw4 x0 x1 x2 x3 x4 x5 x6 x7 HW3 hM3 HQ
      have HB4 : Hid _ := hb4
      clear hb4
      cases b4 with
      | false =>
        clear hx4 hg4 hM4
        go_wp2
        go_ret
        exact Says.no (fun h => by have := HB4.out.2 ⟨h.born, h.ref⟩; cases this) hB4
      | true =>
        obtain ⟨hbo, hre⟩ := HB4.out.1 rfl
        have HBR : Hid _ := And.intro hbo hre
        clear hbo hre
        obtain ⟨x0, x1, x2, x3, x4, x5, x6, x7⟩ := hx4
        obtain ⟨g0, g1, g2⟩ := hg4
        go_wp2_with fail
        refine (ivalidPins_any wd now given births _ _ _ p pc m ks ps w4 (hrow.below' hB4).p hp hf.p (fun s => shelf_has wd m _ f ks _ _ s w4 hM4 HH.out HSZ.out) rfl).mono ?_
        rintro e w5 ⟨b5, rfl, hb5, hw5⟩
        have hB5 := hB4.trans (hw5.mono hB4.size)
        have hx5 := SBox.below ⟨x0, x1, x2, x3, x4, x5, x6, x7⟩ hw5
        have hg5 := HBox.keep ⟨g0, g1, g2⟩ hw5 g2
        have hM5 := hM4.keep hw5 hM4.lt
        clear hw5 x0 x1 x2 x3 x4 x5 x6 x7 g0 g1 g2 hM4
        have HB5 : Hid _ := hb5
        clear hb5
        cases b5 with
        | false =>
          clear hx5 hg5 hM5
          go_wp2
          go_ret
          exact Says.no (fun h => by have := HB5.out.2 ⟨h.np, h.pin⟩; cases this) hB5
        | true =>
          obtain ⟨hnp, hpi⟩ := HB5.out.1 rfl
          have HPI : Hid _ := hpi
          clear hpi
          obtain ⟨x0, x1, x2, x3, x4, x5, x6, x7⟩ := hx5
          obtain ⟨g0, g1, g2⟩ := hg5
          go_wp2_with fail
          refine (ivalidLeases_any wd now given births _ _ _ l lc m ks ls w5 (hrow.below' hB5).l hl hf.l hN.now1 hN.now2 (fun s => shelf_has wd m _ f ks _ _ s w5 hM5 HH.out HSZ.out) rfl).mono ?_
          rintro e w6 ⟨b6, rfl, hb6, hw6⟩
          have hB6 := hB5.trans (hw6.mono hB5.size)
          have HB6 : Hid _ := hb6
          clear hb6 x0 x1 x2 x3 x4 x5 x6 x7 g0 g1 g2 hM5 hw6
          go_wp2
          go_ret
          refine ⟨_, rfl, ⟨fun h => ?_, fun h => HB6.out.2 ⟨h.nl, h.lease⟩⟩, hB6⟩
          obtain ⟨hnl, hle⟩ := HB6.out.1 h
          exact ⟨hN, hn, hnp, hnl, HTH.out, HBR.out.1, HBR.out.2, HPI.out, hle⟩

end Go.Proofs.Ytbelneejghdmoaa
