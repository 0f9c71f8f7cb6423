/-
  impl.validPins, validLeases.
-/
import Derived.Test.YtbelneejghdmoaaStIT
import Derived.Test.YtbelneejghdmoaaStShelf
namespace Go.Proofs.Ytbelneejghdmoaa
open Go.ChangeShapes Go.WideShapes Go.ChangeAt Go.RowKit
attribute [local go_sem ↓] Go.wp_at_zero Go.wp_at_succ

/-- A shelf's box. -/
def HBox (w : World) (b : Nat) (wd : Int) (m : Nat) : Prop := w.cell? ⟨b, 0, none⟩ = some (.int .i64 wd) ∧ w.cell? ⟨b, 1, none⟩ = some (.map (some m)) ∧ b < w.heap.size

theorem HBox.new (w : World) (wd : Int) (m : Nat) (t : TypeId) : HBox (w.alloc (.cells #[.int .i64 wd, .map (some m)] t)) w.heap.size wd m := ⟨by simp, by simp, by simp⟩

theorem HBox.keep {w w' : World} {b B m : Nat} {wd : Int} (h : HBox w b wd m) (hb : Below B w w') (hB : b < B) : HBox w' b wd m :=
  ⟨(hb.cell (p := ⟨b, 0, none⟩) hB).trans h.1, (hb.cell (p := ⟨b, 1, none⟩) hB).trans h.2.1, Nat.lt_of_lt_of_le h.2.2 hb.size⟩

/-- An answer on a shelf. -/
def HasAt (w : World) (wd : Int) (m : Nat) (ks : List Kd) (s : ByteArray) : Prop :=
  ∃ ok, (ok = true ↔ There ks s) ∧ ∀ w', Below w.heap.size w w' → Calls Try.prog 74 #[.agg #[.int .i64 wd, .map (some m)], .string s] w' fun e w'' => e = .returned (.bool ok) ∧ Below w'.heap.size w' w''

/-- A yes or no. -/
def Says (P : Prop) (w0 w : World) (e : Ending) : Prop := ∃ b, e = .returned (.bool b) ∧ (b = true ↔ P) ∧ Below w0.heap.size w0 w

theorem Says.yes {P : Prop} {w0 w : World} (h : P) (hb : Below w0.heap.size w0 w) : Says P w0 w (.returned (.bool true)) := ⟨_, rfl, by simpa using h, hb⟩

theorem Says.no {P : Prop} {w0 w : World} (h : ¬ P) (hb : Below w0.heap.size w0 w) : Says P w0 w (.returned (.bool false)) := ⟨_, rfl, by simpa using h, hb⟩

theorem wrap_big {a : Int} (h0 : 0 ≤ a) (h1 : a ≤ 2000000000) : IntKind.i64.wrap a = a := by
  unfold IntKind.wrap
  simp [IntKind.signed, IntKind.bits]
  omega

set_option maxRecDepth 20000 in
set_option maxHeartbeats 4000000 in
theorem ivalidPins_any (wd now given births : Int) (T P L : Value) (a : Option Addr) (ac m : Nat) (ks : List Kd) (ps : List Pd) (w : World) (hrow : PRow w w.heap.size a ps) (hm : PMem ps) (hl : ps.length ≤ 1048576) (hhas : ∀ s, HasAt w wd m ks s) (hX : P = .slice a ps.length ac) :
    Calls Try.prog 51 #[.agg #[.int .i64 wd, .int .i64 now, .int .i64 given, .int .i64 births, T, P, L], .agg #[.int .i64 wd, .map (some m)]] w fun e w' => Says (ps.length ≤ 100 ∧ ∀ (i : Nat) x, ps[i]? = some x → PinAt ks ps i x) w w' e := by
  subst hX
  have hb0 : ∀ o1 o2, Below w.heap.size w ((w.alloc o1).alloc o2) := fun o1 o2 => ((Below.refl _ _).alloc (Nat.le_refl _) _).alloc (by simp) _
  by_cases hn : 100 < ps.length
  · go_enter Try.func51, Try.ntmps51
    go_wp2
    go_ret
    exact Says.no (fun h => by omega) (hb0 _ _)
  · have hx := SBox.below (SBox.new w wd now given births T (.slice a ps.length ac) L 33) ((Below.refl _ _).alloc (Nat.le_refl _) (.cells #[.int .i64 wd, .map (some m)] 76))
    have hh : HBox ((w.alloc (.cells #[.int .i64 wd, .int .i64 now, .int .i64 given, .int .i64 births, T, (.slice a ps.length ac), L] 33)).alloc (.cells #[.int .i64 wd, .map (some m)] 76)) (w.heap.size + 1) wd m := ⟨by simp [go_sem], by simp [go_sem], by simp⟩
    go_enter Try.func51, Try.ntmps51
    go_wp2
    go_loopw [14] (fun i wr => ∃ k : Nat, k ≤ ps.length ∧ i = .int .i64 k ∧ Below w.heap.size w wr ∧ Hid (SBox wr w.heap.size wd now given births T (.slice a ps.length ac) L) ∧ Hid (HBox wr (w.heap.size + 1) wd m) ∧ Hid (∀ (j : Nat) x, j < k → ps[j]? = some x → PinAt ks ps j x)) (fun i _ => ps.length - (intOf i).toNat)
    case atStart => exact ⟨0, Nat.zero_le _, rfl, hb0 _ _, hx, hh, fun j x h => by omega⟩
    case round =>
      obtain ⟨k, hk, rfl, hbel, HX, HH, hall⟩ := hrel
      obtain ⟨x0, x1, x2, x3, x4, x5, x6, x7⟩ := HX.out
      obtain ⟨g0, g1, g2⟩ := HH.out
      by_cases hlt : k < ps.length
      · obtain ⟨b, off, ha, hb, hc⟩ := (hrow.below hbel).at hlt
        subst ha
        have hg : ps[k]? = some ps[k] := List.getElem?_eq_getElem hlt
        obtain ⟨c0, c1⟩ := hc k _ hg
        have hmem := List.getElem_mem hlt
        have m1 := hm.name _ hmem
        have hbr : b < wr.heap.size := by omega
        match k, hk, hlt, hall, hg, c0, c1, m1 with
        | 0, hk, hlt, hall, hg, c0, c1, m1 =>
          have HG : Hid _ := hg
          clear hc hrow hm hmem hg
          simp only [Nat.zero_mul, Nat.add_zero] at c0 c1
          generalize ps[0] = x at *
          go_wp2
          go_quiet (fail)
          have hBx : Below w.heap.size w ((wr.alloc (Obj.cells #[Value.string x.name, Value.string x.sum] 67)).drewN nq) := belowN (hbel.alloc hbel.size _) _
          have hbx : Below wr.heap.size wr ((wr.alloc (Obj.cells #[Value.string x.name, Value.string x.sum] 67)).drewN nq) := belowN ((Below.refl _ _).alloc (Nat.le_refl _) _) _
          obtain ⟨ok, hok, hcl⟩ := hhas x.sum
          have HC : Hid _ := hcl _ hBx
          clear hhas hcl
          go_wp2_with fail
          refine (iName_any x.name _ m1).mono ?_
          rintro e w1 ⟨rfl, rfl⟩
          cases hnm : nameOk x.name with
          | false =>
            go_wp2
            go_ret
            refine Says.no (fun h => ?_) (hBx)
            exact by have := (h.2 _ _ HG.out).name; rw [hnm] at this; cases this
          | true =>
            go_wp2_with fail
            refine Calls.mono HC.out ?_
            rintro e w2 ⟨rfl, hb2⟩
            have hB2 := hBx.trans (hb2.mono hBx.size)
            have hbn := hbx.trans (hb2.mono hbx.size)
            cases ok with
            | false =>
              go_wp2
              go_ret
              refine Says.no (fun h => ?_) (hB2)
              exact by have := hok.2 (h.2 _ _ HG.out).sum; cases this
            | true =>
              have HA : Hid (∀ (j' : Nat) y, j' < 0 + 1 → ps[j']? = some y → PinAt ks ps j' y) := by
                intro j' y hj hy
                rcases Nat.lt_or_ge j' (0) with h' | h'
                · exact hall.out j' y h' hy
                · obtain rfl : j' = 0 := by omega
                  rw [HG.out] at hy
                  cases hy
                  exact ⟨hnm, fun j p h => by omega, hok.1 rfl⟩
              go_wp2
              exact ⟨⟨0 + 1, by omega, by go_num, hB2, SBox.keep HX.out hbn x7, HBox.keep HH.out hbn g2, HA⟩, by simp [intOf]; omega⟩

        | j + 1, hk, hlt, hall, hg, c0, c1, m1 =>
          have HG : Hid _ := hg
          have HP : Hid (ps[j]? = some ps[j]) := List.getElem?_eq_getElem (by omega)
          obtain ⟨d0, _⟩ := hc j _ HP.out
          clear hc hrow hm hmem hg
          generalize ps[j + 1] = x at *
          generalize ps[j] = p at *
          have hwj : IntKind.i64.wrap (j : Int) = (j : Int) := wrap_small (by omega) (by omega)
          have hj0 : (0 : Int) ≤ (j : Int) := by omega
          have hj1 : (j : Int) < (ps.length : Int) := by omega
          cases hless : Op.bytesLess p.name.toList x.name.toList with
          | false =>
            go_wp2
            go_quiet (fail)
            go_wp2
            go_ret
            refine Says.no (fun h => ?_) (belowN (hbel.alloc hbel.size _) _)
            exact by have := (h.2 _ _ HG.out).up j p rfl HP.out; unfold less at this; rw [hless] at this; cases this
          | true =>
            go_wp2
            go_quiet (fail)
            have hBx : Below w.heap.size w ((wr.alloc (Obj.cells #[Value.string x.name, Value.string x.sum] 67)).drewN nq) := belowN (hbel.alloc hbel.size _) _
            have hbx : Below wr.heap.size wr ((wr.alloc (Obj.cells #[Value.string x.name, Value.string x.sum] 67)).drewN nq) := belowN ((Below.refl _ _).alloc (Nat.le_refl _) _) _
            obtain ⟨ok, hok, hcl⟩ := hhas x.sum
            have HC : Hid _ := hcl _ hBx
            clear hhas hcl
            go_wp2_with fail
            refine (iName_any x.name _ m1).mono ?_
            rintro e w1 ⟨rfl, rfl⟩
            cases hnm : nameOk x.name with
            | false =>
              go_wp2
              go_ret
              refine Says.no (fun h => ?_) (hBx)
              exact by have := (h.2 _ _ HG.out).name; rw [hnm] at this; cases this
            | true =>
              go_wp2_with fail
              refine Calls.mono HC.out ?_
              rintro e w2 ⟨rfl, hb2⟩
              have hB2 := hBx.trans (hb2.mono hBx.size)
              have hbn := hbx.trans (hb2.mono hbx.size)
              cases ok with
              | false =>
                go_wp2
                go_ret
                refine Says.no (fun h => ?_) (hB2)
                exact by have := hok.2 (h.2 _ _ HG.out).sum; cases this
              | true =>
                have HA : Hid (∀ (j' : Nat) y, j' < (j + 1) + 1 → ps[j']? = some y → PinAt ks ps j' y) := by
                  intro j' y hj hy
                  rcases Nat.lt_or_ge j' ((j + 1)) with h' | h'
                  · exact hall.out j' y h' hy
                  · obtain rfl : j' = (j + 1) := by omega
                    rw [HG.out] at hy
                    cases hy
                    exact ⟨hnm, fun j2 p2 h hp2 => by cases h; rw [HP.out] at hp2; cases hp2; exact hless, hok.1 rfl⟩
                go_wp2
                exact ⟨⟨(j + 1) + 1, by omega, by go_num, hB2, SBox.keep HX.out hbn x7, HBox.keep HH.out hbn g2, HA⟩, by simp [intOf]; omega⟩

      · go_wp2
        go_ret
        exact Says.yes ⟨by omega, fun i x hx => hall.out i x (by have := (List.getElem?_eq_some_iff.1 hx).1; omega) hx⟩ hbel

set_option maxRecDepth 20000 in
set_option maxHeartbeats 4000000 in
theorem ivalidLeases_any (wd now given births : Int) (T P L : Value) (a : Option Addr) (ac m : Nat) (ks : List Kd) (ls : List Ld) (w : World) (hrow : LRow w w.heap.size a ls) (hm : LMem ls) (hl : ls.length ≤ 1048576) (hnow0 : 0 ≤ now) (hnow : now ≤ 1000000000) (hhas : ∀ s, HasAt w wd m ks s) (hX : L = .slice a ls.length ac) :
    Calls Try.prog 52 #[.agg #[.int .i64 wd, .int .i64 now, .int .i64 given, .int .i64 births, T, P, L], .agg #[.int .i64 wd, .map (some m)]] w fun e w' => Says (ls.length ≤ 200 ∧ ∀ (i : Nat) x, ls[i]? = some x → LeaseAt now given ks ls i x) w w' e := by
  subst hX
  have hb0 : ∀ o1 o2, Below w.heap.size w ((w.alloc o1).alloc o2) := fun o1 o2 => ((Below.refl _ _).alloc (Nat.le_refl _) _).alloc (by simp) _
  by_cases hn : 200 < ls.length
  · go_enter Try.func52, Try.ntmps52
    go_wp2
    go_ret
    exact Says.no (fun h => by omega) (hb0 _ _)
  · have hx := SBox.below (SBox.new w wd now given births T P (.slice a ls.length ac) 33) ((Below.refl _ _).alloc (Nat.le_refl _) (.cells #[.int .i64 wd, .map (some m)] 76))
    have hh : HBox ((w.alloc (.cells #[.int .i64 wd, .int .i64 now, .int .i64 given, .int .i64 births, T, P, (.slice a ls.length ac)] 33)).alloc (.cells #[.int .i64 wd, .map (some m)] 76)) (w.heap.size + 1) wd m := ⟨by simp [go_sem], by simp [go_sem], by simp⟩
    go_enter Try.func52, Try.ntmps52
    go_wp2
    go_loopw [14] (fun i wr => ∃ k : Nat, k ≤ ls.length ∧ i = .int .i64 k ∧ Below w.heap.size w wr ∧ Hid (SBox wr w.heap.size wd now given births T P (.slice a ls.length ac)) ∧ Hid (HBox wr (w.heap.size + 1) wd m) ∧ Hid (∀ (j : Nat) x, j < k → ls[j]? = some x → LeaseAt now given ks ls j x)) (fun i _ => ls.length - (intOf i).toNat)
    case atStart => exact ⟨0, Nat.zero_le _, rfl, hb0 _ _, hx, hh, fun j x h => by omega⟩
    case round =>
      obtain ⟨k, hk, rfl, hbel, HX, HH, hall⟩ := hrel
      obtain ⟨x0, x1, x2, x3, x4, x5, x6, x7⟩ := HX.out
      obtain ⟨g0, g1, g2⟩ := HH.out
      by_cases hlt : k < ls.length
      · obtain ⟨b, off, ha, hb, hc⟩ := (hrow.below hbel).at hlt
        subst ha
        have hg : ls[k]? = some ls[k] := List.getElem?_eq_getElem hlt
        obtain ⟨c0, c1, c2⟩ := hc k _ hg
        have hmem := List.getElem_mem hlt
        have m1 := hm.sum _ hmem
        have hbr : b < wr.heap.size := by omega
        match k, hk, hlt, hall, hg, c0, c1, c2, m1 with
        | 0, hk, hlt, hall, hg, c0, c1, c2, m1 =>
          have HG : Hid _ := hg
          clear hc hrow hm hmem hg
          simp only [Nat.zero_mul, Nat.add_zero] at c0 c1 c2
          generalize ls[0] = x at *
          go_wp2
          go_quiet (fail)
          have hBx : Below w.heap.size w ((wr.alloc (Obj.cells #[Value.int IntKind.i64 x.num, Value.string x.sum, Value.int IntKind.i64 x.til] 70)).drewN nq) := belowN (hbel.alloc hbel.size _) _
          have hbx : Below wr.heap.size wr ((wr.alloc (Obj.cells #[Value.int IntKind.i64 x.num, Value.string x.sum, Value.int IntKind.i64 x.til] 70)).drewN nq) := belowN ((Below.refl _ _).alloc (Nat.le_refl _) _) _
          have e0 : ((wr.alloc (Obj.cells #[Value.int IntKind.i64 x.num, Value.string x.sum, Value.int IntKind.i64 x.til] 70)).drewN nq).cell? ⟨wr.heap.size, 2, none⟩ = some (.int .i64 x.til) := by rw [drewN_cell]; simp
          have e1 : ((wr.alloc (Obj.cells #[Value.int IntKind.i64 x.num, Value.string x.sum, Value.int IntKind.i64 x.til] 70)).drewN nq).heap.size = wr.heap.size + 1 := by rw [drewN_size]; simp
          obtain ⟨ok, hok, hcl⟩ := hhas x.sum
          have HC : Hid _ := hcl _ hBx
          have HE : Hid _ := And.intro e0 e1
          clear hhas hcl e0 e1
          by_cases hlo : 1 ≤ x.num
          · have hlo' : decide (x.num < 1) = false := by simp; omega
            by_cases hhi : x.num ≤ given
            · have hhi' : decide (given < x.num) = false := by simp; omega
              go_wp2_with fail
              refine Calls.mono HC.out ?_
              rintro e w2 ⟨rfl, hb2⟩
              have hB2 := hBx.trans (hb2.mono hBx.size)
              have hbn := hbx.trans (hb2.mono hbx.size)
              cases ok with
              | false =>
                go_wp2
                go_ret
                refine Says.no (fun h => ?_) (hB2)
                exact by have := hok.2 (h.2 _ _ HG.out).sum; cases this
              | true =>
                obtain ⟨y0, y1, y2, y3, y4, y5, y6, y7⟩ := SBox.keep HX.out hbn x7
                have e2 := (hb2.cell (p := ⟨wr.heap.size, 2, none⟩) (by rw [HE.out.2]; simp)).trans HE.out.1
                have HK : Hid _ := And.intro hB2 (And.intro (SBox.keep HX.out hbn x7) (HBox.keep HH.out hbn g2))
                have HO : Hid _ := hok.1 rfl
                clear x0 x1 x2 x3 x4 x5 x6 g0 g1 hbx hb2 hB2 hbn HX HH hok HC HE hb0 hx hh hbel m1 c0 c1 c2 hBx
                by_cases ht1 : now < x.til
                · have ht1' : decide (x.til ≤ now) = false := by simp; omega
                  by_cases ht2 : x.til ≤ now + 100000
                  · have ht2' : decide (now + 100000 < x.til) = false := by simp; omega
                    have HA : Hid (∀ (j' : Nat) y, j' < 0 + 1 → ls[j']? = some y → LeaseAt now given ks ls j' y) := by
                      intro j' y hj hy
                      rcases Nat.lt_or_ge j' (0) with h' | h'
                      · exact hall.out j' y h' hy
                      · obtain rfl : j' = 0 := by omega
                        rw [HG.out] at hy
                        cases hy
                        exact ⟨hlo, hhi, fun j p h => by omega, HO.out, ht1, ht2⟩
                    go_wp2
                    exact ⟨⟨0 + 1, by omega, by go_num, HK.out.1, HK.out.2.1, HK.out.2.2, HA⟩, by simp [intOf]; omega⟩
                  · have ht2' : decide (now + 100000 < x.til) = true := by simp; omega
                    go_wp2
                    go_ret
                    refine Says.no (fun h => ?_) (HK.out.1)
                    exact by have := (h.2 _ _ HG.out).til2; omega
                · have ht1' : decide (x.til ≤ now) = true := by simp; omega
                  go_wp2
                  go_ret
                  refine Says.no (fun h => ?_) (HK.out.1)
                  exact by have := (h.2 _ _ HG.out).til1; omega
            · have hhi' : decide (given < x.num) = true := by simp; omega
              go_wp2
              go_ret
              refine Says.no (fun h => ?_) (hBx)
              exact by have := (h.2 _ _ HG.out).hi; omega
          · have hlo' : decide (x.num < 1) = true := by simp; omega
            go_wp2
            go_ret
            refine Says.no (fun h => ?_) (hBx)
            exact by have := (h.2 _ _ HG.out).lo; omega

        | j + 1, hk, hlt, hall, hg, c0, c1, c2, m1 =>
          have HG : Hid _ := hg
          have HP : Hid (ls[j]? = some ls[j]) := List.getElem?_eq_getElem (by omega)
          obtain ⟨d0, _, _⟩ := hc j _ HP.out
          clear hc hrow hm hmem hg
          generalize ls[j + 1] = x at *
          generalize ls[j] = p at *
          have hwj : IntKind.i64.wrap (j : Int) = (j : Int) := wrap_small (by omega) (by omega)
          have hj0 : (0 : Int) ≤ (j : Int) := by omega
          have hj1 : (j : Int) < (ls.length : Int) := by omega
          by_cases hless : p.num < x.num
          · have hless' : decide (x.num ≤ p.num) = false := by simp; omega
            go_wp2
            go_quiet (fail)
            have hBx : Below w.heap.size w ((wr.alloc (Obj.cells #[Value.int IntKind.i64 x.num, Value.string x.sum, Value.int IntKind.i64 x.til] 70)).drewN nq) := belowN (hbel.alloc hbel.size _) _
            have hbx : Below wr.heap.size wr ((wr.alloc (Obj.cells #[Value.int IntKind.i64 x.num, Value.string x.sum, Value.int IntKind.i64 x.til] 70)).drewN nq) := belowN ((Below.refl _ _).alloc (Nat.le_refl _) _) _
            have e0 : ((wr.alloc (Obj.cells #[Value.int IntKind.i64 x.num, Value.string x.sum, Value.int IntKind.i64 x.til] 70)).drewN nq).cell? ⟨wr.heap.size, 2, none⟩ = some (.int .i64 x.til) := by rw [drewN_cell]; simp
            have e1 : ((wr.alloc (Obj.cells #[Value.int IntKind.i64 x.num, Value.string x.sum, Value.int IntKind.i64 x.til] 70)).drewN nq).heap.size = wr.heap.size + 1 := by rw [drewN_size]; simp
            obtain ⟨ok, hok, hcl⟩ := hhas x.sum
            have HC : Hid _ := hcl _ hBx
            have HE : Hid _ := And.intro e0 e1
            clear hhas hcl e0 e1
            by_cases hlo : 1 ≤ x.num
            · have hlo' : decide (x.num < 1) = false := by simp; omega
              by_cases hhi : x.num ≤ given
              · have hhi' : decide (given < x.num) = false := by simp; omega
                go_wp2_with fail
                refine Calls.mono HC.out ?_
                rintro e w2 ⟨rfl, hb2⟩
                have hB2 := hBx.trans (hb2.mono hBx.size)
                have hbn := hbx.trans (hb2.mono hbx.size)
                cases ok with
                | false =>
                  go_wp2
                  go_ret
                  refine Says.no (fun h => ?_) (hB2)
                  exact by have := hok.2 (h.2 _ _ HG.out).sum; cases this
                | true =>
                  obtain ⟨y0, y1, y2, y3, y4, y5, y6, y7⟩ := SBox.keep HX.out hbn x7
                  have e2 := (hb2.cell (p := ⟨wr.heap.size, 2, none⟩) (by rw [HE.out.2]; simp)).trans HE.out.1
                  have HK : Hid _ := And.intro hB2 (And.intro (SBox.keep HX.out hbn x7) (HBox.keep HH.out hbn g2))
                  have HO : Hid _ := hok.1 rfl
                  clear x0 x1 x2 x3 x4 x5 x6 g0 g1 hbx hb2 hB2 hbn HX HH hok HC HE hb0 hx hh hbel m1 c0 c1 c2 hBx
                  by_cases ht1 : now < x.til
                  · have ht1' : decide (x.til ≤ now) = false := by simp; omega
                    by_cases ht2 : x.til ≤ now + 100000
                    · have ht2' : decide (now + 100000 < x.til) = false := by simp; omega
                      have HA : Hid (∀ (j' : Nat) y, j' < (j + 1) + 1 → ls[j']? = some y → LeaseAt now given ks ls j' y) := by
                        intro j' y hj hy
                        rcases Nat.lt_or_ge j' ((j + 1)) with h' | h'
                        · exact hall.out j' y h' hy
                        · obtain rfl : j' = (j + 1) := by omega
                          rw [HG.out] at hy
                          cases hy
                          exact ⟨hlo, hhi, fun j2 p2 h hp2 => by cases h; rw [HP.out] at hp2; cases hp2; exact hless, HO.out, ht1, ht2⟩
                      go_wp2
                      exact ⟨⟨(j + 1) + 1, by omega, by go_num, HK.out.1, HK.out.2.1, HK.out.2.2, HA⟩, by simp [intOf]; omega⟩
                    · have ht2' : decide (now + 100000 < x.til) = true := by simp; omega
                      go_wp2
                      go_ret
                      refine Says.no (fun h => ?_) (HK.out.1)
                      exact by have := (h.2 _ _ HG.out).til2; omega
                  · have ht1' : decide (x.til ≤ now) = true := by simp; omega
                    go_wp2
                    go_ret
                    refine Says.no (fun h => ?_) (HK.out.1)
                    exact by have := (h.2 _ _ HG.out).til1; omega
              · have hhi' : decide (given < x.num) = true := by simp; omega
                go_wp2
                go_ret
                refine Says.no (fun h => ?_) (hBx)
                exact by have := (h.2 _ _ HG.out).hi; omega
            · have hlo' : decide (x.num < 1) = true := by simp; omega
              go_wp2
              go_ret
              refine Says.no (fun h => ?_) (hBx)
              exact by have := (h.2 _ _ HG.out).lo; omega

          · have hless' : decide (x.num ≤ p.num) = true := by simp; omega
            go_wp2
            go_quiet (fail)
            go_wp2
            go_ret
            refine Says.no (fun h => ?_) (belowN (hbel.alloc hbel.size _) _)
            exact by have := (h.2 _ _ HG.out).up j p rfl HP.out; omega

      · go_wp2
        go_ret
        exact Says.yes ⟨by omega, fun i x hx => hall.out i x (by have := (List.getElem?_eq_some_iff.1 hx).1; omega) hx⟩ hbel

end Go.Proofs.Ytbelneejghdmoaa
