/-
  laws.wThing, laws.FnForms: the law's body.
-/
import Derived.Test.YtdecihmplkgfkaaDoorDrE
import Derived.Test.YtdecihmplkgfkaaDoorEntQ
import Derived.Test.YtdecihmplkgfkaaDoorLogW
namespace Go.Proofs.YtdecihmplkgfkaaDoor
open Go.ChangeShapes Go.WideShapes Go.ChangeAt Go.RowKit

/-- A slice of bytes that is handed in. -/
def BRowF (w : World) (a : Option Addr) (n : Nat) : Prop := n = 0 ∨ ∃ q off, a = some ⟨q, off, none⟩ ∧ q < w.heap.size ∧ ∀ j, j < n → ∃ x : Int, w.cell? ⟨q, off + j, none⟩ = some (.int .u8 x) ∧ 0 ≤ x ∧ x < 256

theorem BRowF.below {w w' : World} {a : Option Addr} {n : Nat} (h : BRowF w a n) (hb : Below w.heap.size w w') : BRowF w' a n := by
  rcases h with h | ⟨q, off, ha, hq, hx⟩
  · exact .inl h
  · refine .inr ⟨q, off, ha, Nat.lt_of_lt_of_le hq hb.size, fun j hj => ?_⟩
    obtain ⟨x, h1, h2⟩ := hx j hj
    exact ⟨x, (hb.cell (p := ⟨q, off + j, none⟩) hq).trans h1, h2⟩

theorem toList_injF {a b : ByteArray} (h : a.toList = b.toList) : a = b := by
  rw [ByteArray.toList_eq, ByteArray.toList_eq] at h
  cases a; cases b
  simp only [Array.toList_inj] at h
  rw [h]

theorem belowDN {B : Nat} {w w' : World} (h : Below B w w') (n : Nat) : Below B w (w'.drewN n) := ⟨h.os, h.tape, h.output, h.size, h.block⟩

set_option maxHeartbeats 1000000 in
theorem wThing_yes (t : ByteArray) (a a' : Option Addr) (cap cap' : Nat) (ss : List ByteArray) (w : World) (hrow : SRow w w.heap.size a ss) (hrow' : SRow w w.heap.size a' ss) (hl : ss.length ≤ 1048576) :
    Calls Tryd.prog 20 #[.agg #[.string t, .slice a ss.length cap], .agg #[.string t, .slice a' ss.length cap']] w fun e w' => e = .returned (.bool true) ∧ Below w.heap.size w w' := by
  have hb0 : Below w.heap.size w ((w.alloc (.cells #[.string t, .slice a ss.length cap] 29)).alloc (.cells #[.string t, .slice a' ss.length cap'] 29)) := ((Below.refl _ _).alloc (Nat.le_refl _) _).alloc (by simp) _
  go_enter Tryd.func20, Tryd.ntmps20
  go_wp2_with fail
  refine (wList_yes a a' cap cap' ss _ _ _ (hrow.below' hb0) (hrow'.below' hb0) hl).mono ?_
  rintro e w1 ⟨rfl, n1, hw1⟩
  have hb1 : Below w.heap.size w w1 := by rw [hw1]; exact belowDN hb0 n1
  clear hw1 hb0
  go_wp2
  go_ret
  exact ⟨rfl, hb1⟩

theorem rd_small (s : ByteArray) (wd : Int) : (rd s wd).1.size ≤ 2000 ∧ (rd s wd).2.1.length ≤ 30 := by
  obtain ⟨l, rfl⟩ : ∃ l, s = mkB l := ⟨s.data.toList, rfl⟩
  cases h : (rd (mkB l) wd).2.2 with
  | true =>
    have p := okThing_parts (rd_sound h).1
    exact ⟨p.text, p.refs⟩
  | false =>
    by_cases hw : 1 ≤ wd ∧ wd ≤ 8
    · cases l with
      | nil => unfold rd; rw [if_pos hw]; exact ⟨Nat.zero_le _, Nat.zero_le _⟩
      | cons c T =>
        rw [rd_mk c T wd hw.1 hw.2] at h ⊢
        split at h
        · simp at h
        · rename_i hc
          rw [if_neg hc]
          exact ⟨Nat.zero_le _, Nat.zero_le _⟩
    · unfold rd
      rw [if_neg hw]
      exact ⟨Nat.zero_le _, Nat.zero_le _⟩

theorem rdE_small (s : ByteArray) (wd : Int) : (rdE s wd).t.size ≤ 2000 ∧ (rdE s wd).ss.length ≤ 30 ∧ (rdE s wd).name.size ≤ 40 := by
  cases h : (rdE s wd).ok with
  | true =>
    have h1 := (rdE_sound h).1
    have h0 := h1
    unfold okE at h0
    simp only [Bool.and_eq_true, decide_eq_true_eq] at h0
    have p := entOk_parts h0.2
    have h2 := h0.2
    unfold entOk at h2
    simp only [Bool.and_eq_true] at h2
    obtain ⟨_, _, _, _, hth⟩ := h2
    refine ⟨?_, ?_, p.name⟩
    · unfold thOk at hth
      split at hth
      · exact (okThing_parts hth).text
      · simp only [decide_eq_true_eq] at hth; omega
    · unfold thOk at hth
      split at hth
      · exact (okThing_parts hth).refs
      · simp only [decide_eq_true_eq] at hth; omega
  | false =>
    have : rdE s wd = erNo := by
      unfold rdE at h ⊢
      split at h
      · rename_i hc
        rw [if_pos hc]
      · cases h
    rw [this]
    exact ⟨Nat.zero_le _, Nat.zero_le _, Nat.zero_le _⟩

set_option maxRecDepth 20000 in
set_option maxHeartbeats 8000000 in
theorem fnForms_walk (a : Option Addr) (n c : Nat) (w : World) (hn : n ≤ maxLen) (hb : BRowF w a n) (hc : n ≤ c) (he : Env w) :
    Calls Tryd.prog 5 #[.slice a n c] w fun e w' => e = .returned (.bool true) ∧ Below w.heap.size w w' := by
  by_cases hbig : 1048576 < n
  · have hd : decide ((1048576 : Int) < (n : Int)) = true := by simp; omega
    go_enter Tryd.func5, Tryd.ntmps5
    go_wp2
    go_ret
    exact ⟨rfl, Below.refl _ _⟩
  have hd : decide ((1048576 : Int) < (n : Int)) = false := by simp; omega
  have HB : Hid _ := hb
  have HE : Hid _ := he
  clear hb he
  go_enter Tryd.func5, Tryd.ntmps5
  go_wp2_with fail
  refine (drawFormThing_any a n c w hn HB.out hc).mono ?_
  rintro e w1 ⟨⟨t, ra, rc, ss, wd, rfl, ⟨ht, hl, hs⟩, hw0, hw9, ho⟩, hb1⟩
  have hr1 := (own_nilD ho).1
  obtain ⟨W1, hW1⟩ : ∃ W1, W1 = w1.alloc (.cells #[.string t, .slice ra ss.length rc] 29) := ⟨_, rfl⟩
  have h11 : Below w1.heap.size w1 W1 := by rw [hW1]; exact (Below.refl _ _).alloc (Nat.le_refl _) _
  have X1 : Hid (CellsAt W1 w1.heap.size [.string t, .slice ra ss.length rc]) := by rw [hW1]; exact CellsAt.new w1 _ _
  have R1 : Hid (SRow W1 W1.heap.size ra ss) := hr1.below' h11
  have B1 : Hid (Below w.heap.size w W1) := hb1.trans (h11.mono hb1.size)
  obtain ⟨T, hT⟩ : ∃ T, T = w1.heap.size := ⟨_, rfl⟩
  rw [← hT] at X1
  have HW1 : Hid _ := hW1
  have HT : Hid _ := hT
  clear hW1 hT h11 ho hr1 hb1 hs
  go_upto_region 4 with fail
  rw [← HW1.out, ← HT.out]
  clear HW1 HT
  go_wp2_with fail
  refine (drawFormEntry_any a n c W1 hn (BRowF.below HB.out B1.out) hc).mono ?_
  rintro e w2 ⟨⟨k, sum, name, m, et, era, erc, ess, z, rfl, hS, hz0, hz9, ho⟩, hb2⟩
  have hr2 := (own_nilD ho).1
  obtain ⟨W2, hW2⟩ : ∃ W2, W2 = w2.alloc (.cells #[.int .i64 k, .string sum, .string name, .int .i64 m, .string et, .slice era ess.length erc] 31) := ⟨_, rfl⟩
  have h22 : Below w2.heap.size w2 W2 := by rw [hW2]; exact (Below.refl _ _).alloc (Nat.le_refl _) _
  have h12 : Below W1.heap.size W1 W2 := hb2.trans (h22.mono hb2.size)
  have Y2 : Hid (CellsAt W2 w2.heap.size [.int .i64 k, .string sum, .string name, .int .i64 m, .string et, .slice era ess.length erc]) := by rw [hW2]; exact CellsAt.new w2 _ _
  have X2 : Hid (CellsAt W2 T [.string t, .slice ra ss.length rc]) := CellsAt.below X1.out h12
  have R2 : Hid (SRow W2 W2.heap.size ra ss) := SRow.below' R1.out h12
  have S2 : Hid (SRow W2 W2.heap.size era ess) := hr2.below' h22
  have B2 : Hid (Below w.heap.size w W2) := B1.out.trans (h12.mono B1.out.size)
  obtain ⟨Q, hQ⟩ : ∃ Q, Q = w2.heap.size := ⟨_, rfl⟩
  rw [← hQ] at Y2
  have HW2 : Hid _ := hW2
  have HQ : Hid _ := hQ
  have hes := hS.lss
  have hen : name.size ≤ maxLen := by have := hS.lname; unfold maxLen; omega
  have het : et.size ≤ maxLen := by have := hS.ltext; unfold maxLen; omega
  have htm : t.size ≤ maxLen := by unfold maxLen; omega
  clear hW2 hQ h22 h12 ho hr2 hb2 X1 R1 B1 hS
  go_upto_region 5 with fail
  rw [← HW2.out, ← HQ.out]
  clear HW2 HQ
  obtain ⟨x0, _⟩ := X2.out 0 _ rfl
  obtain ⟨x1, _⟩ := X2.out 1 _ rfl
  go_wp2_with fail
  refine (iForm_any t ra rc ss wd W2 R2.out (by omega) htm).mono ?_
  rintro e w3 ⟨rfl, hb3⟩
  have Y3 : Hid _ := CellsAt.below Y2.out hb3
  have X3 : Hid _ := CellsAt.below X2.out hb3
  have R3 : Hid (SRow w3 w3.heap.size ra ss) := SRow.below' R2.out hb3
  have S3 : Hid (SRow w3 w3.heap.size era ess) := SRow.below' S2.out hb3
  have B3 : Hid (Below w.heap.size w w3) := B2.out.trans (hb3.mono B2.out.size)
  clear X2 Y2 R2 S2 B2 hb3 x0 x1
  obtain ⟨y0, _⟩ := Y3.out 0 _ rfl
  obtain ⟨y1, _⟩ := Y3.out 1 _ rfl
  obtain ⟨y2, _⟩ := Y3.out 2 _ rfl
  obtain ⟨y3, _⟩ := Y3.out 3 _ rfl
  obtain ⟨y4, _⟩ := Y3.out 4 _ rfl
  obtain ⟨y5, _⟩ := Y3.out 5 _ rfl
  go_wp2_with fail
  refine (iFormE k sum name m et era erc ess z w3 (HE.out.below B3.out).tab S3.out (by omega) het hen).mono ?_
  rintro e w4 ⟨rfl, hb4⟩
  have Y4 : Hid _ := CellsAt.below Y3.out hb4
  have X4 : Hid _ := CellsAt.below X3.out hb4
  have R4 : Hid (SRow w4 w4.heap.size ra ss) := SRow.below' R3.out hb4
  have S4 : Hid (SRow w4 w4.heap.size era ess) := SRow.below' S3.out hb4
  have B4 : Hid (Below w.heap.size w w4) := B3.out.trans (hb4.mono B3.out.size)
  clear X3 Y3 R3 S3 B3 hb4 y0 y1 y2 y3 y4 y5
  obtain ⟨x0, _⟩ := X4.out 0 _ rfl
  obtain ⟨x1, _⟩ := X4.out 1 _ rfl
  have HF := sForm_any t ra rc ss wd w4 R4.out (by omega) htm
  have HG := fun w' hb' => sFormE k sum name m et era erc ess z w' hb' (by omega) het hen
  have HA1 : Hid (∀ h : ¬ formTxt t ss wd = ⟨#[]⟩, rd (formTxt t ss wd) wd = (t, ss, true)) := fun h => rd_form h
  have HA2 : Hid (∀ h : ¬ entTxt k sum name m et ess z = ⟨#[]⟩, rdE (entTxt k sum name m et ess z) z = ⟨k, sum, name, m, et, ess, true⟩) := fun h => rdE_complete (entTxt_ne h)
  have hsA := formTxt_size t ss wd
  have hsE := entTxt_size k sum name m et ess z
  generalize formTxt t ss wd = A at *
  generalize entTxt k sum name m et ess z = E at *
  have HFs : Hid _ := HF
  have HGs : Hid _ := HG
  have hAA : (A.toList != A.toList) = false := by simp
  have hEE : (E.toList != E.toList) = false := by simp
  clear HF HG
  go_wp2_with fail
  refine Calls.mono HFs.out ?_
  rintro e w5 ⟨rfl, hb5⟩
  have Y5 : Hid _ := CellsAt.below Y4.out hb5
  have X5 : Hid _ := CellsAt.below X4.out hb5
  have R5 : Hid (SRow w5 w5.heap.size ra ss) := SRow.below' R4.out hb5
  have S5 : Hid (SRow w5 w5.heap.size era ess) := SRow.below' S4.out hb5
  have B5 : Hid (Below w.heap.size w w5) := B4.out.trans (hb5.mono B4.out.size)
  clear X4 Y4 R4 S4 B4 hb5 x0 x1 HFs
  obtain ⟨y0, _⟩ := Y5.out 0 _ rfl
  obtain ⟨y1, _⟩ := Y5.out 1 _ rfl
  obtain ⟨y2, _⟩ := Y5.out 2 _ rfl
  obtain ⟨y3, _⟩ := Y5.out 3 _ rfl
  obtain ⟨y4, _⟩ := Y5.out 4 _ rfl
  obtain ⟨y5, _⟩ := Y5.out 5 _ rfl
  go_wp2_with fail
  refine Calls.mono (HGs.out w5 S5.out) ?_
  rintro e w6 ⟨rfl, hb6⟩
  have Y6 : Hid (CellsAt w6 Q [.int .i64 k, .string sum, .string name, .int .i64 m, .string et, .slice era ess.length erc]) := CellsAt.below Y5.out hb6
  have X6 : Hid (CellsAt w6 T [.string t, .slice ra ss.length rc]) := CellsAt.below X5.out hb6
  have R6 : Hid (SRow w6 w6.heap.size ra ss) := SRow.below' R5.out hb6
  have S6 : Hid (SRow w6 w6.heap.size era ess) := SRow.below' S5.out hb6
  have B6 : Hid (Below w.heap.size w w6) := B5.out.trans (hb6.mono B5.out.size)
  clear X5 Y5 R5 S5 B5 hb6 y0 y1 y2 y3 y4 y5 HGs
  obtain ⟨qA, hqA⟩ : ∃ q : Bool, q = !decide (A.size = 0) := ⟨_, rfl⟩
  go_upto_region 9 with fail
  go_cut [55] (fun v wx => v = .bool qA ∧ wx = w6)
  case first =>
    by_cases hV0 : A.size = 0
    · have e0 : A.toList.isEmpty = true := by rw [isE]; simpa using hV0
      go_wp2_with fail
      go_meet
      exact ⟨by simp [hqA, hV0], rfl⟩
    · have e0 : A.toList.isEmpty = false := by rw [isE]; simpa using hV0
      go_wp2_with fail
      go_meet
      exact ⟨by simp [hqA, hV0], rfl⟩
  case rest =>
  revert wc
  intro wc hcut
  obtain ⟨rfl, hwc⟩ := hcut
  rw [hwc]
  clear hwc wc
  go_upto_if 55 with fail
  go_cut [] (fun wx => Hid (CellsAt wx Q [.int .i64 k, .string sum, .string name, .int .i64 m, .string et, .slice era ess.length erc]) ∧ Hid (SRow wx wx.heap.size era ess) ∧ Hid (Below w.heap.size w wx))
  case first =>
    cases qA with
    | false =>
      clear hqA
      go_wp2_with fail
      go_meet
      exact ⟨Y6.out, S6.out, B6.out⟩
    | true =>
      have hA0 : ¬ A.size = 0 := by simpa using hqA
      clear hqA
      have hrd := HA1.out (fun e => hA0 (by rw [e]; rfl))
      have hIR := iRead_any A wd w6 (by omega)
      unfold ReadPost at hIR
      rw [hrd] at hIR
      have HIR : Hid _ := hIR
      clear hIR hrd hA0
      go_wp2_with fail
      refine Calls.mono HIR.out ?_
      rintro e w7 ⟨v7, rfl, ho7, hb7⟩
      obtain ⟨a7, c7, hv7, hr7⟩ := own_form ho7
      subst hv7
      obtain ⟨W7, hW7⟩ : ∃ W7, W7 = w7.alloc (.cells #[.string t, .slice a7 ss.length c7] 29) := ⟨_, rfl⟩
      have h77 : Below w7.heap.size w7 W7 := by rw [hW7]; exact (Below.refl _ _).alloc (Nat.le_refl _) _
      have h67 : Below w6.heap.size w6 W7 := hb7.trans (h77.mono hb7.size)
      have Z7 : Hid (CellsAt W7 w7.heap.size [.string t, .slice a7 ss.length c7]) := by rw [hW7]; exact CellsAt.new w7 _ _
      have Y7 : Hid (CellsAt W7 Q [.int .i64 k, .string sum, .string name, .int .i64 m, .string et, .slice era ess.length erc]) := CellsAt.below Y6.out h67
      have X7 : Hid (CellsAt W7 T [.string t, .slice ra ss.length rc]) := CellsAt.below X6.out h67
      have R7 : Hid (SRow W7 W7.heap.size ra ss) := SRow.below' R6.out h67
      have S7 : Hid (SRow W7 W7.heap.size era ess) := SRow.below' S6.out h67
      have V7 : Hid (SRow W7 W7.heap.size a7 ss) := SRow.below' hr7 h77
      have B7 : Hid (Below w.heap.size w W7) := B6.out.trans (h67.mono B6.out.size)
      have HW7 : Hid _ := hW7
      clear hW7 h77 h67 ho7 hr7 hb7 X6 Y6 R6 S6 B6 HIR
      go_upto_region 11 with fail
      rw [← HW7.out]
      clear HW7
      obtain ⟨x0, _⟩ := X7.out 0 _ rfl
      obtain ⟨x1, _⟩ := X7.out 1 _ rfl
      obtain ⟨z0, _⟩ := Z7.out 0 _ rfl
      obtain ⟨z1, _⟩ := Z7.out 1 _ rfl
      go_wp2_with fail
      refine (wThing_yes t a7 ra c7 rc ss W7 V7.out R7.out (by omega)).mono ?_
      rintro e w8 ⟨rfl, hb8⟩
      have HF : Hid (CellsAt w8 Q [.int .i64 k, .string sum, .string name, .int .i64 m, .string et, .slice era ess.length erc] ∧ SRow w8 w8.heap.size era ess ∧ Below w.heap.size w w8) := ⟨CellsAt.below Y7.out hb8, SRow.below' S7.out hb8, B7.out.trans (hb8.mono B7.out.size)⟩
      clear x0 x1 z0 z1 X7 Y7 Z7 R7 S7 V7 B7 hb8
      go_wp2_with fail
      go_meet
      exact ⟨HF.out.1, HF.out.2.1, HF.out.2.2⟩
  case rest =>
  revert wc
  intro w9 hcut
  obtain ⟨Y9, S9, B9⟩ := hcut
  clear X6 Y6 R6 S6 B6
  obtain ⟨qE, hqE⟩ : ∃ q : Bool, q = !decide (E.size = 0) := ⟨_, rfl⟩
  go_upto_region 13 with fail
  go_cut [71] (fun v wx => v = .bool qE ∧ wx = w9)
  case first =>
    by_cases hV0 : E.size = 0
    · have e0 : E.toList.isEmpty = true := by rw [isE]; simpa using hV0
      go_wp2_with fail
      go_meet
      exact ⟨by simp [hqE, hV0], rfl⟩
    · have e0 : E.toList.isEmpty = false := by rw [isE]; simpa using hV0
      go_wp2_with fail
      go_meet
      exact ⟨by simp [hqE, hV0], rfl⟩
  case rest =>
  revert wc
  intro wc hcut
  obtain ⟨rfl, hwc⟩ := hcut
  rw [hwc]
  clear hwc wc
  go_upto_if 71 with fail
  go_cut [] (fun wx => Hid (Below w.heap.size w wx))
  case first =>
    cases qE with
    | false =>
      clear hqE
      go_wp2_with fail
      go_meet
      exact B9.out
    | true =>
      have hE0 : ¬ E.size = 0 := by simpa using hqE
      clear hqE
      have hrd := HA2.out (fun e => hE0 (by rw [e]; rfl))
      have hIR := iReadE_any E z w9 (by omega) (HE.out.below B9.out)
      unfold ReadEPost at hIR
      rw [hrd] at hIR
      have HIR : Hid _ := hIR
      clear hIR hrd hE0
      go_wp2_with fail
      refine Calls.mono HIR.out ?_
      rintro e w10 ⟨v10, rfl, ho10, hb10⟩
      obtain ⟨a10, c10, hv10, hr10⟩ := own_form ho10
      subst hv10
      obtain ⟨W10, hW10⟩ : ∃ W10, W10 = w10.alloc (.cells #[.int .i64 k, .string sum, .string name, .int .i64 m, .string et, .slice a10 ess.length c10] 31) := ⟨_, rfl⟩
      have h77 : Below w10.heap.size w10 W10 := by rw [hW10]; exact (Below.refl _ _).alloc (Nat.le_refl _) _
      have h67 : Below w9.heap.size w9 W10 := hb10.trans (h77.mono hb10.size)
      have Z7 : Hid (CellsAt W10 w10.heap.size [.int .i64 k, .string sum, .string name, .int .i64 m, .string et, .slice a10 ess.length c10]) := by rw [hW10]; exact CellsAt.new w10 _ _
      have Y7 : Hid (CellsAt W10 Q [.int .i64 k, .string sum, .string name, .int .i64 m, .string et, .slice era ess.length erc]) := CellsAt.below Y9.out h67
      have S7 : Hid (SRow W10 W10.heap.size era ess) := SRow.below' S9.out h67
      have V7 : Hid (SRow W10 W10.heap.size a10 ess) := SRow.below' hr10 h77
      have B7 : Hid (Below w.heap.size w W10) := B9.out.trans (h67.mono B9.out.size)
      have HW10 : Hid _ := hW10
      clear hW10 h77 h67 ho10 hr10 hb10 Y9 S9 B9 HIR
      go_upto_region 15 with fail
      rw [← HW10.out]
      clear HW10
      obtain ⟨y0, _⟩ := Y7.out 0 _ rfl
      obtain ⟨y1, _⟩ := Y7.out 1 _ rfl
      obtain ⟨y2, _⟩ := Y7.out 2 _ rfl
      obtain ⟨y3, _⟩ := Y7.out 3 _ rfl
      obtain ⟨y4, _⟩ := Y7.out 4 _ rfl
      obtain ⟨y5, _⟩ := Y7.out 5 _ rfl
      obtain ⟨z0, _⟩ := Z7.out 0 _ rfl
      obtain ⟨z1, _⟩ := Z7.out 1 _ rfl
      obtain ⟨z2, _⟩ := Z7.out 2 _ rfl
      obtain ⟨z3, _⟩ := Z7.out 3 _ rfl
      obtain ⟨z4, _⟩ := Z7.out 4 _ rfl
      obtain ⟨z5, _⟩ := Z7.out 5 _ rfl
      have n1 : (k != k) = false := by simp
      have n2 : (sum.toList != sum.toList) = false := by simp
      have n3 : (name.toList != name.toList) = false := by simp
      have n4 : (m != m) = false := by simp
      go_wp2_with fail
      refine (wThing_yes et a10 era c10 erc ess W10 V7.out S7.out (by omega)).mono ?_
      rintro e w11 ⟨rfl, hb11⟩
      have HF : Hid (Below w.heap.size w w11) := B7.out.trans (hb11.mono B7.out.size)
      clear y0 y1 y2 y3 y4 y5 z0 z1 z2 z3 z4 z5 Y7 Z7 S7 V7 B7 hb11
      go_wp2_with fail
      go_meet
      exact HF.out
  case rest =>
  revert wc
  intro w12 B12
  clear Y9 S9 B9 HA1 HA2 hAA hEE
  go_wp2_with fail
  refine (drawReadThing_any a n c w12 hn (BRowF.below HB.out B12.out) hc).mono ?_
  rintro e w13 ⟨⟨U, x, rfl, hU, hx0, hx9⟩, hb13⟩
  have B13 : Hid (Below w.heap.size w w13) := B12.out.trans (hb13.mono B12.out.size)
  have hIR := iRead_any U x w13 (by omega)
  have hfr := fun h => form_rd (s := U) (wd := x) h
  have hrl := rd_small U x
  unfold ReadPost at hIR
  generalize rd U x = D at *
  have HIR : Hid _ := hIR
  have HFR : Hid _ := hfr
  clear hIR hfr B12 hb13
  go_wp2_with fail
  refine Calls.mono HIR.out ?_
  rintro e w14 ⟨v14, rfl, ho14, hb14⟩
  obtain ⟨a14, c14, hv14, hr14⟩ := own_form ho14
  subst hv14
  obtain ⟨ut, us, uo⟩ := D
  simp only at HFR hr14 hrl ⊢
  obtain ⟨W14, hW14⟩ : ∃ W14, W14 = w14.alloc (.cells #[.string ut, .slice a14 us.length c14] 29) := ⟨_, rfl⟩
  have h77 : Below w14.heap.size w14 W14 := by rw [hW14]; exact (Below.refl _ _).alloc (Nat.le_refl _) _
  have h67 : Below w13.heap.size w13 W14 := hb14.trans (h77.mono hb14.size)
  have Z14 : Hid (CellsAt W14 w14.heap.size [.string ut, .slice a14 us.length c14]) := by rw [hW14]; exact CellsAt.new w14 _ _
  have V14 : Hid (SRow W14 W14.heap.size a14 us) := SRow.below' hr14 h77
  have B14 : Hid (Below w.heap.size w W14) := B13.out.trans (h67.mono B13.out.size)
  have HW14 : Hid _ := hW14
  clear hW14 h77 h67 ho14 hr14 hb14 B13 HIR
  go_upto_region 19 with fail
  rw [← HW14.out]
  clear HW14
  obtain ⟨z0, _⟩ := Z14.out 0 _ rfl
  obtain ⟨z1, _⟩ := Z14.out 1 _ rfl
  go_cut [134] (fun v wx => v = .bool false ∧ Hid (Below w.heap.size w wx))
  case first =>
    cases uo with
    | true =>
      have hF := HFR.out rfl
      go_wp2_with fail
      refine (iForm_any ut a14 c14 us x W14 V14.out (by omega) (by unfold maxLen; omega)).mono ?_
      rintro e w15 ⟨rfl, hb15⟩
      rw [hF]
      have HF : Hid (Below w.heap.size w w15) := B14.out.trans (hb15.mono B14.out.size)
      have n1 : (U.toList != U.toList) = false := by simp
      have n2 : (U.toList == U.toList) = true := by simp
      clear hF z0 z1 hb15
      go_wp2_with fail
      go_meet
      exact ⟨by simp, HF.out⟩
    | false =>
      go_wp2_with fail
      go_meet
      exact ⟨rfl, B14.out⟩
  case rest =>
  revert wc
  intro w16 hcut
  obtain ⟨rfl, B16⟩ := hcut
  clear Z14 V14 B14 HFR z0 z1
  go_wp2_with fail
  refine (drawReadEntry_any a n c w16 hn (BRowF.below HB.out B16.out) hc).mono ?_
  rintro e w17 ⟨⟨G, y, rfl, hG, hy0, hy9⟩, hb17⟩
  have B17 : Hid (Below w.heap.size w w17) := B16.out.trans (hb17.mono B16.out.size)
  have hI := fun W (h : Env W) => iReadE_any G y W (by omega) h
  have hSp := fun W (_ : Env W) => sReadE_any G y W (by omega)
  have hfr := fun h => (rdE_sound (s := G) (wd := y) h).2
  have hsm := rdE_small G y
  unfold ReadEPost at hI hSp
  generalize rdE G y = r at *
  have HI : Hid _ := hI
  have HSp : Hid _ := hSp
  have HFR : Hid _ := hfr
  clear hI hSp hfr B16 hb17
  go_wp2_with fail
  refine Calls.mono (HI.out w17 (HE.out.below B17.out)) ?_
  rintro e w18 ⟨v18, rfl, ho18, hb18⟩
  obtain ⟨a18, c18, hv18, hr18⟩ := own_form ho18
  subst hv18
  obtain ⟨W18, hW18⟩ : ∃ W18, W18 = w18.alloc (.cells #[.int .i64 r.k, .string r.sum, .string r.name, .int .i64 r.n, .string r.t, .slice a18 r.ss.length c18] 31) := ⟨_, rfl⟩
  have h77 : Below w18.heap.size w18 W18 := by rw [hW18]; exact (Below.refl _ _).alloc (Nat.le_refl _) _
  have h67 : Below w17.heap.size w17 W18 := hb18.trans (h77.mono hb18.size)
  have Z18 : Hid (CellsAt W18 w18.heap.size [.int .i64 r.k, .string r.sum, .string r.name, .int .i64 r.n, .string r.t, .slice a18 r.ss.length c18]) := by rw [hW18]; exact CellsAt.new w18 _ _
  have V18 : Hid (SRow W18 W18.heap.size a18 r.ss) := SRow.below' hr18 h77
  have B18 : Hid (Below w.heap.size w W18) := B17.out.trans (h67.mono B17.out.size)
  have HW18 : Hid _ := hW18
  clear hW18 h77 h67 ho18 hr18 hb18 B17
  go_upto_region 23 with fail
  rw [← HW18.out]
  clear HW18
  go_wp2_with fail
  refine Calls.mono (HSp.out W18 (HE.out.below B18.out)) ?_
  rintro e w19 ⟨v19, rfl, ho19, hb19⟩
  obtain ⟨a19, c19, hv19, hr19⟩ := own_form ho19
  subst hv19
  obtain ⟨W19, hW19⟩ : ∃ W19, W19 = w19.alloc (.cells #[.int .i64 r.k, .string r.sum, .string r.name, .int .i64 r.n, .string r.t, .slice a19 r.ss.length c19] 31) := ⟨_, rfl⟩
  have h77 : Below w19.heap.size w19 W19 := by rw [hW19]; exact (Below.refl _ _).alloc (Nat.le_refl _) _
  have h67 : Below W18.heap.size W18 W19 := hb19.trans (h77.mono hb19.size)
  have Z19 : Hid (CellsAt W19 w18.heap.size [.int .i64 r.k, .string r.sum, .string r.name, .int .i64 r.n, .string r.t, .slice a18 r.ss.length c18]) := CellsAt.below Z18.out h67
  have V19 : Hid (SRow W19 W19.heap.size a18 r.ss) := SRow.below' V18.out h67
  have B19 : Hid (Below w.heap.size w W19) := B18.out.trans (h67.mono B18.out.size)
  have HW19 : Hid _ := hW19
  clear hW19 h77 h67 ho19 hr19 hb19 B18 Z18 V18 HI HSp
  go_upto_region 24 with fail
  rw [← HW19.out]
  clear HW19
  obtain ⟨k', sum', name', n', t', ss', ok'⟩ := r
  simp only at HFR Z19 V19 hsm ⊢
  obtain ⟨z0, _⟩ := Z19.out 0 _ rfl
  obtain ⟨z1, _⟩ := Z19.out 1 _ rfl
  obtain ⟨z2, _⟩ := Z19.out 2 _ rfl
  obtain ⟨z3, _⟩ := Z19.out 3 _ rfl
  obtain ⟨z4, _⟩ := Z19.out 4 _ rfl
  obtain ⟨z5, _⟩ := Z19.out 5 _ rfl
  cases ok' with
  | true =>
    have hF := HFR.out rfl
    go_wp2_with fail
    refine (iFormE k' sum' name' n' t' a18 c18 ss' y W19 (HE.out.below B19.out).tab V19.out (by omega) (by unfold maxLen; omega) (by unfold maxLen; omega)).mono ?_
    rintro e w20 ⟨rfl, hb20⟩
    rw [hF]
    have HF : Hid (Below w.heap.size w w20) := B19.out.trans (hb20.mono B19.out.size)
    have n2 : (G.toList == G.toList) = true := by simp
    clear hF z0 z1 z2 z3 z4 z5 hb20
    go_wp2
    go_ret
    exact ⟨by simp, HF.out⟩
  | false =>
    go_wp2
    go_ret
    exact ⟨by simp, B19.out⟩
end Go.Proofs.YtdecihmplkgfkaaDoor
