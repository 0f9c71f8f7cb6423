/-
  laws.FnLog: the law's body.
-/
import Derived.Test.YtdecihmplkgfkaaDrA
import Derived.Test.YtdecihmplkgfkaaLogXo
import Derived.Test.YtdecihmplkgfkaaLogI
import Derived.Test.YtdecihmplkgfkaaLogW
import Derived.Test.YtdecihmplkgfkaaLogD
import Derived.Test.YtdecihmplkgfkaaLogV
import Derived.Test.YtdecihmplkgfkaaLogB
import Derived.Test.YtdecihmplkgfkaaLogYl
import Derived.Test.YtdecihmplkgfkaaCls
import Derived.Deep.RegionWith
import Derived.Deep.DeepCutAuto
namespace Go.Proofs.Ytdecihmplkgfkaa
open Go.ChangeShapes Go.WideShapes Go.ChangeAt Go.RowKit

/-- As own_slice; where the row is nil, it has no room. -/
theorem own_sliceO {w : World} {base : Nat} {v : Value} {ss : List ByteArray} (h : w.ownsRow base 9 1 v ss.length (ss.map Value.string)) : ∃ a cap, v = .slice a ss.length cap ∧ SRow w w.heap.size a ss ∧ (a = none → ss.length = 0 ∧ cap = 0) ∧ ss.length ≤ cap := by
  rcases h.2 with ⟨hv, h0⟩ | ⟨g, cap, cur, hv, _, _, hcap, _⟩
  · exact ⟨none, 0, by rw [hv, h0], .inl (List.eq_nil_of_length_eq_zero h0), fun _ => ⟨h0, rfl⟩, by omega⟩
  · subst hv
    exact ⟨_, _, rfl, SRow.own h, (fun e => by cases e), hcap⟩

/-- A slice of bytes that is handed in. -/
def BRow (w : World) (a : Option Addr) (n : Nat) : Prop := n = 0 ∨ ∃ q off, a = some ⟨q, off, none⟩ ∧ q < w.heap.size ∧ ∀ j, j < n → ∃ x : Int, w.cell? ⟨q, off + j, none⟩ = some (.int .u8 x) ∧ 0 ≤ x ∧ x < 256

theorem BRow.below {w w' : World} {a : Option Addr} {n : Nat} (h : BRow w a n) (hb : Below w.heap.size w w') : BRow w' a n := by
  rcases h with h | ⟨q, off, ha, hq, hx⟩
  · exact .inl h
  · refine .inr ⟨q, off, ha, Nat.lt_of_lt_of_le hq hb.size, fun j hj => ?_⟩
    obtain ⟨x, h1, h2⟩ := hx j hj
    exact ⟨x, (hb.cell (p := ⟨q, off + j, none⟩) hq).trans h1, h2⟩

set_option maxRecDepth 20000 in
set_option maxHeartbeats 4000000 in
theorem fnLog_walk (a : Option Addr) (n c : Nat) (w : World) (hn : n ≤ maxLen) (hb : BRow w a n) (hc : n ≤ c) :
    Calls Try.prog 10 #[.slice a n c] w fun e w' => e = .returned (.bool true) ∧ Below w.heap.size w w' := by
  by_cases hbig : 1048576 < n
  · have hd : decide ((1048576 : Int) < (n : Int)) = true := by simp; omega
    go_enter Try.func10, Try.ntmps10
    go_wp2
    go_ret
    exact ⟨rfl, Below.refl _ _⟩
  have hd : decide ((1048576 : Int) < (n : Int)) = false := by simp; omega
  have HB : Hid _ := hb
  clear hb
  go_enter Try.func10, Try.ntmps10
  go_wp2_with fail
  refine (drawAppend_any a n c w hn HB.out hc).mono ?_
  rintro e w1 ⟨v, u, x, ss, tt, rfl, ov, ou, hlen, hsz, ⟨en, rfl, hen⟩, hb1⟩
  obtain ⟨av, cv, rfl, hr1, nv, _⟩ := own_sliceO ov
  obtain ⟨au, cu, rfl, hq1, nu, _⟩ := own_sliceO ou
  obtain ⟨W1, hW1⟩ : ∃ W, W = w1.alloc (.cells #[.slice av ss.length cv, .slice au tt.length cu] 40) := ⟨_, rfl⟩
  have h11 : Below w1.heap.size w1 W1 := by rw [hW1]; exact (Below.refl _ _).alloc (Nat.le_refl _) _
  have s1 : W1.heap.size = w1.heap.size + 1 := by rw [hW1]; simp
  have p1 : LBox W1 w1.heap.size (.slice av ss.length cv) (.slice au tt.length cu) := by rw [hW1]; exact LBox.new _ _ _ _
  have hB1 := hb1.trans (h11.mono hb1.size)
  have HR : Hid _ := And.intro (hr1.below' h11) (hq1.below' h11)
  have HN : Hid _ := And.intro nv nu
  have HW1 : Hid _ := hW1
  have hss : ∀ s ∈ ss, s.size ≤ 1048576 := fun s hs => by have := hsz s (List.mem_append_left _ hs); omega
  have htt : ∀ s ∈ tt, s.size ≤ 1048576 := fun s hs => by have := hsz s (List.mem_append_right _ hs); omega
  have HZ : Hid _ := And.intro hss htt
  clear hW1 h11 hb1 hr1 hq1 ov ou nv nu hss htt hsz
  go_wp2_with fail
  rw [← HW1.out]
  refine (drawCrash_any a n c W1 hn (BRow.below HB.out hB1) hc).mono ?_
  rintro e w2 ⟨v', u', x', ss', tt', rfl, ov, ou, hlen', hsz', ⟨keep, rfl, hk1, hk2⟩, hb2⟩
  obtain ⟨av', cv', rfl, _⟩ := own_slice ov
  obtain ⟨au', cu', rfl, _⟩ := own_slice ou
  obtain ⟨W2, hW2⟩ : ∃ W, W = w2.alloc (.cells #[.slice av' ss'.length cv', .slice au' tt'.length cu'] 40) := ⟨_, rfl⟩
  have h22 : Below w2.heap.size w2 W2 := by rw [hW2]; exact (Below.refl _ _).alloc (Nat.le_refl _) _
  have s2 : W2.heap.size = w2.heap.size + 1 := by rw [hW2]; simp
  have h12 := hb2.trans (h22.mono hb2.size)
  obtain ⟨p0, p1, pl⟩ := p1.below h12
  have hB2 := hB1.trans (h12.mono hB1.size)
  have HR : Hid _ := And.intro (HR.out.1.below' h12) (HR.out.2.below' h12)
  have HW2 : Hid _ := hW2
  clear hW2 h22 h12 hb2 hsz' hlen' ov ou HB HW1
  go_upto_region 5 with fail
  rw [← HW2.out]
  go_wp2_with fail
  refine (iAppend_any av au cv cu ss tt en W2 HR.out.1 HR.out.2 (by omega) (by omega) HZ.out.1 HZ.out.2).mono ?_
  rintro e w3 ⟨v3, u3, rfl, ov3, ou3, hap3, hb3⟩
  obtain ⟨a3, c3, rfl, hr3, nv3, _⟩ := own_sliceO ov3
  obtain ⟨b3, d3, rfl, hq3, nu3, cap3⟩ := own_sliceO ou3
  obtain ⟨W3, hW3⟩ : ∃ W, W = w3.alloc (.cells #[.slice a3 (apS ss tt en).length c3, .slice b3 (apL ss tt en).length d3] 40) := ⟨_, rfl⟩
  have h33 : Below w3.heap.size w3 W3 := by rw [hW3]; exact (Below.refl _ _).alloc (Nat.le_refl _) _
  have s3 : W3.heap.size = w3.heap.size + 1 := by rw [hW3]; simp
  have x3 : LBox W3 w3.heap.size (.slice a3 (apS ss tt en).length c3) (.slice b3 (apL ss tt en).length d3) := by rw [hW3]; exact LBox.new _ _ _ _
  have h23 := hb3.trans (h33.mono hb3.size)
  have z3 := h23.size
  obtain ⟨p0, p1, pl⟩ := LBox.below ⟨p0, p1, pl⟩ h23
  have hB3 := hB2.trans (h23.mono hB2.size)
  have HR : Hid _ := And.intro (HR.out.1.below' h23) (HR.out.2.below' h23)
  have HX : Hid _ := And.intro (hr3.below' h33) (And.intro (hq3.below' h33) (And.intro nv3 nu3))
  have HW3 : Hid _ := hW3
  clear hW3 h33 h23 hb3 ov3 ou3 hap3 hr3 hq3 nv3 nu3 HW2
  go_upto_region 6 with fail
  rw [← HW3.out]
  go_wp2_with fail
  refine (sAppend_anyO av au cv cu ss tt en W3 HR.out.1 HR.out.2 HN.out.1 HN.out.2 (by omega) (by omega) HZ.out.1 HZ.out.2).mono ?_
  rintro e w4 ⟨v4, u4, rfl, ov4, ou4, hb4⟩
  obtain ⟨a4, c4, rfl, hr4⟩ := own_slice ov4
  obtain ⟨b4, d4, rfl, hq4⟩ := own_slice ou4
  obtain ⟨W4, hW4⟩ : ∃ W, W = w4.alloc (.cells #[.slice a4 (apS ss tt en).length c4, .slice b4 (apL ss tt en).length d4] 40) := ⟨_, rfl⟩
  have h44 : Below w4.heap.size w4 W4 := by rw [hW4]; exact (Below.refl _ _).alloc (Nat.le_refl _) _
  have s4 : W4.heap.size = w4.heap.size + 1 := by rw [hW4]; simp
  obtain ⟨y0, y1, yl⟩ : LBox W4 w4.heap.size (.slice a4 (apS ss tt en).length c4) (.slice b4 (apL ss tt en).length d4) := by rw [hW4]; exact LBox.new _ _ _ _
  have h34 := hb4.trans (h44.mono hb4.size)
  have z4 := h34.size
  obtain ⟨p0, p1, pl⟩ := LBox.below ⟨p0, p1, pl⟩ h34
  obtain ⟨x0, x1, xl⟩ := x3.below h34
  have hB4 := hB3.trans (h34.mono hB3.size)
  have HR : Hid _ := And.intro (HR.out.1.below' h34) (HR.out.2.below' h34)
  have HX : Hid _ := And.intro (HX.out.1.below' h34) (And.intro (HX.out.2.1.below' h34) HX.out.2.2)
  have HY : Hid _ := And.intro (hr4.below' h44) (hq4.below' h44)
  have HW4 : Hid _ := hW4
  have la := apS_len ss tt en
  have lb := apL_len ss tt en
  clear hW4 h44 h34 hb4 ov4 ou4 hr4 hq4 HW3 x3
  go_upto_region 7 with fail
  rw [← HW4.out]
  go_wp2_with fail
  refine (wList_yes _ _ _ _ (apS ss tt en) W4 _ _ HX.out.1 HY.out.1 (by omega)).mono ?_
  rintro e w5 ⟨rfl, n5, rfl⟩
  go_wp2_with fail
  refine (wList_yes _ _ _ _ (apL ss tt en) _ _ _ (HX.out.2.1.below (belowN (Below.refl _ _) n5)) (HY.out.2.below (belowN (Below.refl _ _) n5)) (by omega)).mono ?_
  rintro e w6 ⟨rfl, n6, rfl⟩
  have h46 : Below W4.heap.size W4 ((W4.drewN n5).drewN n6) := belowN (belowN (Below.refl _ _) n5) n6
  obtain ⟨V, hV⟩ : ∃ V, V = (W4.drewN n5).drewN n6 := ⟨_, rfl⟩
  rw [← hV] at h46 ⊢
  have zV := h46.size
  obtain ⟨p0, p1, pl⟩ := LBox.below ⟨p0, p1, pl⟩ h46
  obtain ⟨x0, x1, xl⟩ := LBox.below ⟨x0, x1, xl⟩ h46
  have hB5 := hB4.trans (h46.mono hB4.size)
  have HR : Hid _ := And.intro (HR.out.1.below' h46) (HR.out.2.below' h46)
  have HX : Hid _ := And.intro (HX.out.1.below' h46) (And.intro (HX.out.2.1.below' h46) HX.out.2.2)
  clear hV h46 HY y0 y1 yl HW4
  by_cases h0 : apCode ss tt en = 0
  · obtain ⟨hok0, hen0, hlen0⟩ := ap_zero h0
    have hok := okLog_ap hok0 hen0 hlen0
    have eS : apS ss tt en = ss := by unfold apS; rw [if_pos h0]
    have eL : apL ss tt en = tt ++ [en] := by unfold apL; rw [if_pos h0]
    obtain ⟨D, hD⟩ : ∃ D, D = tt ++ [en] := ⟨_, rfl⟩
    rw [← hD] at eL hok
    have lD : D.length ≤ 4000 := by rw [← eL]; exact lb
    have szD : ∀ s ∈ D, s.size ≤ 1048576 := by
      rw [hD]; intro s hs
      rcases List.mem_append.1 hs with hs | hs
      · exact HZ.out.2 s hs
      · simp at hs; subst hs; omega
    have HZD : Hid _ := szD
    rw [eS] at x0
    rw [eL] at x1 cap3
    rw [eS, eL] at HX
    have HOK : Hid _ := hok
    simp only [h0]
    clear szD hD lb la eS eL hok hok0
    go_wp2_with fail
    refine (iCrash_any a3 b3 c3 d3 ss D keep V HX.out.1 HX.out.2.1 (by omega) (by omega) HZ.out.1 HZD.out cap3).mono ?_
    rintro e w7 ⟨v7, rfl, ov7, hb7⟩
    obtain ⟨a7, c7, rfl, hr7⟩ := own_slice ov7
    have HYL : Hid _ := And.intro (crash_len HOK.out keep) (crash_pre HOK.out keep)
    generalize crashL ss D keep = Y at *
    obtain ⟨W7, hW7⟩ : ∃ W, W = w7.alloc (.cells #[.slice a7 Y.length c7, .slice none 0 0] 40) := ⟨_, rfl⟩
    have h7a : Below w7.heap.size w7 W7 := by rw [hW7]; exact (Below.refl _ _).alloc (Nat.le_refl _) _
    have e7 : W7.heap.size = w7.heap.size + 1 := by rw [hW7]; simp
    have h7b := hb7.trans (h7a.mono hb7.size)
    have z7 := h7b.size
    obtain ⟨p0, p1, pl⟩ := LBox.below ⟨p0, p1, pl⟩ h7b
    obtain ⟨x0, x1, xl⟩ := LBox.below ⟨x0, x1, xl⟩ h7b
    have hB7 := hB5.trans (h7b.mono hB5.size)
    have HR : Hid _ := And.intro (HR.out.1.below' h7b) (HR.out.2.below' h7b)
    have HX : Hid _ := And.intro (HX.out.1.below' h7b) (And.intro (HX.out.2.1.below' h7b) HX.out.2.2)
    have HW7 : Hid _ := hW7
    obtain ⟨y0, y1, yl⟩ : LBox W7 w7.heap.size (.slice a7 Y.length c7) (.slice none 0 0) := by rw [hW7]; exact LBox.new _ _ _ _
    have HY : Hid _ := hr7.below' h7a
    clear hW7 h7a h7b hb7 hr7 ov7
    go_upto_region 12 with fail
    rw [← HW7.out]
    go_wp2_with fail
    refine (iSync_any a3 b3 c3 d3 ss D W7 HX.out.1 HX.out.2.1 (by omega) (by omega) HZ.out.1 HZD.out cap3).mono ?_
    rintro e w8 ⟨v8, rfl, ov8, hb8⟩
    rw [crash_sync HOK.out] at ov8
    have HOZ : Hid _ := okLog_sync HOK.out
    have HQ : Hid _ := crash_synced HOK.out keep
    obtain ⟨Z, hZ⟩ : ∃ Z, Z = ss ++ D := ⟨_, rfl⟩
    have lZ : Z.length = ss.length + D.length := by rw [hZ]; simp
    rw [← hZ] at ov8 HOZ HQ HYL
    have hsZ : ∀ s ∈ Z, s.size ≤ 1048576 := by
      rw [hZ]; intro s hs
      rcases List.mem_append.1 hs with hs | hs
      · exact HZ.out.1 s hs
      · exact HZD.out s hs
    obtain ⟨a8, c8, rfl, hr8⟩ := own_slice ov8
    obtain ⟨W8, hW8⟩ : ∃ W, W = w8.alloc (.cells #[.slice a8 Z.length c8, .slice none 0 0] 40) := ⟨_, rfl⟩
    have h8a : Below w8.heap.size w8 W8 := by rw [hW8]; exact (Below.refl _ _).alloc (Nat.le_refl _) _
    have e8 : W8.heap.size = w8.heap.size + 1 := by rw [hW8]; simp
    have h8b := hb8.trans (h8a.mono hb8.size)
    have z8 := h8b.size
    obtain ⟨p0, p1, pl⟩ := LBox.below ⟨p0, p1, pl⟩ h8b
    obtain ⟨x0, x1, xl⟩ := LBox.below ⟨x0, x1, xl⟩ h8b
    have hB8 := hB7.trans (h8b.mono hB7.size)
    have HR : Hid _ := And.intro (HR.out.1.below' h8b) (HR.out.2.below' h8b)
    have HX : Hid _ := And.intro (HX.out.1.below' h8b) (And.intro (HX.out.2.1.below' h8b) HX.out.2.2)
    have HW8 : Hid _ := hW8
    obtain ⟨u0, u1, ul⟩ : LBox W8 w8.heap.size (.slice a8 Z.length c8) (.slice none 0 0) := by rw [hW8]; exact LBox.new _ _ _ _
    obtain ⟨y0, y1, yl⟩ := LBox.below ⟨y0, y1, yl⟩ h8b
    have HY : Hid _ := SRow.below' HY.out h8b
    have HU : Hid _ := hr8.below' h8a
    have HsZ : Hid _ := hsZ
    have HZe : Hid _ := hZ
    have HlZ : Hid _ := lZ
    have lZ' : Z.length ≤ 8020 := by omega
    clear hW8 h8a h8b hb8 hr8 ov8 hsZ hZ lZ HW7
    go_upto_region 13 with fail
    rw [← HW8.out]
    go_wp2_with fail
    refine (iCrash_any a8 none c8 0 Z [] keep W8 HU.out (.inl rfl) (by omega) (by simp) HsZ.out (by simp) (by simp)).mono ?_
    rintro e w9 ⟨v9, rfl, ov9, hb9⟩
    rw [HQ.out] at ov9
    obtain ⟨a9, c9, rfl, hr9⟩ := own_slice ov9
    obtain ⟨W9, hW9⟩ : ∃ W, W = w9.alloc (.cells #[.slice a9 Z.length c9, .slice none 0 0] 40) := ⟨_, rfl⟩
    have h9a : Below w9.heap.size w9 W9 := by rw [hW9]; exact (Below.refl _ _).alloc (Nat.le_refl _) _
    have e9 : W9.heap.size = w9.heap.size + 1 := by rw [hW9]; simp
    have h9b := hb9.trans (h9a.mono hb9.size)
    have z9 := h9b.size
    obtain ⟨p0, p1, pl⟩ := LBox.below ⟨p0, p1, pl⟩ h9b
    obtain ⟨x0, x1, xl⟩ := LBox.below ⟨x0, x1, xl⟩ h9b
    have hB9 := hB8.trans (h9b.mono hB8.size)
    have HR : Hid _ := And.intro (HR.out.1.below' h9b) (HR.out.2.below' h9b)
    have HX : Hid _ := And.intro (HX.out.1.below' h9b) (And.intro (HX.out.2.1.below' h9b) HX.out.2.2)
    have HW9 : Hid _ := hW9
    obtain ⟨t0, t1, tl⟩ : LBox W9 w9.heap.size (.slice a9 Z.length c9) (.slice none 0 0) := by rw [hW9]; exact LBox.new _ _ _ _
    obtain ⟨y0, y1, yl⟩ := LBox.below ⟨y0, y1, yl⟩ h9b
    obtain ⟨u0, u1, ul⟩ := LBox.below ⟨u0, u1, ul⟩ h9b
    have HY : Hid _ := SRow.below' HY.out h9b
    have HU : Hid _ := SRow.below' HU.out h9b
    have HT : Hid _ := hr9.below' h9a
    clear hW9 h9a h9b hb9 hr9 ov9 HW8 e9 e8 e7 s1 s2 s3 s4
    go_upto_region 14 with fail
    rw [← HW9.out]
    go_cut [14] (fun v wx => ∃ (k11 cap11 : Nat), v = .slice (some ⟨k11, 0, none⟩) Z.length cap11 ∧ Z.length ≤ cap11 ∧ Hid (SRow wx wx.heap.size (some ⟨k11, 0, none⟩) Z) ∧ Below W9.heap.size W9 wx)
    case first =>
      have cA := (Below.refl W9.heap.size W9).alloc (Nat.le_refl _) (.cells #[] 9)
      obtain ⟨pA0, pA1, _⟩ := LBox.below ⟨p0, p1, pl⟩ cA
      obtain ⟨xA0, xA1, _⟩ := LBox.below ⟨x0, x1, xl⟩ cA
      have oA : (W9.alloc (.cells #[] 9)).drew.ownsRow W9.heap.size 9 1 (.slice (some ⟨W9.heap.size, 0, none⟩) 0 0) 0 (([] : List ByteArray).map Value.string) := World.ownsRow_lit W9 #[] 0 (Nat.le_refl _) (by unfold maxLen; omega) rfl
      have rA := (SRow.below' HR.out.1 cA.drew).cellsO
      obtain ⟨i0, hi, hz0, hz1, hz2⟩ := info_parts Try.infoStr
      go_region_law (first
        | (guard_target = if Region.wanted _ _ = true then Oper.wp _ _ _ (W9.alloc (.cells #[] 9)).drew _ _ else _; refine step_append_rowO (W9.alloc (.cells #[] 9)).drew rfl (.tmp 74) (.tmp 76) 24 rfl W9.heap.size 9 i0 (.string ⟨#[]⟩) 16 Try.underlying24 hi hz0 hz1 hz2 rfl W9.heap.size 0 0 [] rfl oA av ss.length cv ss rfl rfl HN.out.1 rA (by unfold maxLen; omega) (by omega) (by simp) ?_; intro k10 cap10 w10 ho10 hg10 hat10 hlt10; simp only [Nat.zero_add, List.nil_append] at ho10; have tag10 := hlt10; have k10b : Below W9.heap.size W9 w10 := cA.drew.grown hg10 (by simp) (fun j hj => by cases hj; exact Nat.le_refl _); have pp := (LBox.below ⟨p0, p1, pl⟩ k10b : LBox w10 _ _ _); have xx := (LBox.below ⟨x0, x1, xl⟩ k10b : LBox w10 _ _ _); have pq0 := pp.1; have pq1 := pp.2.1; have xq0 := xx.1; have xq1 := xx.2.1)
        | (have tagged := tag10; refine step_append_rowO w10 rfl (.tmp 77) (.tmp 79) 24 rfl W9.heap.size 9 i0 (.string ⟨#[]⟩) 16 Try.underlying24 hi hz0 hz1 hz2 rfl k10 ss.length cap10 ss rfl ho10 b3 D.length d3 D rfl rfl HX.out.2.2.2 (SRow.below' HX.out.2.1 k10b).cellsO (by unfold maxLen; omega) (by omega) k10b.size ?_; intro k11 cap11 w11 ho11 hg11 hat11 hlt11; have k11b : Below W9.heap.size W9 w11 := k10b.grown hg11 k10b.size (fun j hj => by cases hj; exact (ho10.lt k10 rfl).1)))
      all_goals
        rw [← HZe.out, ← HlZ.out] at ho11
        have capZ : Z.length ≤ cap11 := by
          rcases ho11.2 with ⟨hv, _⟩ | ⟨g, cap, cur, hv, _, _, hcap, _⟩
          · cases hv
          · cases hv; exact hcap
        go_wp2_with fail
        go_meet
        exact ⟨k11, cap11, by rw [HlZ.out], capZ, SRow.own ho11, k11b⟩
    case rest =>
    revert wc
    intro w11 hcut
    obtain ⟨k11, cap11, rfl, capZ, HA, k11b⟩ := hcut
    obtain ⟨y0, y1, yl⟩ := LBox.below ⟨y0, y1, yl⟩ k11b
    obtain ⟨u0, u1, ul⟩ := LBox.below ⟨u0, u1, ul⟩ k11b
    obtain ⟨t0, t1, tl⟩ := LBox.below ⟨t0, t1, tl⟩ k11b
    obtain ⟨p0, p1, pl⟩ := LBox.below ⟨p0, p1, pl⟩ k11b
    obtain ⟨x0, x1, xl⟩ := LBox.below ⟨x0, x1, xl⟩ k11b
    have HY : Hid _ := SRow.below' HY.out k11b
    have HU : Hid _ := SRow.below' HU.out k11b
    have HT : Hid _ := SRow.below' HT.out k11b
    have hBB := hB9.trans (k11b.mono hB9.size)
    have lY1 : ss.length ≤ Y.length := by have := HYL.out.1; omega
    have lY2 : Y.length ≤ Z.length := by have := HYL.out.1; have := HlZ.out; omega
    have g1 : decide ((Y.length : Int) < (ss.length : Int)) = false := by simp; omega
    have g2 : decide ((Z.length : Int) < (Y.length : Int)) = false := by simp; omega
    clear k11b
    go_wp2_with fail
    refine (wList_yes a8 _ _ _ Z w11 _ _ HU.out HA.out (by omega)).mono ?_
    rintro e w12 ⟨rfl, n12, rfl⟩
    go_wp2_with fail
    refine (wList_yes a9 _ _ _ Z _ _ _ (SRow.below HT.out (belowN (Below.refl _ _) n12)) (SRow.below HA.out (belowN (Below.refl _ _) n12)) (by omega)).mono ?_
    rintro e w13 ⟨rfl, n13, rfl⟩
    have h13 : Below w11.heap.size w11 ((w11.drewN n12).drewN n13) := belowN (belowN (Below.refl _ _) n12) n13
    obtain ⟨U, hU⟩ : ∃ U, U = (w11.drewN n12).drewN n13 := ⟨_, rfl⟩
    rw [← hU] at h13 ⊢
    obtain ⟨y0, y1, yl⟩ := LBox.below ⟨y0, y1, yl⟩ h13
    obtain ⟨p0, p1, pl⟩ := LBox.below ⟨p0, p1, pl⟩ h13
    obtain ⟨x0, x1, xl⟩ := LBox.below ⟨x0, x1, xl⟩ h13
    have hBU := hBB.trans (h13.mono hBB.size)
    have HY : Hid _ := SRow.below' HY.out h13
    have HA : Hid (SRow U U.heap.size (some ⟨k11, 0, none⟩) Y) := by
      have := SRow.take (SRow.below' HA.out h13) Y.length
      rw [HYL.out.2] at this
      exact this
    have HWL : Hid (∀ m : Cls U, Calls Try.prog 43 #[.slice a7 Y.length c7, .slice (some ⟨k11, 0, none⟩) Y.length cap11] m.w fun e w' => e = .returned (.bool true) ∧ Below m.w.heap.size m.w w') := fun m =>
      (wList_yes a7 _ c7 cap11 Y m.w _ _ (SRow.below' HY.out m.h) (SRow.below' HA.out m.h) (by omega)).mono (by rintro e w' ⟨rfl, nn, rfl⟩; exact ⟨rfl, belowN (Below.refl _ _) nn⟩)
    clear hU h13
    have q1 := Cls.cell y0 yl
    have q2 := Cls.cell x1 xl
    have q3 := Cls.cell p0 pl
    have hne := Cls.ne U
    have hYc : Y.length ≤ cap11 := by omega
    have HY1 : Hid _ := HYL.out.1
    by_cases hk0 : keep < 0
    · have d0 : decide (keep < 0) = true := by simpa using hk0
      go_wp2
      refine region_cls_lit (by kernel_rfl) (by kernel_rfl) ?_
      repeat (go_big_quiet_step (exact Cls.calls (HWL.out _)))
      refine wpQuiet_nil ?_
      intro m
      clear q1 q2 q3 y0 y1 p0 p1 x0 x1
      go_wp2
      go_ret
      exact ⟨rfl, hBU.trans (m.h.mono hBU.size)⟩
    · have d0 : decide (keep < 0) = false := by simpa using hk0
      by_cases hkD : (D.length : Int) < keep
      · have d1 : decide ((D.length : Int) < keep) = true := by simpa using hkD
        go_wp2
        refine region_cls_lit (by kernel_rfl) (by kernel_rfl) ?_
        repeat (go_big_quiet_step (exact Cls.calls (HWL.out _)))
        refine wpQuiet_nil ?_
        intro m
        clear q1 q2 q3 y0 y1 p0 p1 x0 x1
        go_wp2
        go_ret
        exact ⟨rfl, hBU.trans (m.h.mono hBU.size)⟩
      · have d1 : decide ((D.length : Int) < keep) = false := by simpa using hkD
        have d2 : ((Y.length : Int) == (ss.length : Int) + keep) = true := by have := HY1.out; simp; omega
        have d3' : IntKind.i64.wrap ((ss.length : Int) + keep) = (ss.length : Int) + keep := dr_wrap' (by omega) (by omega)
        go_wp2
        refine region_cls_lit (by kernel_rfl) (by kernel_rfl) ?_
        repeat (go_big_quiet_step (exact Cls.calls (HWL.out _)))
        refine wpQuiet_nil ?_
        intro m
        clear q1 q2 q3 y0 y1 p0 p1 x0 x1
        go_wp2
        go_ret
        exact ⟨rfl, hBU.trans (m.h.mono hBU.size)⟩
  · have q0 : (apCode ss tt en == 0) = false := by simpa using h0
    have q1 : (apCode ss tt en != 0) = true := by simpa using h0
    have c0 := Cls.cell p0 pl
    have c1 := Cls.cell p1 pl
    have hne := Cls.ne V
    have HV : Hid (∀ m : Cls V, Calls Try.prog 31 #[.agg #[.slice av ss.length cv, .slice au tt.length cu]] m.w fun e w' => e = .returned (.bool (okLog ss tt)) ∧ Below m.w.heap.size m.w w') := fun m => iValidLog_any av au cv cu ss tt m.w (HR.out.1.below' m.h) (HR.out.2.below' m.h) (by omega) (by omega) HZ.out.1 HZ.out.2
    have HS : Hid (∀ m : Cls V, Calls Try.prog 29 #[.agg #[.slice av ss.length cv, .slice au tt.length cu]] m.w fun e w' => e = .returned (.bool (okLog ss tt)) ∧ Below m.w.heap.size m.w w') := fun m => sValidLog_any av au cv cu ss tt m.w m.w.heap.size (Nat.le_refl _) (HR.out.1.below' m.h) (HR.out.2.below' m.h) (by omega) (by omega) HZ.out.1 HZ.out.2
    go_wp2
    refine region_cls_lit (by kernel_rfl) (by kernel_rfl) ?_
    repeat (go_big_quiet_step (first | exact Cls.calls (HV.out _) | exact Cls.calls (HS.out _)))
    refine wpQuiet_nil ?_
    intro m
    clear c0 c1 p0 p1 x0 x1
    go_wp2
    go_ret
    exact ⟨by simp, hB5.trans (m.h.mono hB5.size)⟩
end Go.Proofs.Ytdecihmplkgfkaa
