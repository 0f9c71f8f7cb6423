import Derived.Test.YthkmpihfhkmaoaaGreatU18
import Derived.Test.YthkmpihfhkmaoaaGreatU16
import Derived.Test.YthkmpihfhkmaoaaGreatU13
/-
  Marks written into rows of pins and leases, and read again; rows without elements.
-/
namespace Go.Proofs.YthkmpihfhkmaoaaGreat
open Go.ChangeShapes Go.WideShapes Go.ChangeAt Go.RowKit

def markP (k : Nat) (ps : List Pd) : List Pd := (List.range ps.length).map fun i => ⟨mkT (k + i * 2), mkT (k + i * 2 + 1)⟩
def markL (k : Nat) (ls : List Ld) : List Ld := (List.range ls.length).map fun (i : Nat) => ⟨(k : Int) + (i : Int) * 3, mkT (k + i * 3 + 1), (k : Int) + (i : Int) * 3 + 1 + 1⟩

theorem markP_length (k : Nat) (ps : List Pd) : (markP k ps).length = ps.length := by simp [markP]
theorem markL_length (k : Nat) (ls : List Ld) : (markL k ls).length = ls.length := by simp [markL]
theorem markP_get {k i : Nat} {ps : List Pd} (h : i < ps.length) : (markP k ps)[i]? = some ⟨mkT (k + i * 2), mkT (k + i * 2 + 1)⟩ := by simp [markP, h]
theorem markL_get {k i : Nat} {ps : List Ld} (h : i < ps.length) : (markL k ps)[i]? = some ⟨(k : Int) + (i : Int) * 3, mkT (k + i * 3 + 1), (k : Int) + (i : Int) * 3 + 1 + 1⟩ := by simp [markL, h]

theorem row_setP : ∀ {zs : List Pd} {i : Nat}, i < zs.length → ∀ y : Pd, ((rowC pC zs).set (i * 2) (.string y.name)).set (i * 2 + 1) (.string y.sum) = rowC pC (zs.set i y)
  | [], i, h, _ => by simp at h
  | z :: zs, 0, h, y => by simp [rowC, pC]
  | z :: zs, i + 1, h, y => by
    have ih := row_setP (zs := zs) (i := i) (by simpa using h) y
    have e : rowC pC (z :: zs) = pC z ++ rowC pC zs := by simp [rowC]
    have e2 : rowC pC ((z :: zs).set (i + 1) y) = pC z ++ rowC pC (zs.set i y) := by simp [rowC]
    rw [e, e2, ← ih, show (i + 1) * 2 = (pC z).length + i * 2 by rw [pC_len]; omega]
    rw [List.set_append_right _ _ (by omega), Nat.add_sub_cancel_left, show (pC z).length + i * 2 + 1 = (pC z).length + (i * 2 + 1) by omega, List.set_append_right _ _ (by omega), Nat.add_sub_cancel_left]

theorem row_setL : ∀ {zs : List Ld} {i : Nat}, i < zs.length → ∀ y : Ld, (((rowC lC zs).set (i * 3) (.int .i64 y.num)).set (i * 3 + 1) (.string y.sum)).set (i * 3 + 2) (.int .i64 y.til) = rowC lC (zs.set i y)
  | [], i, h, _ => by simp at h
  | z :: zs, 0, h, y => by simp [rowC, lC]
  | z :: zs, i + 1, h, y => by
    have ih := row_setL (zs := zs) (i := i) (by simpa using h) y
    have e : rowC lC (z :: zs) = lC z ++ rowC lC zs := by simp [rowC]
    have e2 : rowC lC ((z :: zs).set (i + 1) y) = lC z ++ rowC lC (zs.set i y) := by simp [rowC]
    rw [e, e2, ← ih, show (i + 1) * 3 = (lC z).length + i * 3 by rw [lC_len]; omega]
    rw [List.set_append_right _ _ (by omega), Nat.add_sub_cancel_left, show (lC z).length + i * 3 + 1 = (lC z).length + (i * 3 + 1) by omega, List.set_append_right _ _ (by omega), Nat.add_sub_cancel_left, show (lC z).length + i * 3 + 2 = (lC z).length + (i * 3 + 2) by omega, List.set_append_right _ _ (by omega), Nat.add_sub_cancel_left]

set_option maxHeartbeats 400000 in
theorem markKeptS_zero (a : Option Addr) (cap k : Nat) (w : World) : Calls Tryz.prog 50 #[.slice a 0 cap, .int .i64 k] w fun e w' => e = .returned (.int .i64 k) ∧ w' = w := by
  go_enter Tryz.func50, Tryz.ntmps50
  go_wp2
  go_loopw [1, 5] (fun v i wr => v = .int .i64 k ∧ i = .int .i64 0 ∧ wr = w) (fun _ _ _ => 0)
  case atStart => exact ⟨rfl, rfl, rfl⟩
  case round =>
    obtain ⟨rfl, rfl, rfl⟩ := hrel
    go_wp2
    go_ret
    exact ⟨rfl, rfl⟩

set_option maxHeartbeats 400000 in
theorem heldKeptS_zero (a : Option Addr) (cap k : Nat) (w : World) : Calls Tryz.prog 109 #[.slice a 0 cap, .int .i64 k] w fun e w' => e = .returned (.int .i64 k) ∧ w' = w := by
  go_enter Tryz.func109, Tryz.ntmps109
  go_wp2
  go_loopw [1, 5] (fun v i wr => v = .int .i64 k ∧ i = .int .i64 0 ∧ wr = w) (fun _ _ _ => 0)
  case atStart => exact ⟨rfl, rfl, rfl⟩
  case round =>
    obtain ⟨rfl, rfl, rfl⟩ := hrel
    go_wp2
    go_ret
    exact ⟨rfl, rfl⟩

set_option maxHeartbeats 400000 in
theorem markPinS_zero (a : Option Addr) (cap k : Nat) (w : World) : Calls Tryz.prog 51 #[.slice a 0 cap, .int .i64 k] w fun e w' => e = .returned (.int .i64 k) ∧ w' = w := by
  go_enter Tryz.func51, Tryz.ntmps51
  go_wp2
  go_loopw [1, 5] (fun v i wr => v = .int .i64 k ∧ i = .int .i64 0 ∧ wr = w) (fun _ _ _ => 0)
  case atStart => exact ⟨rfl, rfl, rfl⟩
  case round =>
    obtain ⟨rfl, rfl, rfl⟩ := hrel
    go_wp2
    go_ret
    exact ⟨rfl, rfl⟩

set_option maxHeartbeats 400000 in
theorem heldPinS_zero (a : Option Addr) (cap k : Nat) (w : World) : Calls Tryz.prog 110 #[.slice a 0 cap, .int .i64 k] w fun e w' => e = .returned (.int .i64 k) ∧ w' = w := by
  go_enter Tryz.func110, Tryz.ntmps110
  go_wp2
  go_loopw [1, 5] (fun v i wr => v = .int .i64 k ∧ i = .int .i64 0 ∧ wr = w) (fun _ _ _ => 0)
  case atStart => exact ⟨rfl, rfl, rfl⟩
  case round =>
    obtain ⟨rfl, rfl, rfl⟩ := hrel
    go_wp2
    go_ret
    exact ⟨rfl, rfl⟩

set_option maxHeartbeats 400000 in
theorem markLeaseS_zero (a : Option Addr) (cap k : Nat) (w : World) : Calls Tryz.prog 52 #[.slice a 0 cap, .int .i64 k] w fun e w' => e = .returned (.int .i64 k) ∧ w' = w := by
  go_enter Tryz.func52, Tryz.ntmps52
  go_wp2
  go_loopw [1, 5] (fun v i wr => v = .int .i64 k ∧ i = .int .i64 0 ∧ wr = w) (fun _ _ _ => 0)
  case atStart => exact ⟨rfl, rfl, rfl⟩
  case round =>
    obtain ⟨rfl, rfl, rfl⟩ := hrel
    go_wp2
    go_ret
    exact ⟨rfl, rfl⟩

set_option maxHeartbeats 400000 in
theorem heldLeaseS_zero (a : Option Addr) (cap k : Nat) (w : World) : Calls Tryz.prog 111 #[.slice a 0 cap, .int .i64 k] w fun e w' => e = .returned (.int .i64 k) ∧ w' = w := by
  go_enter Tryz.func111, Tryz.ntmps111
  go_wp2
  go_loopw [1, 5] (fun v i wr => v = .int .i64 k ∧ i = .int .i64 0 ∧ wr = w) (fun _ _ _ => 0)
  case atStart => exact ⟨rfl, rfl, rfl⟩
  case round =>
    obtain ⟨rfl, rfl, rfl⟩ := hrel
    go_wp2
    go_ret
    exact ⟨rfl, rfl⟩

set_option maxRecDepth 20000 in
set_option maxHeartbeats 2000000 in
theorem markPinX (base g cap k : Nat) (ps : List Pd) (w : World) (h : w.ownsRow base 104 2 (.slice (some ⟨g, 0, none⟩) ps.length cap) ps.length (rowC pC ps)) (hk : 1 ≤ k) (hkn : k + ps.length * 2 ≤ 100000000) :
    Calls Tryz.prog 51 #[.slice (some ⟨g, 0, none⟩) ps.length cap, .int .i64 k] w fun e w' => e = .returned (.int .i64 (k + ps.length * 2 : Nat)) ∧ w'.ownsRow base 104 2 (.slice (some ⟨g, 0, none⟩) ps.length cap) ps.length (rowC pC (markP k ps)) ∧ w.grownBy w' (some g) := by
  have H0 : Hid _ := h
  clear h
  go_enter Tryz.func51, Tryz.ntmps51
  go_wp2
  go_loopw [1, 5] (fun v i wr => ∃ (j K : Nat) (zs : List Pd), j ≤ ps.length ∧ i = .int .i64 j ∧ v = .int .i64 K ∧ K = k + j * 2 ∧ Hid (zs.length = ps.length ∧ (∀ i, i < j → zs[i]? = (markP k ps)[i]?) ∧ wr.ownsRow base 104 2 (.slice (some ⟨g, 0, none⟩) ps.length cap) ps.length (rowC pC zs) ∧ w.grownBy wr (some g))) (fun _ i _ => ps.length - (intOf i).toNat)
  case atStart => exact ⟨0, k, ps, Nat.zero_le _, rfl, rfl, by omega, rfl, (fun i h => by omega), H0.out, grown_refl _ _⟩
  case round =>
    clear H0
    obtain ⟨j, K, zs, hj, rfl, rfl, hK, HM⟩ := hrel
    by_cases hlt : j < ps.length
    · have hlt' : (j : Int) < ps.length := by omega
      have HX : Hid (j * 2 + 2 ≤ (rowC pC zs).length) := by show _ ≤ _; have := HM.out.2.2.1.1; omega
      have HKe : Hid _ := hK
      have hK1 : 1 ≤ K := by omega
      have hK2 : K + 2 ≤ 100000000 := by omega
      clear hK
      go_wp2_with fail
      refine (markText_at K _ _ rfl (by omega) (by omega)).mono ?_
      rintro e w2 ⟨rfl, hb2⟩
      have hxl := HX.out
      have h2 := own_below HM.out.2.2.1 hb2
      obtain ⟨v2, c2⟩ : ∃ v, w2.cell? ⟨g, j * 2, none⟩ = some v := ⟨_, (h2.cellAt (j * 2) (by omega)).trans (List.getElem?_eq_getElem (by omega))⟩
      have f2 := h2.frozenAt (j * 2)
      have H3 : Hid _ := And.intro (h2.stored (j * 2) (.string (mkT K))).1 (grown_trans HM.out.2.2.2 (grown_trans (grown_below _ hb2) (h2.stored (j * 2) (.string (mkT K))).2))
      clear h2 hb2 hxl
      go_wp2_with fail
      refine (markText_at (K + 1) _ _ (by omega) (by omega) (by omega)).mono ?_
      rintro e w3 ⟨rfl, hb3⟩
      have hxl := HX.out
      have h3 := own_below H3.out.1 hb3
      have hx3 : j * 2 + 2 ≤ ((rowC pC zs).set (j * 2) (.string (mkT K))).length := by simpa using hxl
      obtain ⟨v3, c3⟩ : ∃ v, w3.cell? ⟨g, j * 2 + 1, none⟩ = some v := ⟨_, (h3.cellAt (j * 2 + 1) (by omega)).trans (List.getElem?_eq_getElem (by omega))⟩
      have f3 := h3.frozenAt (j * 2 + 1)
      have hzl := HM.out.1
      have h4 := (h3.stored (j * 2 + 1) (.string (mkT (K + 1)))).1
      rw [row_setP (by omega) ⟨mkT K, mkT (K + 1)⟩] at h4
      have H4 : Hid _ := And.intro h4 (grown_trans H3.out.2 (grown_trans (grown_below _ hb3) (h3.stored (j * 2 + 1) (.string (mkT (K + 1)))).2))
      clear h3 h4 hb3 c2 f2 hxl hx3 hzl
      go_wp2
      refine ⟨⟨j + 1, K + 1 + 1, zs.set j ⟨mkT K, mkT (K + 1)⟩, by omega, by go_num, by go_num, by have := HKe.out; omega, by rw [List.length_set]; exact HM.out.1, ?_, H4.out.1, H4.out.2⟩, by simp [intOf]; omega⟩
      intro i hi
      rcases Nat.lt_or_ge i j with h' | h'
      · rw [List.getElem?_set_ne (by omega)]
        exact HM.out.2.1 i h'
      · obtain rfl : i = j := by omega
        rw [List.getElem?_set_self (by have := HM.out.1; omega), markP_get hlt, ← HKe.out]
    · obtain rfl : j = ps.length := by omega
      subst hK
      obtain ⟨z1, z2, z3, z4⟩ := HM.out
      have hze : zs = markP k ps := by
        apply List.ext_getElem?
        intro i
        rcases Nat.lt_or_ge i ps.length with h | h
        · exact z2 i h
        · rw [List.getElem?_eq_none (by omega), List.getElem?_eq_none (by rw [markP_length]; omega)]
      subst hze
      have HZ : Hid _ := And.intro z3 z4
      clear z1 z2 z3 z4 HM
      go_wp2
      go_ret
      exact ⟨rfl, HZ.out.1, HZ.out.2⟩

set_option maxRecDepth 20000 in
set_option maxHeartbeats 2000000 in
theorem markLeaseX (base g cap k : Nat) (ps : List Ld) (w : World) (h : w.ownsRow base 107 3 (.slice (some ⟨g, 0, none⟩) ps.length cap) ps.length (rowC lC ps)) (hk : 1 ≤ k) (hkn : k + ps.length * 3 ≤ 100000000) :
    Calls Tryz.prog 52 #[.slice (some ⟨g, 0, none⟩) ps.length cap, .int .i64 k] w fun e w' => e = .returned (.int .i64 (k + ps.length * 3 : Nat)) ∧ w'.ownsRow base 107 3 (.slice (some ⟨g, 0, none⟩) ps.length cap) ps.length (rowC lC (markL k ps)) ∧ w.grownBy w' (some g) := by
  have H0 : Hid _ := h
  clear h
  go_enter Tryz.func52, Tryz.ntmps52
  go_wp2
  go_loopw [1, 5] (fun v i wr => ∃ (j K : Nat) (zs : List Ld), j ≤ ps.length ∧ i = .int .i64 j ∧ v = .int .i64 K ∧ K = k + j * 3 ∧ Hid (zs.length = ps.length ∧ (∀ i, i < j → zs[i]? = (markL k ps)[i]?) ∧ wr.ownsRow base 107 3 (.slice (some ⟨g, 0, none⟩) ps.length cap) ps.length (rowC lC zs) ∧ w.grownBy wr (some g))) (fun _ i _ => ps.length - (intOf i).toNat)
  case atStart => exact ⟨0, k, ps, Nat.zero_le _, rfl, rfl, by omega, rfl, (fun i h => by omega), H0.out, grown_refl _ _⟩
  case round =>
    clear H0
    obtain ⟨j, K, zs, hj, rfl, rfl, hK, HM⟩ := hrel
    by_cases hlt : j < ps.length
    · have hlt' : (j : Int) < ps.length := by omega
      have HX : Hid (j * 3 + 3 ≤ (rowC lC zs).length) := by show _ ≤ _; have := HM.out.2.2.1.1; omega
      have HKe : Hid _ := hK
      have hK1 : 1 ≤ K := by omega
      have hK2 : K + 3 ≤ 100000000 := by omega
      clear hK
      have hxl := HX.out
      have h2 := HM.out.2.2.1
      obtain ⟨v2, c2⟩ : ∃ v, wr.cell? ⟨g, j * 3, none⟩ = some v := ⟨_, (h2.cellAt (j * 3) (by omega)).trans (List.getElem?_eq_getElem (by omega))⟩
      have f2 := h2.frozenAt (j * 3)
      have H3 : Hid _ := And.intro (h2.stored (j * 3) (.int .i64 K)).1 (grown_trans HM.out.2.2.2 (h2.stored (j * 3) (.int .i64 K)).2)
      clear h2 hxl
      go_wp2_with fail
      refine (markText_at (K + 1) _ _ (by omega) (by omega) (by omega)).mono ?_
      rintro e w3 ⟨rfl, hb3⟩
      have hxl := HX.out
      have h3 := own_below H3.out.1 hb3
      have hx3 : j * 3 + 3 ≤ ((rowC lC zs).set (j * 3) (.int .i64 K)).length := by simpa using hxl
      obtain ⟨v3, c3⟩ : ∃ v, w3.cell? ⟨g, j * 3 + 1, none⟩ = some v := ⟨_, (h3.cellAt (j * 3 + 1) (by omega)).trans (List.getElem?_eq_getElem (by omega))⟩
      have f3 := h3.frozenAt (j * 3 + 1)
      obtain ⟨v4, c4⟩ : ∃ v, w3.cell? ⟨g, j * 3 + 2, none⟩ = some v := ⟨_, (h3.cellAt (j * 3 + 2) (by omega)).trans (List.getElem?_eq_getElem (by omega))⟩
      have f4 := h3.frozenAt (j * 3 + 2)
      have hzl := HM.out.1
      have s4 := h3.stored (j * 3 + 1) (.string (mkT (K + 1)))
      have s5 := s4.1.stored (j * 3 + 2) (.int .i64 ((K : Int) + 1 + 1))
      have h5 := s5.1
      rw [row_setL (by omega) ⟨K, mkT (K + 1), (K : Int) + 1 + 1⟩] at h5
      have H4 : Hid _ := And.intro h5 (grown_trans H3.out.2 (grown_trans (grown_below _ hb3) (grown_trans s4.2 s5.2)))
      clear h3 h5 s4 s5 hb3 c2 f2 hxl hx3 hzl
      go_wp2
      refine ⟨⟨j + 1, K + 1 + 1 + 1, zs.set j ⟨K, mkT (K + 1), (K : Int) + 1 + 1⟩, by omega, by go_num, by go_num, by have := HKe.out; omega, by rw [List.length_set]; exact HM.out.1, ?_, H4.out.1, H4.out.2⟩, by simp [intOf]; omega⟩
      intro i hi
      rcases Nat.lt_or_ge i j with h' | h'
      · rw [List.getElem?_set_ne (by omega)]
        exact HM.out.2.1 i h'
      · obtain rfl : i = j := by omega
        rw [List.getElem?_set_self (by have := HM.out.1; omega), markL_get hlt, HKe.out]
        simp
    · obtain rfl : j = ps.length := by omega
      subst hK
      obtain ⟨z1, z2, z3, z4⟩ := HM.out
      have hze : zs = markL k ps := by
        apply List.ext_getElem?
        intro i
        rcases Nat.lt_or_ge i ps.length with h | h
        · exact z2 i h
        · rw [List.getElem?_eq_none (by omega), List.getElem?_eq_none (by rw [markL_length]; omega)]
      subst hze
      have HZ : Hid _ := And.intro z3 z4
      clear z1 z2 z3 z4 HM
      go_wp2
      go_ret
      exact ⟨rfl, HZ.out.1, HZ.out.2⟩

set_option maxRecDepth 20000 in
set_option maxHeartbeats 2000000 in
theorem heldPinX (base g cap k : Nat) (ps : List Pd) (w : World) (h : w.ownsRow base 104 2 (.slice (some ⟨g, 0, none⟩) ps.length cap) ps.length (rowC pC (markP k ps))) (hk : 1 ≤ k) (hkn : k + ps.length * 2 ≤ 100000000) :
    Calls Tryz.prog 110 #[.slice (some ⟨g, 0, none⟩) ps.length cap, .int .i64 k] w fun e w' => e = .returned (.int .i64 (k + ps.length * 2 : Nat)) ∧ Below w.heap.size w w' := by
  have H0 : Hid _ := h
  have hgl : g < w.heap.size := (own_lt h rfl).2
  clear h
  go_enter Tryz.func110, Tryz.ntmps110
  go_wp2
  go_loopw [1, 5] (fun v i wr => ∃ (j K : Nat), j ≤ ps.length ∧ i = .int .i64 j ∧ v = .int .i64 K ∧ K = k + j * 2 ∧ Below w.heap.size w wr) (fun _ i _ => ps.length - (intOf i).toNat)
  case atStart => exact ⟨0, k, Nat.zero_le _, rfl, rfl, by omega, Below.refl _ _⟩
  case round =>
    obtain ⟨j, K, hj, rfl, rfl, hK, hbel⟩ := hrel
    have hzr := hbel.size
    by_cases hlt : j < ps.length
    · have hlt' : (j : Int) < ps.length := by omega
      have h0 : w.ownsRow base 104 2 (.slice (some ⟨g, 0, none⟩) ps.length cap) ps.length (rowC pC (markP k ps)) := H0.out
      have hxl := h0.1
      have hgj := markP_get (k := k) hlt
      rw [← hK] at hgj
      have c0 : w.cell? ⟨g, j * 2, none⟩ = some (.string (mkT K)) := (h0.cellAt (j * 2) (by omega)).trans (row_get pC_len hgj (show 0 < 2 by decide))
      have c1 : w.cell? ⟨g, j * 2 + 1, none⟩ = some (.string (mkT (K + 1))) := (h0.cellAt (j * 2 + 1) (by omega)).trans (row_get pC_len hgj (show 1 < 2 by decide))
      have HKe : Hid _ := hK
      have hK1 : 1 ≤ K := by omega
      have hK2 : K + 2 ≤ 100000000 := by omega
      clear hK hxl hgj h0
      have y0 := (hbel.cell (p := ⟨g, j * 2, none⟩) hgl).trans c0
      have q0 := Cls.cell y0 (show g < wr.heap.size by omega)
      have hne := Cls.ne wr
      have HC0 : Hid (∀ m : Cls wr, Calls Tryz.prog 108 #[.int .i64 K] m.w fun e w' => e = .returned (.string (mkT K)) ∧ Below m.w.heap.size m.w w') := fun m => markText_at K _ m.w rfl (by omega) (by omega)
      have HC : Hid _ := c1
      clear c0 c1 y0
      go_wp2
      refine region_cls_lit (by kernel_rfl) (by kernel_rfl) ?_
      repeat (go_big_quiet_step (exact Cls.calls (HC0.out _)))
      refine wpQuiet_nil ?_
      intro m
      have bm : Below w.heap.size w m.w := hbel.trans (m.h.mono hzr)
      have y1 := (bm.cell (p := ⟨g, j * 2 + 1, none⟩) hgl).trans HC.out
      have hzm := bm.size
      generalize m.w = wm at *
      clear q0 hne HC0 m
      have q1 := Cls.cell y1 (show g < wm.heap.size by omega)
      have hne := Cls.ne wm
      have HC2 : Hid (∀ m : Cls wm, Calls Tryz.prog 108 #[.int .i64 ((K : Int) + 1)] m.w fun e w' => e = .returned (.string (mkT (K + 1))) ∧ Below m.w.heap.size m.w w') := fun m => markText_at (K + 1) _ m.w (by omega) (by omega) (by omega)
      clear y1
      go_wp2
      refine region_cls_lit (by kernel_rfl) (by kernel_rfl) ?_
      repeat (go_big_quiet_step (exact Cls.calls (HC2.out _)))
      refine wpQuiet_nil ?_
      intro m2
      have bm2 : Below w.heap.size w m2.w := bm.trans (m2.h.mono hzm)
      clear q1 hne HC2
      go_wp2
      exact ⟨⟨j + 1, K + 1 + 1, by omega, by go_num, by go_num, by have := HKe.out; omega, bm2⟩, by simp [intOf]; omega⟩
    · obtain rfl : j = ps.length := by omega
      subst hK
      go_wp2
      go_ret
      exact ⟨rfl, hbel⟩

set_option maxRecDepth 20000 in
set_option maxHeartbeats 2000000 in
theorem heldLeaseX (base g cap k : Nat) (ps : List Ld) (w : World) (h : w.ownsRow base 107 3 (.slice (some ⟨g, 0, none⟩) ps.length cap) ps.length (rowC lC (markL k ps))) (hk : 1 ≤ k) (hkn : k + ps.length * 3 ≤ 100000000) :
    Calls Tryz.prog 111 #[.slice (some ⟨g, 0, none⟩) ps.length cap, .int .i64 k] w fun e w' => e = .returned (.int .i64 (k + ps.length * 3 : Nat)) ∧ Below w.heap.size w w' := by
  have H0 : Hid _ := h
  have hgl : g < w.heap.size := (own_lt h rfl).2
  clear h
  go_enter Tryz.func111, Tryz.ntmps111
  go_wp2
  go_loopw [1, 5] (fun v i wr => ∃ (j K : Nat), j ≤ ps.length ∧ i = .int .i64 j ∧ v = .int .i64 K ∧ K = k + j * 3 ∧ Below w.heap.size w wr) (fun _ i _ => ps.length - (intOf i).toNat)
  case atStart => exact ⟨0, k, Nat.zero_le _, rfl, rfl, by omega, Below.refl _ _⟩
  case round =>
    obtain ⟨j, K, hj, rfl, rfl, hK, hbel⟩ := hrel
    have hzr := hbel.size
    by_cases hlt : j < ps.length
    · have hlt' : (j : Int) < ps.length := by omega
      have h0 : w.ownsRow base 107 3 (.slice (some ⟨g, 0, none⟩) ps.length cap) ps.length (rowC lC (markL k ps)) := H0.out
      have hxl := h0.1
      have hgj := markL_get (k := k) hlt
      rw [← hK] at hgj
      have c0 : w.cell? ⟨g, j * 3, none⟩ = some (.int .i64 K) := by
        have := (h0.cellAt (j * 3) (by omega)).trans (row_get lC_len hgj (show 0 < 3 by decide))
        rw [this, hK]
        simp [lC]
      have c1 : w.cell? ⟨g, j * 3 + 1, none⟩ = some (.string (mkT (K + 1))) := (h0.cellAt (j * 3 + 1) (by omega)).trans (row_get lC_len hgj (show 1 < 3 by decide))
      have c2 : w.cell? ⟨g, j * 3 + 2, none⟩ = some (.int .i64 ((K : Int) + 1 + 1)) := by
        have := (h0.cellAt (j * 3 + 2) (by omega)).trans (row_get lC_len hgj (show 2 < 3 by decide))
        rw [this, hK]
        simp [lC]
      have HKe : Hid _ := hK
      have hK1 : 1 ≤ K := by omega
      have hK2 : K + 3 ≤ 100000000 := by omega
      clear hK hxl hgj h0
      have y0 := (hbel.cell (p := ⟨g, j * 3, none⟩) hgl).trans c0
      have y1 := (hbel.cell (p := ⟨g, j * 3 + 1, none⟩) hgl).trans c1
      have q1 := Cls.cell y1 (show g < wr.heap.size by omega)
      have hne := Cls.ne wr
      have HC0 : Hid (∀ m : Cls wr, Calls Tryz.prog 108 #[.int .i64 ((K : Int) + 1)] m.w fun e w' => e = .returned (.string (mkT (K + 1))) ∧ Below m.w.heap.size m.w w') := fun m => markText_at (K + 1) _ m.w (by omega) (by omega) (by omega)
      have HC : Hid _ := c2
      clear c0 c1 c2 y1
      go_wp2
      refine region_cls_lit (by kernel_rfl) (by kernel_rfl) ?_
      repeat (go_big_quiet_step (exact Cls.calls (HC0.out _)))
      refine wpQuiet_nil ?_
      intro m
      have bm : Below w.heap.size w m.w := hbel.trans (m.h.mono hzr)
      have y2 := (bm.cell (p := ⟨g, j * 3 + 2, none⟩) hgl).trans HC.out
      clear q1 hne HC0 y0
      go_wp2
      exact ⟨⟨j + 1, K + 1 + 1 + 1, by omega, by go_num, by go_num, by have := HKe.out; omega, bm⟩, by simp [intOf]; omega⟩
    · obtain rfl : j = ps.length := by omega
      subst hK
      go_wp2
      go_ret
      exact ⟨rfl, hbel⟩

end Go.Proofs.YthkmpihfhkmaoaaGreat

/-
  Marks written into the rows of a state that is an answer, and read again: laws.markState, heldState.
-/
namespace Go.Proofs.YthkmpihfhkmaoaaGreat
open Go.ChangeShapes Go.WideShapes Go.ChangeAt Go.RowKit

theorem SBox.same' {w w' : World} {b : Nat} {wd now given births : Int} {T P L : Value} (h : SBox w b wd now given births T P L) (hb : w'.heap[b]? = w.heap[b]?) (hl : b < w'.heap.size) : SBox w' b wd now given births T P L := by
  obtain ⟨h0, h1, h2, h3, h4, h5, h6, h7⟩ := h
  have c := fun j => World.cell?_of_block (a := ⟨b, j, none⟩) hb
  exact ⟨(c 0).trans h0, (c 1).trans h1, (c 2).trans h2, (c 3).trans h3, (c 4).trans h4, (c 5).trans h5, (c 6).trans h6, hl⟩

theorem markKeptW (base k : Nat) (T : Value) (rs : List Value) (ks : List Kd) (w : World) (h : KAns w base T rs ks) (hk : 1 ≤ k) (hkn : k + ks.length * 3 + refsN ks ≤ 100000000) :
    Calls Tryz.prog 50 #[T, .int .i64 k] w fun e w' => e = .returned (.int .i64 (k + ks.length * 3 + refsN ks : Nat)) ∧ KAns w' base T rs (markK k ks) ∧ Tn (T.ownBlock.toList ++ rs.filterMap Value.ownBlock) w w' := by
  have h' := h
  rcases h.things.2 with ⟨rfl, hn⟩ | ⟨g, cap, cur, rfl, _⟩
  · obtain rfl := List.length_eq_zero_iff.1 hn
    refine (markKeptS_zero none 0 k w).mono ?_
    rintro e w' ⟨rfl, rfl⟩
    exact ⟨by simp [refsN], h', Tn.of (Below.refl _ _)⟩
  · exact markKeptX base g cap k rs ks w h' hk hkn

theorem heldKeptW (base k : Nat) (T : Value) (rs : List Value) (ks : List Kd) (w : World) (h : KAns w base T rs (markK k ks)) (hk : 1 ≤ k) (hkn : k + ks.length * 3 + refsN ks ≤ 100000000) :
    Calls Tryz.prog 109 #[T, .int .i64 k] w fun e w' => e = .returned (.int .i64 (k + ks.length * 3 + refsN ks : Nat)) ∧ Below w.heap.size w w' := by
  have h' := h
  rcases h.things.2 with ⟨rfl, hn⟩ | ⟨g, cap, cur, rfl, _⟩
  · rw [markK_length] at hn
    obtain rfl := List.length_eq_zero_iff.1 hn
    refine (heldKeptS_zero none 0 k w).mono ?_
    rintro e w' ⟨rfl, rfl⟩
    exact ⟨by simp [refsN], Below.refl _ _⟩
  · rw [markK_length] at h' ⊢
    exact heldKeptX base g cap k rs ks w h' hk hkn

theorem markPinW (base k : Nat) (P : Value) (ps : List Pd) (w : World) (h : w.ownsRow base 104 2 P ps.length (rowC pC ps)) (hk : 1 ≤ k) (hkn : k + ps.length * 2 ≤ 100000000) :
    Calls Tryz.prog 51 #[P, .int .i64 k] w fun e w' => e = .returned (.int .i64 (k + ps.length * 2 : Nat)) ∧ w'.ownsRow base 104 2 P ps.length (rowC pC (markP k ps)) ∧ Tn P.ownBlock.toList w w' := by
  have h' := h
  rcases h.2 with ⟨rfl, hn⟩ | ⟨g, cap, cur, rfl, _⟩
  · obtain rfl := List.length_eq_zero_iff.1 hn
    refine (markPinS_zero none 0 k w).mono ?_
    rintro e w' ⟨rfl, rfl⟩
    exact ⟨by simp, h', Tn.of (Below.refl _ _)⟩
  · refine (markPinX base g cap k ps w h' hk hkn).mono ?_
    rintro e w' ⟨rfl, h1, h2⟩
    exact ⟨rfl, h1, Tn.grown h2 (by simp [Value.ownBlock])⟩

theorem heldPinW (base k : Nat) (P : Value) (ps : List Pd) (w : World) (h : w.ownsRow base 104 2 P ps.length (rowC pC (markP k ps))) (hk : 1 ≤ k) (hkn : k + ps.length * 2 ≤ 100000000) :
    Calls Tryz.prog 110 #[P, .int .i64 k] w fun e w' => e = .returned (.int .i64 (k + ps.length * 2 : Nat)) ∧ Below w.heap.size w w' := by
  have h' := h
  rcases h.2 with ⟨rfl, hn⟩ | ⟨g, cap, cur, rfl, _⟩
  · obtain rfl := List.length_eq_zero_iff.1 hn
    refine (heldPinS_zero none 0 k w).mono ?_
    rintro e w' ⟨rfl, rfl⟩
    exact ⟨by simp, Below.refl _ _⟩
  · exact heldPinX base g cap k ps w h' hk hkn

theorem markLeaseW (base k : Nat) (P : Value) (ps : List Ld) (w : World) (h : w.ownsRow base 107 3 P ps.length (rowC lC ps)) (hk : 1 ≤ k) (hkn : k + ps.length * 3 ≤ 100000000) :
    Calls Tryz.prog 52 #[P, .int .i64 k] w fun e w' => e = .returned (.int .i64 (k + ps.length * 3 : Nat)) ∧ w'.ownsRow base 107 3 P ps.length (rowC lC (markL k ps)) ∧ Tn P.ownBlock.toList w w' := by
  have h' := h
  rcases h.2 with ⟨rfl, hn⟩ | ⟨g, cap, cur, rfl, _⟩
  · obtain rfl := List.length_eq_zero_iff.1 hn
    refine (markLeaseS_zero none 0 k w).mono ?_
    rintro e w' ⟨rfl, rfl⟩
    exact ⟨by simp, h', Tn.of (Below.refl _ _)⟩
  · refine (markLeaseX base g cap k ps w h' hk hkn).mono ?_
    rintro e w' ⟨rfl, h1, h2⟩
    exact ⟨rfl, h1, Tn.grown h2 (by simp [Value.ownBlock])⟩

theorem heldLeaseW (base k : Nat) (P : Value) (ps : List Ld) (w : World) (h : w.ownsRow base 107 3 P ps.length (rowC lC (markL k ps))) (hk : 1 ≤ k) (hkn : k + ps.length * 3 ≤ 100000000) :
    Calls Tryz.prog 111 #[P, .int .i64 k] w fun e w' => e = .returned (.int .i64 (k + ps.length * 3 : Nat)) ∧ Below w.heap.size w w' := by
  have h' := h
  rcases h.2 with ⟨rfl, hn⟩ | ⟨g, cap, cur, rfl, _⟩
  · obtain rfl := List.length_eq_zero_iff.1 hn
    refine (heldLeaseS_zero none 0 k w).mono ?_
    rintro e w' ⟨rfl, rfl⟩
    exact ⟨by simp, Below.refl _ _⟩
  · exact heldLeaseX base g cap k ps w h' hk hkn

/-- What marks make of a state, and how far they count. -/
def cntS (ks : List Kd) (ps : List Pd) (ls : List Ld) : Nat := ks.length * 3 + refsN ks + ps.length * 2 + ls.length * 3

theorem SAns.kans {w : World} {base : Nat} {T P L : Value} {rs : List Value} {ks : List Kd} {ps : List Pd} {ls : List Ld} (h : SAns w base T P L rs ks ps ls) : KAns w base T rs ks := by
  refine ⟨h.len, h.things, h.refs, ?_⟩
  have := h.nd
  rw [blks_eq] at this
  unfold blks at this
  generalize T.ownBlock = t at *
  generalize P.ownBlock = p at *
  generalize L.ownBlock = l at *
  cases t <;> cases p <;> cases l <;> simp_all <;> grind

theorem KAns.same {w w' : World} {base : Nat} {T : Value} {rs : List Value} {ks : List Kd} (h : KAns w base T rs ks) (hs : ∀ b, b < w.heap.size → b ∈ T.ownBlock.toList ++ rs.filterMap Value.ownBlock → w'.heap[b]? = w.heap[b]?) : KAns w' base T rs ks :=
  ⟨h.len, own_same h.things (fun b hb => hs b (own_lt h.things hb).2 (by simp [hb])), fun i k r hk hr => own_same (h.refs i k r hk hr) (fun b hb => hs b (own_lt (h.refs i k r hk hr) hb).2 (List.mem_append_right _ (List.mem_filterMap.2 ⟨r, List.mem_of_getElem? hr, hb⟩))), h.nd⟩

theorem nd3 {T P L : Option Nat} {R : List Nat} (h : (T.toList ++ (P.toList ++ (L.toList ++ R))).Nodup) : (∀ b ∈ T.toList ++ R, b ∉ P.toList ∧ b ∉ L.toList) ∧ (∀ b ∈ P.toList, b ∉ T.toList ++ R ∧ b ∉ L.toList) ∧ (∀ b ∈ L.toList, b ∉ T.toList ++ R ∧ b ∉ P.toList) := by
  cases T <;> cases P <;> cases L <;> simp_all <;> grind

set_option maxRecDepth 20000 in
set_option maxHeartbeats 2000000 in
theorem markStateX (wd now given births : Int) (base k : Nat) (T P L : Value) (rs : List Value) (ks : List Kd) (ps : List Pd) (ls : List Ld) (w : World) (h : SAns w base T P L rs ks ps ls) (hk : 1 ≤ k) (hkn : k + cntS ks ps ls ≤ 100000000) :
    Calls Tryz.prog 14 #[.agg #[.int .i64 wd, .int .i64 now, .int .i64 given, .int .i64 births, T, P, L], .int .i64 k] w fun e w' => e = .returned (.int .i64 (k + cntS ks ps ls : Nat)) ∧ SAns w' base T P L rs (markK k ks) (markP (k + ks.length * 3 + refsN ks) ps) (markL (k + ks.length * 3 + refsN ks + ps.length * 2) ls) ∧ Tn (blks T P L rs) w w' := by
  have hnd := h.nd
  rw [blks_eq] at hnd
  obtain ⟨n1, n2, n3⟩ := nd3 hnd
  have hb0 : Below w.heap.size w (w.alloc (.cells #[.int .i64 wd, .int .i64 now, .int .i64 given, .int .i64 births, T, P, L] 36)) := (Below.refl _ _).alloc (Nat.le_refl _) _
  have hx := SBox.new w wd now given births T P L 36
  obtain ⟨W, hW⟩ : ∃ W, W = w.alloc (.cells #[.int .i64 wd, .int .i64 now, .int .i64 given, .int .i64 births, T, P, L] 36) := ⟨_, rfl⟩
  rw [← hW] at hb0 hx
  have hlt : ∀ b ∈ blks T P L rs, b < w.heap.size := by
    intro b hb
    unfold blks at hb
    simp only [List.mem_append, Option.mem_toList, List.mem_filterMap] at hb
    rcases hb with hb | hb | hb | ⟨r, hr, hb⟩
    · exact (own_lt h.things hb).2
    · exact (own_lt h.pins hb).2
    · exact (own_lt h.leases hb).2
    · obtain ⟨i, hi⟩ := List.getElem?_of_mem hr
      have hil := (List.getElem?_eq_some_iff.1 hi).1
      have hl := h.len
      exact (own_lt (h.refs i ks[i] r (List.getElem?_eq_getElem (by omega)) hi) hb).2
  obtain ⟨ta, tc, rfl⟩ := own_val h.things
  obtain ⟨pa, pc, rfl⟩ := own_val h.pins
  obtain ⟨la, lc, rfl⟩ := own_val h.leases
  have HA : Hid _ := h
  have HL : Hid _ := And.intro hlt (And.intro n1 (And.intro n2 n3))
  have HW : Hid _ := hW
  have HX : Hid _ := hx
  have hzW : w.heap.size < W.heap.size := hx.2.2.2.2.2.2.2
  have hc1 : k + ks.length * 3 + refsN ks ≤ 100000000 := by unfold cntS at hkn; omega
  have hc2 : k + ks.length * 3 + refsN ks + ps.length * 2 ≤ 100000000 := by unfold cntS at hkn; omega
  have hc3 : k + ks.length * 3 + refsN ks + ps.length * 2 + ls.length * 3 ≤ 100000000 := by unfold cntS at hkn; omega
  obtain ⟨x0, x1, x2, x3, x4, x5, x6, x7⟩ := hx
  clear h hlt n1 n2 n3 hW hnd x0 x1 x2 x3 hkn
  go_enter Tryz.func14, Tryz.ntmps14
  go_upto_region 1 with fail
  rw [← HW.out]
  clear HW
  have K0 : KAns W base (.slice ta ks.length tc) rs ks := KAns.same HA.out.kans (fun b hb _ => hb0.block b hb)
  go_wp2_with fail
  refine (markKeptW base k _ rs ks W K0 hk hc1).mono ?_
  rintro e w1 ⟨rfl, k1, t1⟩
  have hV1 : ∀ b ∈ (Value.slice ta ks.length tc).ownBlock.toList ++ rs.filterMap Value.ownBlock, b ∈ blks (.slice ta ks.length tc) (.slice pa ps.length pc) (.slice la ls.length lc) rs := fun b hb => by
    unfold blks
    rcases List.mem_append.1 hb with hb | hb
    · exact List.mem_append_left _ hb
    · exact List.mem_append_right _ (List.mem_append_right _ (List.mem_append_right _ hb))
  have hbx : ∀ {V : List Nat} {X Y : World}, Tn V X Y → (∀ b ∈ V, b ∈ blks (.slice ta ks.length tc) (.slice pa ps.length pc) (.slice la ls.length lc) rs) → W.heap.size ≤ X.heap.size → SBox X w.heap.size wd now given births (.slice ta ks.length tc) (.slice pa ps.length pc) (.slice la ls.length lc) → SBox Y w.heap.size wd now given births (.slice ta ks.length tc) (.slice pa ps.length pc) (.slice la ls.length lc) := fun ht hV hz hx => hx.same' (ht.block _ (by omega) (fun e => by have := HL.out.1 _ (hV _ e); omega)) (Nat.lt_of_lt_of_le (Nat.lt_of_lt_of_le hzW hz) ht.size)
  have X1 := hbx t1 hV1 (Nat.le_refl _) HX.out
  have X1c := X1
  obtain ⟨_, _, _, _, _, y5, y6, _⟩ := X1c
  have p1 : w1.ownsRow base 104 2 (.slice pa ps.length pc) ps.length (rowC pC ps) := own_same (own_below HA.out.pins hb0) (fun b hb => t1.block b (Nat.lt_of_lt_of_le (own_lt HA.out.pins hb).2 hb0.size) (HL.out.2.2.1 b (by simp [hb])).1)
  have H1 : Hid _ := And.intro k1 (And.intro t1 X1)
  clear k1 t1 x4 x5 x6 K0 X1
  go_wp2_with fail
  refine (markPinW base (k + ks.length * 3 + refsN ks) _ ps w1 p1 (by omega) hc2).mono ?_
  rintro e w2 ⟨rfl, p2, t2⟩
  have hV2 : ∀ b ∈ (Value.slice pa ps.length pc).ownBlock.toList, b ∈ blks (.slice ta ks.length tc) (.slice pa ps.length pc) (.slice la ls.length lc) rs := fun b hb => by
    unfold blks
    exact List.mem_append_right _ (List.mem_append_left _ hb)
  have X2 := hbx t2 hV2 H1.out.2.1.size H1.out.2.2
  have X2c := X2
  obtain ⟨_, _, _, _, _, _, z6, _⟩ := X2c
  have l2 : w2.ownsRow base 107 3 (.slice la ls.length lc) ls.length (rowC lC ls) := own_same (own_same (own_below HA.out.leases hb0) (fun b hb => H1.out.2.1.block b (Nat.lt_of_lt_of_le (own_lt HA.out.leases hb).2 hb0.size) (HL.out.2.2.2 b (by simp [hb])).1)) (fun b hb => t2.block b (Nat.lt_of_lt_of_le (Nat.lt_of_lt_of_le (own_lt HA.out.leases hb).2 hb0.size) H1.out.2.1.size) (HL.out.2.2.2 b (by simp [hb])).2)
  have H2 : Hid _ := And.intro p2 (And.intro t2 X2)
  clear p2 t2 p1 y5 y6 X2
  go_wp2_with fail
  refine (markLeaseW base (k + ks.length * 3 + refsN ks + ps.length * 2) _ ls w2 l2 (by omega) hc3).mono ?_
  rintro e w3 ⟨rfl, l3, t3⟩
  have hV3 : ∀ b ∈ (Value.slice la ls.length lc).ownBlock.toList, b ∈ blks (.slice ta ks.length tc) (.slice pa ps.length pc) (.slice la ls.length lc) rs := fun b hb => by
    unfold blks
    exact List.mem_append_right _ (List.mem_append_right _ (List.mem_append_left _ hb))
  have H3 : Hid _ := And.intro l3 t3
  clear l3 t3 l2 z6
  go_wp2
  go_ret
  obtain ⟨k1, t1, _⟩ := H1.out
  obtain ⟨p2, t2, _⟩ := H2.out
  obtain ⟨l3, t3⟩ := H3.out
  have hW1 := t1.size
  have hW2 := t2.size
  refine ⟨by rw [show k + cntS ks ps ls = k + ks.length * 3 + refsN ks + ps.length * 2 + ls.length * 3 by unfold cntS; omega]; rfl, ⟨by rw [markK_length]; exact HA.out.len, ?_, ?_, ?_, ?_, HA.out.nd⟩, (((Tn.of hb0).trans (t1.mono hV1)).trans (t2.mono hV2)).trans (t3.mono hV3)⟩
  · exact own_same (own_same k1.things (fun b hb => t2.block b (own_lt k1.things hb).2 (HL.out.2.1 b (by simp [hb])).1)) (fun b hb => t3.block b (Nat.lt_of_lt_of_le (own_lt k1.things hb).2 hW2) (HL.out.2.1 b (by simp [hb])).2)
  · intro i x r hx hr
    have ho := k1.refs i x r hx hr
    have hm : ∀ b, r.ownBlock = some b → b ∈ (Value.slice ta ks.length tc).ownBlock.toList ++ rs.filterMap Value.ownBlock := fun b hb => List.mem_append_right _ (List.mem_filterMap.2 ⟨r, List.mem_of_getElem? hr, hb⟩)
    exact own_same (own_same ho (fun b hb => t2.block b (own_lt ho hb).2 (HL.out.2.1 b (hm b hb)).1)) (fun b hb => t3.block b (Nat.lt_of_lt_of_le (own_lt ho hb).2 hW2) (HL.out.2.1 b (hm b hb)).2)
  · rw [markP_length]
    exact own_same p2 (fun b hb => t3.block b (own_lt p2 hb).2 (HL.out.2.2.1 b (by simp [hb])).2)
  · rw [markL_length]
    exact l3

theorem SAns.below {w w' : World} {base : Nat} {T P L : Value} {rs : List Value} {ks : List Kd} {ps : List Pd} {ls : List Ld} (h : SAns w base T P L rs ks ps ls) (hb : Below w.heap.size w w') : SAns w' base T P L rs ks ps ls :=
  ⟨h.len, own_below h.things hb, fun i k r hk hr => own_below (h.refs i k r hk hr) hb, own_below h.pins hb, own_below h.leases hb, h.nd⟩

set_option maxRecDepth 20000 in
set_option maxHeartbeats 2000000 in
theorem heldStateX (wd now given births : Int) (base k : Nat) (T P L : Value) (rs : List Value) (ks : List Kd) (ps : List Pd) (ls : List Ld) (w : World) (h : SAns w base T P L rs (markK k ks) (markP (k + ks.length * 3 + refsN ks) ps) (markL (k + ks.length * 3 + refsN ks + ps.length * 2) ls)) (hk : 1 ≤ k) (hkn : k + cntS ks ps ls ≤ 100000000) :
    Calls Tryz.prog 54 #[.agg #[.int .i64 wd, .int .i64 now, .int .i64 given, .int .i64 births, T, P, L], .int .i64 k] w fun e w' => e = .returned (.int .i64 (k + cntS ks ps ls : Nat)) ∧ Below w.heap.size w w' := by
  have hb0 : Below w.heap.size w (w.alloc (.cells #[.int .i64 wd, .int .i64 now, .int .i64 given, .int .i64 births, T, P, L] 36)) := (Below.refl _ _).alloc (Nat.le_refl _) _
  have hx := SBox.new w wd now given births T P L 36
  obtain ⟨W, hW⟩ : ∃ W, W = w.alloc (.cells #[.int .i64 wd, .int .i64 now, .int .i64 given, .int .i64 births, T, P, L] 36) := ⟨_, rfl⟩
  rw [← hW] at hb0 hx
  obtain ⟨ta, tc, rfl⟩ := own_val h.things
  obtain ⟨pa, pc, rfl⟩ := own_val h.pins
  obtain ⟨la, lc, rfl⟩ := own_val h.leases
  have HA : Hid _ := h.below hb0
  have HW : Hid _ := hW
  have HX : Hid _ := hx
  have hc1 : k + ks.length * 3 + refsN ks ≤ 100000000 := by unfold cntS at hkn; omega
  have hc2 : k + ks.length * 3 + refsN ks + ps.length * 2 ≤ 100000000 := by unfold cntS at hkn; omega
  have hc3 : k + ks.length * 3 + refsN ks + ps.length * 2 + ls.length * 3 ≤ 100000000 := by unfold cntS at hkn; omega
  obtain ⟨x0, x1, x2, x3, x4, x5, x6, x7⟩ := hx
  clear h hW x0 x1 x2 x3 hkn
  go_enter Tryz.func54, Tryz.ntmps54
  go_upto_region 1 with fail
  rw [← HW.out]
  clear HW
  go_wp2_with fail
  refine (heldKeptW base k _ rs ks W HA.out.kans hk hc1).mono ?_
  rintro e w1 ⟨rfl, hb1⟩
  have X1 := SBox.below HX.out hb1
  obtain ⟨_, _, _, _, _, y5, y6, _⟩ := X1
  have p1 := own_below HA.out.pins hb1
  rw [markP_length] at p1
  have e1 : ¬ (((k + ks.length * 3 + refsN ks : Nat) : Int) < 0) := by omega
  clear x4 x5 x6
  rw [markP_length] at *
  go_wp2_with fail
  refine (heldPinW base (k + ks.length * 3 + refsN ks) _ ps w1 p1 (by omega) hc2).mono ?_
  rintro e w2 ⟨rfl, hb2⟩
  have X2 := SBox.below (SBox.below HX.out hb1) hb2
  obtain ⟨_, _, _, _, _, _, z6, _⟩ := X2
  have l2 := own_below (own_below HA.out.leases hb1) hb2
  rw [markL_length] at *
  have e2 : ¬ (((k + ks.length * 3 + refsN ks + ps.length * 2 : Nat) : Int) < 0) := by omega
  clear y5 y6 p1
  go_wp2_with fail
  refine (heldLeaseW base (k + ks.length * 3 + refsN ks + ps.length * 2) _ ls w2 l2 (by omega) hc3).mono ?_
  rintro e w3 ⟨rfl, hb3⟩
  have e3 : ¬ (((k + ks.length * 3 + refsN ks + ps.length * 2 + ls.length * 3 : Nat) : Int) < 0) := by omega
  clear z6 l2
  go_wp2
  go_ret
  exact ⟨by rw [show k + cntS ks ps ls = k + ks.length * 3 + refsN ks + ps.length * 2 + ls.length * 3 by unfold cntS; omega]; rfl, ((hb0.trans (hb1.mono hb0.size)).trans (hb2.mono (Nat.le_trans hb0.size hb1.size))).trans (hb3.mono (Nat.le_trans (Nat.le_trans hb0.size hb1.size) hb2.size))⟩

end Go.Proofs.YthkmpihfhkmaoaaGreat

/-
  What Unit answers.
-/
namespace Go.Proofs.YthkmpihfhkmaoaaGreat
open Go.ChangeShapes Go.WideShapes Go.ChangeAt Go.RowKit

/-- The zeros of a Cleared. -/
def z15 : List Value := [.int .i64 0, .int .i64 0, .int .i64 0, .int .i64 0, .int .i64 0, .slice none 0 0, .slice none 0 0, .slice none 0 0, .int .i64 0, .slice none 0 0, .slice none 0 0, .int .i64 0, .int .i64 0, .int .i64 0, .slice none 0 0]

theorem c15 {w : World} {b : Nat} {a0 a1 a2 a3 a4 a5 a6 a7 a8 a9 a10 a11 a12 a13 a14 : Value} (h : CellsAt w b [a0, a1, a2, a3, a4, a5, a6, a7, a8, a9, a10, a11, a12, a13, a14]) : (w.cell? ⟨b, 0, none⟩ = some a0 ∧ w.frozen? ⟨b, 0, none⟩ = false) ∧ (w.cell? ⟨b, 1, none⟩ = some a1 ∧ w.frozen? ⟨b, 1, none⟩ = false) ∧ (w.cell? ⟨b, 2, none⟩ = some a2 ∧ w.frozen? ⟨b, 2, none⟩ = false) ∧ (w.cell? ⟨b, 3, none⟩ = some a3 ∧ w.frozen? ⟨b, 3, none⟩ = false) ∧ (w.cell? ⟨b, 4, none⟩ = some a4 ∧ w.frozen? ⟨b, 4, none⟩ = false) ∧ (w.cell? ⟨b, 5, none⟩ = some a5 ∧ w.frozen? ⟨b, 5, none⟩ = false) ∧ (w.cell? ⟨b, 6, none⟩ = some a6 ∧ w.frozen? ⟨b, 6, none⟩ = false) ∧ (w.cell? ⟨b, 7, none⟩ = some a7 ∧ w.frozen? ⟨b, 7, none⟩ = false) ∧ (w.cell? ⟨b, 8, none⟩ = some a8 ∧ w.frozen? ⟨b, 8, none⟩ = false) ∧ (w.cell? ⟨b, 9, none⟩ = some a9 ∧ w.frozen? ⟨b, 9, none⟩ = false) ∧ (w.cell? ⟨b, 10, none⟩ = some a10 ∧ w.frozen? ⟨b, 10, none⟩ = false) ∧ (w.cell? ⟨b, 11, none⟩ = some a11 ∧ w.frozen? ⟨b, 11, none⟩ = false) ∧ (w.cell? ⟨b, 12, none⟩ = some a12 ∧ w.frozen? ⟨b, 12, none⟩ = false) ∧ (w.cell? ⟨b, 13, none⟩ = some a13 ∧ w.frozen? ⟨b, 13, none⟩ = false) ∧ (w.cell? ⟨b, 14, none⟩ = some a14 ∧ w.frozen? ⟨b, 14, none⟩ = false) :=
  ⟨h 0 _ rfl, h 1 _ rfl, h 2 _ rfl, h 3 _ rfl, h 4 _ rfl, h 5 _ rfl, h 6 _ rfl, h 7 _ rfl, h 8 _ rfl, h 9 _ rfl, h 10 _ rfl, h 11 _ rfl, h 12 _ rfl, h 13 _ rfl, h 14 _ rfl⟩

theorem tn15 (w : World) (R : Nat) (a0 a1 a2 a3 a4 a5 a6 a7 a8 a9 a10 a11 a12 a13 a14 : Value) : Tn [R] w (((((((((((((((w.setCell ⟨R, 0, none⟩ a0).setCell ⟨R, 1, none⟩ a1).setCell ⟨R, 2, none⟩ a2).setCell ⟨R, 3, none⟩ a3).setCell ⟨R, 4, none⟩ a4).setCell ⟨R, 5, none⟩ a5).setCell ⟨R, 6, none⟩ a6).setCell ⟨R, 7, none⟩ a7).setCell ⟨R, 8, none⟩ a8).setCell ⟨R, 9, none⟩ a9).setCell ⟨R, 10, none⟩ a10).setCell ⟨R, 11, none⟩ a11).setCell ⟨R, 12, none⟩ a12).setCell ⟨R, 13, none⟩ a13).setCell ⟨R, 14, none⟩ a14) :=
  (((((((((((((((tn1 w R 0 a0).trans (tn1 _ R 1 a1)).trans (tn1 _ R 2 a2)).trans (tn1 _ R 3 a3)).trans (tn1 _ R 4 a4)).trans (tn1 _ R 5 a5)).trans (tn1 _ R 6 a6)).trans (tn1 _ R 7 a7)).trans (tn1 _ R 8 a8)).trans (tn1 _ R 9 a9)).trans (tn1 _ R 10 a10)).trans (tn1 _ R 11 a11)).trans (tn1 _ R 12 a12)).trans (tn1 _ R 13 a13)).trans (tn1 _ R 14 a14))

theorem set15 {w : World} {b : Nat} (h : CellsAt w b z15) (a0 a1 a2 a3 a4 a5 a6 a7 a8 a9 a10 a11 a12 a13 a14 : Value) : CellsAt (((((((((((((((w.setCell ⟨b, 0, none⟩ a0).setCell ⟨b, 1, none⟩ a1).setCell ⟨b, 2, none⟩ a2).setCell ⟨b, 3, none⟩ a3).setCell ⟨b, 4, none⟩ a4).setCell ⟨b, 5, none⟩ a5).setCell ⟨b, 6, none⟩ a6).setCell ⟨b, 7, none⟩ a7).setCell ⟨b, 8, none⟩ a8).setCell ⟨b, 9, none⟩ a9).setCell ⟨b, 10, none⟩ a10).setCell ⟨b, 11, none⟩ a11).setCell ⟨b, 12, none⟩ a12).setCell ⟨b, 13, none⟩ a13).setCell ⟨b, 14, none⟩ a14) b [a0, a1, a2, a3, a4, a5, a6, a7, a8, a9, a10, a11, a12, a13, a14] :=
  (((((((((((((((h.set 0 a0).set 1 a1).set 2 a2).set 3 a3).set 4 a4).set 5 a5).set 6 a6).set 7 a7).set 8 a8).set 9 a9).set 10 a10).set 11 a11).set 12 a12).set 13 a13).set 14 a14)

/-- What Unit answers lies in rows of its own. -/
structure CAns (w : World) (base : Nat) (T P L Q M D : Value) (rs : List Value) (ks : List Kd) (ps : List Pd) (ls : List Ld) (qs ms ds : List ByteArray) : Prop where
  st : SAns w base T P L rs ks ps ls
  q : ORow w base Q qs
  mr : ORow w base M ms
  dd : ORow w base D ds
  ap : (∀ g, sBlk Q = some g → sBlk M ≠ some g ∧ sBlk D ≠ some g) ∧ (∀ g, sBlk M = some g → sBlk D ≠ some g)
  apS : ∀ g, sBlk Q = some g ∨ sBlk M = some g ∨ sBlk D = some g → g ∉ blks T P L rs

/-- The value of a Cleared. -/
def clV (o : UOut) (T P L Q M D : Value) : Value := .agg #[.int .i64 o.code, .int .i64 o.wd, .int .i64 o.now, .int .i64 o.given, .int .i64 o.births, T, P, L, .int .i64 o.r.ph, Q, M, .int .i64 o.r.top, .int .i64 o.r.at_, .int .i64 o.r.ro, D]

theorem SAns.turn {w w' : World} {base : Nat} {T P L : Value} {rs : List Value} {ks : List Kd} {ps : List Pd} {ls : List Ld} (h : SAns w base T P L rs ks ps ls) {V : List Nat} (ht : Tn V w w') (hV : ∀ b ∈ V, b < base) : SAns w' base T P L rs ks ps ls := by
  have hs : ∀ {e : TypeId} {size : Nat} {v : Value} {n : Nat} {xs : List Value}, w.ownsRow base e size v n xs → w'.ownsRow base e size v n xs := fun ho => own_same ho (fun g hg => ht.block g (own_lt ho hg).2 (fun e => by have := hV g e; have := (own_lt ho hg).1; omega))
  exact ⟨h.len, hs h.things, fun i k r hk hr => hs (h.refs i k r hk hr), hs h.pins, hs h.leases, h.nd⟩

theorem SAns.mono {w : World} {base base' : Nat} {T P L : Value} {rs : List Value} {ks : List Kd} {ps : List Pd} {ls : List Ld} (h : SAns w base T P L rs ks ps ls) (hb : base' ≤ base) : SAns w base' T P L rs ks ps ls :=
  ⟨h.len, h.things.mono hb, fun i k r hk hr => (h.refs i k r hk hr).mono hb, h.pins.mono hb, h.leases.mono hb, h.nd⟩

theorem SAns.lo {w : World} {base : Nat} {T P L : Value} {rs : List Value} {ks : List Kd} {ps : List Pd} {ls : List Ld} (h : SAns w base T P L rs ks ps ls) : ∀ g ∈ blks T P L rs, base ≤ g := by
  intro g hg
  unfold blks at hg
  simp only [List.mem_append, Option.mem_toList, List.mem_filterMap] at hg
  rcases hg with hg | hg | hg | ⟨r, hr, hg⟩
  · exact (own_lt h.things hg).1
  · exact (own_lt h.pins hg).1
  · exact (own_lt h.leases hg).1
  · obtain ⟨i, hi⟩ := List.getElem?_of_mem hr
    have hl := (List.getElem?_eq_some_iff.1 hi).1
    rw [h.len] at hl
    exact (own_lt (h.refs i _ r (List.getElem?_eq_getElem hl) hi) hg).1

theorem nilAns (w : World) (base : Nat) : CAns w base (.slice none 0 0) (.slice none 0 0) (.slice none 0 0) (.slice none 0 0) (.slice none 0 0) (.slice none 0 0) [] [] [] [] [] [] [] :=
  ⟨⟨rfl, World.ownsRow_nil _ _ _ _, (fun i k r hk _ => by cases hk), World.ownsRow_nil _ _ _ _, World.ownsRow_nil _ _ _ _, List.Pairwise.nil⟩, ORow.nil _ _, ORow.nil _ _, ORow.nil _ _, ⟨(fun g e => by cases e), (fun g e => by cases e)⟩, fun g e => by rcases e with e | e | e <;> cases e⟩

theorem UTo.sub {births ph top at_ ro : Int} {ks : List Kd} {ps : List Pd} {ls : List Ld} {qs ms : List ByteArray} {r : UR} (h : UTo ks ps ls births ph top at_ ro qs ms r) : r.ks.Sublist ks := by
  cases h with
  | begin h => exact List.Sublist.refl _
  | mark h s q0 q1 m1 hq hm => exact List.Sublist.refl _
  | rest h hq hn => exact List.Sublist.refl _
  | keep h hq u hu hk => exact List.Sublist.refl _
  | drop h hq u hu hm hk => exact List.filter_sublist

/-- A clearing that was made of a draft and a round. -/
theorem CM.made {w w' : World} {base c d m : Nat} {O P L : Value} {wd now given births : Int} {ks : List Kd} {ps : List Pd} {ls : List Ld} {ph top at_ ro : Int} {x y cx cy mm n cc : Nat} {f : Lit → Option Value} {qs ms : List ByteArray} (hD : Dr w base d m O P L wd now given births ks ps ls) (hU : HU w base m wd ks) (hb : Below w.heap.size w w')
    (hbox : CellsAt w' c (clC d ph (.slice (some ⟨x, 0, none⟩) qs.length cx) (.slice (some ⟨y, 0, none⟩) ms.length cy) top at_ ro mm (.slice none 0 0))) (hx : w'.ownsRow w.heap.size 9 1 (.slice (some ⟨x, 0, none⟩) qs.length cx) qs.length (qs.map Value.string)) (hy : w'.ownsRow w.heap.size 9 1 (.slice (some ⟨y, 0, none⟩) ms.length cy) ms.length (ms.map Value.string))
    (hM : KMapC w' 98 mm n cc f) (hF : MK ms f cc) (hn : n ≤ ms.length) (hcb : CBlk w' c) (hnd : [c, x, y, mm].Nodup) (hc1 : w.heap.size ≤ c) (hc2 : w.heap.size ≤ mm) : CM w' base c d m O P L wd now given births ks ps ls ph top at_ ro (.slice (some ⟨x, 0, none⟩) qs.length cx) (.slice (some ⟨y, 0, none⟩) ms.length cy) mm qs ms ms := by
  have hlo : base ≤ w.heap.size := by have := hD.bd; have := hD.box.lt; omega
  have hlt := hD.lts
  have lx : w.heap.size ≤ x ∧ x < _ := own_lt hx rfl
  have ly : w.heap.size ≤ y ∧ y < _ := own_lt hy rfl
  simp at hnd
  have hV : ∀ b, w.heap.size ≤ b → b ∉ vB d m O P L := fun b hb e => by have := hlt b e; omega
  refine ⟨hD.below hb, hU.turn (V := []) (Tn.of hb) hlo (by simp) (by simp), hbox, hcb, ORow.own (own_base hx hlo), ORow.own (own_base hy hlo), ⟨n, cc, f, hM, hF, hn⟩, ⟨by grind, hV c hc1, hV mm hc2, fun g hg => ?_, fun g hg => ?_⟩, by omega, by omega⟩
  · cases hg
    exact ⟨by grind, by grind, hV _ lx.1, fun e => by cases e; grind⟩
  · cases hg
    exact ⟨by grind, by grind, hV _ ly.1⟩

/-- What Unit hands out. -/
theorem CAns.made {w w1 w2 : World} {base base0 c d m R : Nat} {P L P' L' T Q M D : Value} {rs : List Value} {wd now given births : Int} {ks : List Kd} {ps : List Pd} {ls : List Ld} {ph top at_ ro : Int} {qs ms ds : List ByteArray} (h : UE w base c d m P L wd now given births ks ps ls ph top at_ ro Q M D qs ms ds) (hs : SAns w1 w.heap.size T P' L' rs ks ps ls) (hb : Below w.heap.size w w1) (ht : Tn [R] w1 w2) (hR : R < base) (h0 : base0 ≤ base) (hlo : base ≤ w.heap.size) : CAns w2 base0 T P' L' Q M D rs ks ps ls qs ms ds := by
  have hV : ∀ {v : Value} {ss : List ByteArray}, ORow w base v ss → ORow w2 base0 v ss := fun ho => ((ho.below hb).turn ht (fun g hg e => by have := (ho.blk hg).1; simp at e; omega)).mono h0
  refine ⟨(hs.turn ht (fun b hb => by simp at hb; omega)).mono (by omega), hV h.q, hV h.mr, hV h.dd, h.ap, fun g hg e => ?_⟩
  have h1 := hs.lo g e
  rcases hg with hg | hg | hg
  · have := (h.q.blk hg).2; omega
  · have := (h.mr.blk hg).2; omega
  · have := (h.dd.blk hg).2; omega

end Go.Proofs.YthkmpihfhkmaoaaGreat

/-
  spec.l6Next.
-/
namespace Go.Proofs.YthkmpihfhkmaoaaGreat
open Go.ChangeShapes Go.WideShapes Go.ChangeAt Go.RowKit

/-- The place of the thing with the greatest Born below a number. -/
def NextAt (ks : List Kd) (at_ : Int) (r : Int) : Prop :=
  (r = -1 ∧ ∀ y ∈ ks, ¬ y.born < at_) ∨ ∃ (i : Nat) (k : Kd), r = i ∧ ks[i]? = some k ∧ k.born < at_ ∧ ∀ y ∈ ks, y.born < at_ → y.born ≤ k.born

theorem NextAt.snoc {ks : List Kd} {at_ r : Int} {x : Kd} (h : NextAt ks at_ r) : (¬ x.born < at_ → NextAt (ks ++ [x]) at_ r) ∧ (x.born < at_ → r = -1 → NextAt (ks ++ [x]) at_ ks.length) ∧ (∀ (i : Nat) (k : Kd), x.born < at_ → r = i → ks[i]? = some k → (k.born < x.born → NextAt (ks ++ [x]) at_ ks.length) ∧ (¬ k.born < x.born → NextAt (ks ++ [x]) at_ r)) := by
  refine ⟨fun hx => ?_, fun hx hr => ?_, fun i k hx hr hk => ⟨fun hlt => ?_, fun hlt => ?_⟩⟩
  · rcases h with ⟨h1, h2⟩ | ⟨i, k, h1, h2, h3, h4⟩
    · refine .inl ⟨h1, fun y hy => ?_⟩
      rcases List.mem_append.1 hy with hy | hy
      · exact h2 y hy
      · simp at hy; rw [hy]; exact hx
    · refine .inr ⟨i, k, h1, ?_, h3, fun y hy hya => ?_⟩
      · rw [List.getElem?_append_left (List.getElem?_eq_some_iff.1 h2).1]; exact h2
      · rcases List.mem_append.1 hy with hy | hy
        · exact h4 y hy hya
        · simp at hy; rw [hy] at hya; exact absurd hya hx
  · rcases h with ⟨_, h2⟩ | ⟨i, k, h1, _⟩
    · refine .inr ⟨ks.length, x, rfl, by simp, hx, fun y hy hya => ?_⟩
      rcases List.mem_append.1 hy with hy | hy
      · exact absurd hya (h2 y hy)
      · simp at hy; rw [hy]; omega
    · omega
  · rcases h with ⟨h1, _⟩ | ⟨j, k', h1, h2, h3, h4⟩
    · omega
    · obtain rfl : i = j := by omega
      rw [hk] at h2
      cases h2
      refine .inr ⟨ks.length, x, rfl, by simp, hx, fun y hy hya => ?_⟩
      rcases List.mem_append.1 hy with hy | hy
      · have := h4 y hy hya; omega
      · simp at hy; rw [hy]; omega
  · rcases h with ⟨h1, _⟩ | ⟨j, k', h1, h2, h3, h4⟩
    · omega
    · obtain rfl : i = j := by omega
      rw [hk] at h2
      cases h2
      refine .inr ⟨i, k, h1, ?_, h3, fun y hy hya => ?_⟩
      · rw [List.getElem?_append_left (List.getElem?_eq_some_iff.1 hk).1]; exact hk
      · rcases List.mem_append.1 hy with hy | hy
        · exact h4 y hy hya
        · simp at hy; rw [hy]; omega

set_option maxRecDepth 20000 in
set_option maxHeartbeats 4000000 in
theorem l6Next_any (wd now given births at_ : Int) (a : Option Addr) (ac : Nat) (P L : Value) (ks : List Kd) (w : World) (hrow : KRow w w.heap.size a ks) (hl : ks.length ≤ 1000) :
    Calls Tryz.prog 89 #[.agg #[.int .i64 wd, .int .i64 now, .int .i64 given, .int .i64 births, .slice a ks.length ac, P, L], .int .i64 at_] w fun e w' => ∃ r : Int, e = .returned (.int .i64 r) ∧ NextAt ks at_ r ∧ Below w.heap.size w w' := by
  have HKR : Hid _ := hrow
  have hx := SBox.new w wd now given births (.slice a ks.length ac) P L 36
  have hb0 : Below w.heap.size w (w.alloc (.cells #[.int .i64 wd, .int .i64 now, .int .i64 given, .int .i64 births, .slice a ks.length ac, P, L] 36)) := (Below.refl _ _).alloc (Nat.le_refl _) _
  obtain ⟨W, hW⟩ : ∃ W, W = w.alloc (.cells #[.int .i64 wd, .int .i64 now, .int .i64 given, .int .i64 births, .slice a ks.length ac, P, L] 36) := ⟨_, rfl⟩
  rw [← hW] at hx hb0
  have HW : Hid _ := hW
  have HX : Hid _ := hx
  have hzW : w.heap.size < W.heap.size := hx.2.2.2.2.2.2.2
  clear hrow hW hx
  go_enter Tryz.func89, Tryz.ntmps89
  go_upto_region 1 with fail
  rw [← HW.out]
  clear HW
  go_wp2
  go_loopw [5, 6] (fun v i wr => ∃ (k : Nat) (r : Int), k ≤ ks.length ∧ i = .int .i64 k ∧ v = .int .i64 r ∧ Hid (NextAt (ks.take k) at_ r ∧ Below W.heap.size W wr)) (fun _ i _ => ks.length - (intOf i).toNat)
  case atStart => exact ⟨0, -1, Nat.zero_le _, rfl, rfl, .inl ⟨rfl, (fun y hy => by simp at hy)⟩, Below.refl _ _⟩
  case round =>
    obtain ⟨k, r, hk, rfl, rfl, HI⟩ := hrel
    have hbel := HI.out.2
    have hzr := hbel.size
    have hBw : Below w.heap.size w wr := hb0.trans (hbel.mono hb0.size)
    obtain ⟨_, _, _, _, x4, _, _, _⟩ := SBox.below HX.out hbel
    by_cases hlt : k < ks.length
    · obtain ⟨b, off, ha, hb, hc⟩ := (KRow.below HKR.out hBw).at hlt
      subst ha
      have HG : Hid (ks[k]? = some ks[k]) := List.getElem?_eq_getElem hlt
      obtain ⟨_, c1, _⟩ := hc k _ HG.out
      have hbr : b < wr.heap.size := by omega
      have hkl : (ks.take k).length = k := by rw [List.length_take]; omega
      have HT : Hid (ks.take (k + 1) = ks.take k ++ [ks[k]]) := List.take_succ_eq_append_getElem hlt
      have q4 := Cls.cell x4 (show w.heap.size < wr.heap.size by omega)
      have q1 := Cls.cell c1 hbr
      have hne := Cls.ne wr
      have HC : Hid _ := hc
      have HN : Hid _ := NextAt.snoc (x := ks[k]) HI.out.1
      clear hc
      generalize ks[k] = x at *
      by_cases hx : x.born < at_
      · have d1 : decide (x.born < at_) = true := by simpa using hx
        by_cases hr : r < 0
        · have d2 : decide (r < 0) = true := by simpa using hr
          have hr1 : r = -1 := by
            rcases HI.out.1 with ⟨h, _⟩ | ⟨i, _, h, _⟩
            · exact h
            · omega
          have hf1 := HN.out.2.1 hx hr1
          rw [hkl] at hf1
          have HF : Hid (NextAt (ks.take k ++ [x]) at_ (k : Int)) := hf1
          clear hf1
          clear HN
          go_wp2
          refine region_cls_lit (by kernel_rfl) (by kernel_rfl) ?_
          repeat (go_big_quiet_step (fail))
          refine wpQuiet_nil ?_
          intro m
          clear q4 q1 hne c1 x4
          go_wp2
          exact ⟨⟨k + 1, k, by omega, by go_num, rfl, ⟨by rw [HT.out]; exact HF.out, hbel.trans (m.h.mono hzr)⟩⟩, by simp [intOf]; omega⟩
        · have d2 : decide (r < 0) = false := by simpa using hr
          obtain ⟨i, y, rfl, hy, _⟩ : ∃ (i : Nat) (y : Kd), r = i ∧ (ks.take k)[i]? = some y ∧ True := by
            rcases HI.out.1 with ⟨h, _⟩ | ⟨i, y, h1, h2, _⟩
            · omega
            · exact ⟨i, y, h1, h2, trivial⟩
          have hil : i < k := by have := (List.getElem?_eq_some_iff.1 hy).1; omega
          have hy' : ks[i]? = some y := by rw [List.getElem?_take_of_lt hil] at hy; exact hy
          obtain ⟨_, e1, _⟩ := HC.out i y hy'
          have q2 := Cls.cell e1 hbr
          have hf1 := HN.out.2.2 i y hx rfl hy
          rw [hkl] at hf1
          have HF : Hid ((y.born < x.born → NextAt (ks.take k ++ [x]) at_ (k : Int)) ∧ (¬ y.born < x.born → NextAt (ks.take k ++ [x]) at_ (i : Int))) := hf1
          clear hf1
          clear HN hy hy' HC
          by_cases hg : y.born < x.born
          · have d3 : decide (y.born < x.born) = true := by simpa using hg
            go_wp2
            refine region_cls_lit (by kernel_rfl) (by kernel_rfl) ?_
            repeat (go_big_quiet_step (fail))
            refine wpQuiet_nil ?_
            intro m
            clear q4 q1 q2 hne c1 x4 e1
            go_wp2
            exact ⟨⟨k + 1, k, by omega, by go_num, rfl, ⟨by rw [HT.out]; exact HF.out.1 hg, hbel.trans (m.h.mono hzr)⟩⟩, by simp [intOf]; omega⟩
          · have d3 : decide (y.born < x.born) = false := by simpa using hg
            go_wp2
            refine region_cls_lit (by kernel_rfl) (by kernel_rfl) ?_
            repeat (go_big_quiet_step (fail))
            refine wpQuiet_nil ?_
            intro m
            clear q4 q1 q2 hne c1 x4 e1
            go_wp2
            exact ⟨⟨k + 1, i, by omega, by go_num, rfl, ⟨by rw [HT.out]; exact HF.out.2 hg, hbel.trans (m.h.mono hzr)⟩⟩, by simp [intOf]; omega⟩
      · have d1 : decide (x.born < at_) = false := by simpa using hx
        have HF : Hid (NextAt (ks.take k ++ [x]) at_ r) := HN.out.1 hx
        clear HN
        go_wp2
        refine region_cls_lit (by kernel_rfl) (by kernel_rfl) ?_
        repeat (go_big_quiet_step (fail))
        refine wpQuiet_nil ?_
        intro m
        clear q4 q1 hne c1 x4
        go_wp2
        exact ⟨⟨k + 1, r, by omega, by go_num, rfl, ⟨by rw [HT.out]; exact HF.out, hbel.trans (m.h.mono hzr)⟩⟩, by simp [intOf]; omega⟩
    · have hIe := HI.out.1
      rw [List.take_of_length_le (by omega)] at hIe
      have HE : Hid (NextAt ks at_ r) := hIe
      clear hIe
      go_wp2
      go_ret
      exact ⟨r, rfl, HE.out, hBw⟩

end Go.Proofs.YthkmpihfhkmaoaaGreat
