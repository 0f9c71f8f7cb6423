/-
  laws.FnExactSync, at every input.
-/
import Derived.Test.YtdecihmplkgfkaaRead
import Derived.Test.YtdecihmplkgfkaaLogE
import Derived.Test.YtdecihmplkgfkaaLogM
import Derived.Deep.RegionWith
namespace Go.Proofs.Ytdecihmplkgfkaa
namespace ExactSync
open Go.ChangeShapes Go.WideShapes Go.ChangeAt Go.RowKit

theorem crashL_len (ss tt : List ByteArray) (keep : Int) : (crashL ss tt keep).length ≤ ss.length + tt.length := by
  unfold crashL
  split
  · simp; omega
  · simp

set_option maxHeartbeats 4000000 in
theorem walk (a b : Option Addr) (c d : Nat) (ss tt : List ByteArray) (w : World) (hr : SRow w w.heap.size a ss) (hq : SRow w w.heap.size b tt)
    (hl : ss.length ≤ maxLen) (hs : ∀ s ∈ ss, s.size ≤ maxLen) (hl' : tt.length ≤ maxLen) (hs' : ∀ s ∈ tt, s.size ≤ maxLen) :
    Calls Try.prog 7 #[.agg #[.slice a ss.length c, .slice b tt.length d]] w fun e w' => e = .returned (.bool true) ∧ Below w.heap.size w w' := by
  have hb0 : Below w.heap.size w (w.alloc (.cells #[.slice a ss.length c, .slice b tt.length d] 37)) := (Below.refl _ _).alloc (Nat.le_refl _) _
  by_cases hfit : (ss.length : Int) + bulk ss + tt.length + bulk tt ≤ 1048576
  · have hsB : ∀ s ∈ ss, s.size ≤ 1048576 := fun s hm => by
      obtain ⟨i, hi⟩ := List.getElem?_of_mem hm
      have := le_bulk ss i s hi
      omega
    have hsB' : ∀ s ∈ tt, s.size ≤ 1048576 := fun s hm => by
      obtain ⟨i, hi⟩ := List.getElem?_of_mem hm
      have := le_bulk tt i s hi
      omega
    have hLl : (crashL ss tt tt.length).length ≤ 1048576 := by have := crashL_len ss tt tt.length; omega
    have hT : ∀ W, Below w.heap.size w W → Calls Try.prog 30 #[.agg #[.slice a ss.length c, .slice b tt.length d]] W fun e w' => ∃ g k, e = .returned (.agg #[.slice (some ⟨g, 0, none⟩) ss.length ss.length, .slice (some ⟨k, 0, none⟩) tt.length tt.length]) ∧ W.heap.size ≤ g ∧ g < k ∧
        w'.ownsRow W.heap.size 9 1 (.slice (some ⟨g, 0, none⟩) ss.length ss.length) ss.length (ss.map Value.string) ∧
        w'.ownsRow W.heap.size 9 1 (.slice (some ⟨k, 0, none⟩) tt.length tt.length) tt.length (tt.map Value.string) ∧ Below W.heap.size W w' := fun W hB => toLog_any a b c d ss tt W (hr.below' hB) (hq.below' hB) (by omega) (by omega)
    have hI : ∀ (W : World) (g k : Nat), SRow W W.heap.size (some ⟨g, 0, none⟩) ss → SRow W W.heap.size (some ⟨k, 0, none⟩) tt → Calls Try.prog 34 #[.agg #[.slice (some ⟨g, 0, none⟩) ss.length ss.length, .slice (some ⟨k, 0, none⟩) tt.length tt.length]] W fun e w' => ∃ v, e = .returned (.agg #[v, .slice none 0 0]) ∧
        w'.ownsRow W.heap.size 9 1 v (crashL ss tt tt.length).length ((crashL ss tt tt.length).map Value.string) ∧ Below W.heap.size W w' := fun W g k h1 h2 => iSync_any _ _ _ _ ss tt W h1 h2 (by omega) (by omega) hsB hsB' (Nat.le_refl _)
    have hS : ∀ (W : World) (g k : Nat), SRow W W.heap.size (some ⟨g, 0, none⟩) ss → SRow W W.heap.size (some ⟨k, 0, none⟩) tt → Calls Try.prog 33 #[.agg #[.slice (some ⟨g, 0, none⟩) ss.length ss.length, .slice (some ⟨k, 0, none⟩) tt.length tt.length]] W fun e w' => ∃ v, e = .returned (.agg #[v, .slice none 0 0]) ∧
        w'.ownsRow W.heap.size 9 1 v (crashL ss tt tt.length).length ((crashL ss tt tt.length).map Value.string) ∧ Below W.heap.size W w' := fun W g k h1 h2 => sSync_any _ _ _ _ ss tt W h1 h2 (by omega) (by omega) hsB hsB'
    have HT : Hid _ := hT
    have HI : Hid _ := hI
    have HS : Hid _ := hS
    go_enter Try.func7, Try.ntmps7
    go_wp2_with fail
    refine (szLog_yes a b c d ss tt _ _ (hr.below' hb0) (hq.below' hb0) (by omega) hfit).mono ?_
    rintro e w1 ⟨rfl, hb1⟩
    have hB1 := hb0.trans (hb1.mono (by simp))
    have x1 := (LBox.new w (.slice a ss.length c) (.slice b tt.length d) 37).below hb1
    have hnn : 0 ≤ 1048576 - (ss.length : Int) - bulk ss - tt.length - bulk tt := by omega
    have hfitS : ss.length ≤ 1048576 := by omega
    have hfitT : tt.length ≤ 1048576 := by omega
    generalize 1048576 - (ss.length : Int) - bulk ss - tt.length - bulk tt = L at *
    generalize crashL ss tt tt.length = C at *
    clear hT hI hS hs hs' hsB hsB' hfit hb1 hr hq
    obtain ⟨e0, e1, lt1⟩ := x1
    go_wp2_with fail
    refine (HT.out w1 hB1).mono ?_
    rintro e w2 ⟨g, k, rfl, hg, hgk, hown, hown', hb2⟩
    have hrow2 := SRow.own hown
    have hrow2' := SRow.own hown'
    have hB2 := hB1.trans (hb2.mono hB1.size)
    have x1 := (LBox.below ⟨e0, e1, lt1⟩ hb2 : LBox w2 w.heap.size _ _)
    clear e0 e1 lt1 hown hown' hb2
    go_wp2_with fail
    refine (HS.out w2 g k hrow2 hrow2').mono ?_
    rintro e w3 ⟨v3, rfl, ho3, hb3⟩
    have hB3 := hB2.trans (hb3.mono hB2.size)
    obtain ⟨a3, c3, rfl, hr3⟩ := own_slice ho3
    obtain ⟨p0, p1, pl⟩ := x1.below hb3
    have hz3 := hb3.size
    clear hb3 hrow2 hrow2' ho3 x1 HS
    obtain ⟨W3, hW3⟩ : ∃ W, W = w3.alloc (.cells #[.slice a3 C.length c3, .slice none 0 0] 40) := ⟨_, rfl⟩
    have h33 : Below w3.heap.size w3 W3 := by rw [hW3]; exact (Below.refl _ _).alloc (Nat.le_refl _) _
    have s3 : W3.heap.size = w3.heap.size + 1 := by rw [hW3]; simp
    obtain ⟨q0, q1, ql⟩ : LBox W3 w3.heap.size (.slice a3 C.length c3) (.slice none 0 0) := by rw [hW3]; exact LBox.new _ _ _ _
    obtain ⟨p0, p1, pl⟩ : LBox W3 w.heap.size _ _ := LBox.below ⟨p0, p1, pl⟩ h33
    have hr3 := hr3.below' h33
    have hB3 := hB3.trans (h33.mono hB3.size)
    have HW3 : Hid _ := hW3
    clear hW3 h33
    go_wp2_with fail
    rw [← HW3.out]
    refine (HT.out W3 hB3).mono ?_
    rintro e w4 ⟨g4, k4, rfl, hg4, hk4, ho4, ho4', hb4⟩
    have hB4 := hB3.trans (hb4.mono hB3.size)
    have z4 := hb4.size
    have lg4 := (ho4.lt g4 rfl).2
    have lk4 := (ho4'.lt k4 rfl).2
    obtain ⟨p0, p1, pl⟩ : LBox w4 w.heap.size _ _ := LBox.below ⟨p0, p1, pl⟩ hb4
    obtain ⟨q0, q1, ql⟩ : LBox w4 w3.heap.size _ _ := LBox.below ⟨q0, q1, ql⟩ hb4
    have hr3 := hr3.below hb4
    clear hb4 HW3
    obtain ⟨W4, hW4⟩ : ∃ W, W = w4.alloc (.cells #[.slice (some ⟨g4, 0, none⟩) ss.length ss.length, .slice (some ⟨k4, 0, none⟩) tt.length tt.length] 40) := ⟨_, rfl⟩
    have h44 : Below w4.heap.size w4 W4 := by rw [hW4]; exact (Below.refl _ _).alloc (Nat.le_refl _) _
    have s4 : W4.heap.size = w4.heap.size + 1 := by rw [hW4]; simp
    obtain ⟨r0, r1, rl⟩ : LBox W4 w4.heap.size (.slice (some ⟨g4, 0, none⟩) ss.length ss.length) (.slice (some ⟨k4, 0, none⟩) tt.length tt.length) := by rw [hW4]; exact LBox.new _ _ _ _
    obtain ⟨p0, p1, pl⟩ : LBox W4 w.heap.size _ _ := LBox.below ⟨p0, p1, pl⟩ h44
    obtain ⟨q0, q1, ql⟩ : LBox W4 w3.heap.size _ _ := LBox.below ⟨q0, q1, ql⟩ h44
    have hr3 := hr3.below (h44.mono z4)
    have hB4 := hB4.trans (h44.mono hB4.size)
    have ho4 := ho4.kept (grown_below none h44) (.inr (by simp [Value.ownBlock]))
    have ho4' := ho4'.kept (grown_below none h44) (.inr (by simp [Value.ownBlock]))
    have HO4 : Hid _ := And.intro ho4 ho4'
    have HW4 : Hid _ := hW4
    clear hW4 h44 ho4 ho4'
    go_wp2_with fail
    rw [← HW4.out]
    refine (HI.out W4 g4 k4 (SRow.own HO4.out.1) (SRow.own HO4.out.2)).mono ?_
    rintro e w5 ⟨v5, rfl, ho5, hb5⟩
    obtain ⟨a5, c5, rfl, hr5⟩ := own_slice ho5
    have hB5 := hB4.trans (hb5.mono hB4.size)
    have z5 := hb5.size
    obtain ⟨p0, p1, pl⟩ : LBox w5 w.heap.size _ _ := LBox.below ⟨p0, p1, pl⟩ hb5
    obtain ⟨q0, q1, ql⟩ : LBox w5 w3.heap.size _ _ := LBox.below ⟨q0, q1, ql⟩ hb5
    obtain ⟨r0, r1, rl⟩ : LBox w5 w4.heap.size _ _ := LBox.below ⟨r0, r1, rl⟩ hb5
    have hr3 := hr3.below (hb5.mono (by omega))
    have HO4 : Hid _ := And.intro (HO4.out.1.kept (grown_below none hb5) (.inr (by simp [Value.ownBlock]))) (HO4.out.2.kept (grown_below none hb5) (.inr (by simp [Value.ownBlock])))
    have hv5 : ∀ g, (Value.slice a5 C.length c5).ownBlock = some g → W4.heap.size ≤ g ∧ g < w5.heap.size := fun g hg => ho5.lt g hg
    clear hb5 HW4 hr5
    obtain ⟨W5, hW5⟩ : ∃ W, W = w5.alloc (.cells #[.slice a5 C.length c5, .slice none 0 0] 40) := ⟨_, rfl⟩
    have h55 : Below w5.heap.size w5 W5 := by rw [hW5]; exact (Below.refl _ _).alloc (Nat.le_refl _) _
    have s5 : W5.heap.size = w5.heap.size + 1 := by rw [hW5]; simp
    obtain ⟨s0, s1, sl⟩ : LBox W5 w5.heap.size (.slice a5 C.length c5) (.slice none 0 0) := by rw [hW5]; exact LBox.new _ _ _ _
    obtain ⟨p0, p1, pl⟩ : LBox W5 w.heap.size _ _ := LBox.below ⟨p0, p1, pl⟩ h55
    obtain ⟨q0, q1, ql⟩ : LBox W5 w3.heap.size _ _ := LBox.below ⟨q0, q1, ql⟩ h55
    obtain ⟨r0, r1, rl⟩ : LBox W5 w4.heap.size _ _ := LBox.below ⟨r0, r1, rl⟩ h55
    have hr3 := hr3.below (h55.mono (by omega))
    have hB5 := hB5.trans (h55.mono hB5.size)
    have HO4 : Hid _ := And.intro (HO4.out.1.kept (grown_below none h55) (.inr (by simp [Value.ownBlock]))) (HO4.out.2.kept (grown_below none h55) (.inr (by simp [Value.ownBlock])))
    have HO5 : Hid _ := own_keep ho5 h55
    have HW5 : Hid _ := hW5
    clear hW5 h55 ho5
    go_wp2_with fail
    rw [← HW5.out]
    refine (eqLog_yes a5 none a3 none c5 0 c3 0 C [] W5 (own_row HO5.out) (.inl rfl) (hr3.mono (by omega)) (.inl rfl) hLl (by simp)).mono ?_
    rintro e w6 ⟨rfl, hb6⟩
    have hB6 := hB5.trans (hb6.mono hB5.size)
    have z6 := hb6.size
    obtain ⟨p0, p1, pl⟩ : LBox w6 w.heap.size _ _ := LBox.below ⟨p0, p1, pl⟩ hb6
    obtain ⟨q0, q1, ql⟩ : LBox w6 w3.heap.size _ _ := LBox.below ⟨q0, q1, ql⟩ hb6
    obtain ⟨r0, r1, rl⟩ : LBox w6 w4.heap.size _ _ := LBox.below ⟨r0, r1, rl⟩ hb6
    obtain ⟨s0, s1, sl⟩ : LBox w6 w5.heap.size _ _ := LBox.below ⟨s0, s1, sl⟩ hb6
    have hr3 := hr3.below (hb6.mono (by omega))
    have HO4 : Hid _ := And.intro (own_keep HO4.out.1 hb6) (own_keep HO4.out.2 hb6)
    have HO5 : Hid _ := own_keep HO5.out hb6
    have hr4 := SRow.own HO4.out.1
    have hq4 := SRow.own HO4.out.2
    clear hb6 HW5
    go_wp2_with fail
    go_region_with (first
      | (go_at_call 30; refine (HT.out _ hB6.drew).mono ?_; rintro e w7 ⟨g7, k7, rfl, hg7, hk7, ho7, ho7', hb7⟩; have r0' := (hb7.cell (p := ⟨w4.heap.size, 0, none⟩) rl).trans r0; have r1' := (hb7.cell (p := ⟨w4.heap.size, 1, none⟩) rl).trans r1; have hr7 := SRow.own ho7; have hq7 := SRow.own ho7'; have hr47 := SRow.below' (w := w6.drew) hr4 hb7; have hq47 := SRow.below' (w := w6.drew) hq4 hb7; have z7 : w6.heap.size ≤ w7.heap.size := hb7.size)
      | (go_at_call 32; refine (eqLog_yes _ _ _ _ _ _ _ _ ss tt _ hr47 hq47 hr7 hq7 hfitS hfitT).mono ?_; rintro e w8 ⟨rfl, hb8⟩; have h68 : Below w6.heap.size w6 w8 := (Below.refl w6.heap.size w6).drew.trans (hb7.trans (hb8.mono z7))))
    all_goals
      have hB8 := hB6.trans (h68.mono hB6.size)
      have z8 := h68.size
      obtain ⟨p0, p1, pl⟩ : LBox w8 w.heap.size _ _ := LBox.below ⟨p0, p1, pl⟩ h68
      obtain ⟨q0, q1, ql⟩ : LBox w8 w3.heap.size _ _ := LBox.below ⟨q0, q1, ql⟩ h68
      obtain ⟨r0, r1, rl⟩ : LBox w8 w4.heap.size _ _ := LBox.below ⟨r0, r1, rl⟩ h68
      obtain ⟨s0, s1, sl⟩ : LBox w8 w5.heap.size _ _ := LBox.below ⟨s0, s1, sl⟩ h68
      have hr3 := hr3.below (h68.mono (by omega))
      have HO4 : Hid _ := And.intro (own_keep HO4.out.1 h68) (own_keep HO4.out.2 h68)
      have HO5 : Hid _ := own_keep HO5.out h68
      clear hb8 hb7 hr7 hq7 hr47 hq47 r0' r1' hr4 hq4 ho7 ho7' h68
      go_wp2_with fail
      refine (markLog_any _ _ _ _ _ _ 1 _ _ _ _ w8 HO4.out.1 HO4.out.2 (.inr (by simp [Value.ownBlock]; omega)) (by omega) (by omega)).mono ?_
      rintro e w9 ⟨rfl, _, _, ht9⟩
      have z9 := ht9.size
      have hb9 : Below W3.heap.size w8 w9 := ht9.below (by omega) (fun k hk => by simp [Value.ownBlock] at hk; omega) (fun k hk => by simp [Value.ownBlock] at hk; omega)
      have hB9 := hB8.trans (hb9.mono (by omega))
      obtain ⟨p0, p1, pl⟩ : LBox w9 w.heap.size _ _ := LBox.twice ⟨p0, p1, pl⟩ ht9 (by simp [Value.ownBlock]; omega) (by simp [Value.ownBlock]; omega)
      obtain ⟨q0, q1, ql⟩ : LBox w9 w3.heap.size _ _ := LBox.twice ⟨q0, q1, ql⟩ ht9 (by simp [Value.ownBlock]; omega) (by simp [Value.ownBlock]; omega)
      obtain ⟨r0, r1, rl⟩ : LBox w9 w4.heap.size _ _ := LBox.twice ⟨r0, r1, rl⟩ ht9 (by simp [Value.ownBlock]; omega) (by simp [Value.ownBlock]; omega)
      obtain ⟨s0, s1, sl⟩ : LBox w9 w5.heap.size _ _ := LBox.twice ⟨s0, s1, sl⟩ ht9 (by simp [Value.ownBlock]; omega) (by simp [Value.ownBlock]; omega)
      have hr3 := hr3.below hb9
      have HO5 : Hid _ := ht9.row HO5.out (by cases hv : (Value.slice a5 C.length c5).ownBlock with | none => exact .inl rfl | some g => exact .inr ⟨fun e => by have := (hv5 _ hv).1; simp [Value.ownBlock] at e; omega, fun e => by have := (hv5 _ hv).1; simp [Value.ownBlock] at e; omega⟩)
      clear hb9 ht9 HO4
      clear r0 r1 rl
      go_wp2_with fail
      refine (eqLog_yes a5 none a3 none c5 0 c3 0 C [] w9 (own_row HO5.out) (.inl rfl) (hr3.mono (by omega)) (.inl rfl) hLl (by simp)).mono ?_
      rintro e w10 ⟨rfl, hb10⟩
      have hB10 := hB9.trans (hb10.mono hB9.size)
      have z10 := hb10.size
      obtain ⟨p0, p1, pl⟩ : LBox w10 w.heap.size _ _ := LBox.below ⟨p0, p1, pl⟩ hb10
      obtain ⟨q0, q1, ql⟩ : LBox w10 w3.heap.size _ _ := LBox.below ⟨q0, q1, ql⟩ hb10
      obtain ⟨s0, s1, sl⟩ : LBox w10 w5.heap.size _ _ := LBox.below ⟨s0, s1, sl⟩ hb10
      have hr3 := hr3.below (hb10.mono (by omega))
      have HO5 : Hid _ := own_keep HO5.out hb10
      clear hb10
      go_wp2_with fail
      refine (markLog_any a5 none C.length 0 c5 0 1 _ w10.heap.size _ [] w10 HO5.out (World.ownsRow_nil _ _ _ _) (.inl rfl) (by omega) (by omega)).mono ?_
      rintro e w11 ⟨rfl, hm11, _, ht11⟩
      have z11 := ht11.size
      have hb11 : Below W4.heap.size w10 w11 := ht11.below (by omega) (fun k hk => (hv5 k hk).1) (fun k hk => by simp [Value.ownBlock] at hk)
      have hB11 := hB10.trans (hb11.mono (by omega))
      obtain ⟨p0, p1, pl⟩ : LBox w11 w.heap.size _ _ := LBox.twice ⟨p0, p1, pl⟩ ht11 (fun e => by have := hv5 _ e.symm; omega) (by simp [Value.ownBlock])
      obtain ⟨q0, q1, ql⟩ : LBox w11 w3.heap.size _ _ := LBox.twice ⟨q0, q1, ql⟩ ht11 (fun e => by have := hv5 _ e.symm; omega) (by simp [Value.ownBlock])
      obtain ⟨s0, s1, sl⟩ : LBox w11 w5.heap.size _ _ := LBox.twice ⟨s0, s1, sl⟩ ht11 (fun e => by have := hv5 _ e.symm; omega) (by simp [Value.ownBlock])
      have hr3 := hr3.below (hb11.mono (by omega))
      have hmr : SRow w11 w11.heap.size a5 (marks 1 C.length) := own_row (c := c5) (ss := marks 1 C.length) (by rw [marks_length]; exact hm11)
      clear hb11 ht11 hm11 HO5
      go_wp2_with fail
      refine (heldLog_any a5 none C.length 0 c5 0 1 w11 hmr (.inl rfl) (by omega) (by omega)).mono ?_
      rintro e w12 ⟨rfl, hb12⟩
      have hB12 := hB11.trans (hb12.mono hB11.size)
      have z12 := hb12.size
      obtain ⟨p0, p1, pl⟩ : LBox w12 w.heap.size _ _ := LBox.below ⟨p0, p1, pl⟩ hb12
      obtain ⟨q0, q1, ql⟩ : LBox w12 w3.heap.size _ _ := LBox.below ⟨q0, q1, ql⟩ hb12
      obtain ⟨s0, s1, sl⟩ : LBox w12 w5.heap.size _ _ := LBox.below ⟨s0, s1, sl⟩ hb12
      have hr3 := hr3.below (hb12.mono (by omega))
      have hmr := hmr.below' hb12
      clear hb12
      go_wp2_with fail
      refine (HT.out w12 hB12).mono ?_
      rintro e w13 ⟨g13, k13, rfl, hg13, hk13, ho13, ho13', hb13⟩
      have hB13 := hB12.trans (hb13.mono hB12.size)
      have z13 := hb13.size
      obtain ⟨p0, p1, pl⟩ : LBox w13 w.heap.size _ _ := LBox.below ⟨p0, p1, pl⟩ hb13
      obtain ⟨q0, q1, ql⟩ : LBox w13 w3.heap.size _ _ := LBox.below ⟨q0, q1, ql⟩ hb13
      obtain ⟨s0, s1, sl⟩ : LBox w13 w5.heap.size _ _ := LBox.below ⟨s0, s1, sl⟩ hb13
      have hr3 := hr3.below (hb13.mono (by omega))
      have hmr := hmr.below' hb13
      have hr13 := SRow.own ho13
      have hq13 := SRow.own ho13'
      clear hb13 ho13 ho13'
      go_wp2_with fail
      refine (HI.out w13 g13 k13 hr13 hq13).mono ?_
      rintro e w14 ⟨v14, rfl, ho14, hb14⟩
      obtain ⟨a14, c14, rfl, hr14⟩ := own_slice ho14
      have hB14 := hB13.trans (hb14.mono hB13.size)
      have z14 := hb14.size
      obtain ⟨q0, q1, ql⟩ : LBox w14 w3.heap.size _ _ := LBox.below ⟨q0, q1, ql⟩ hb14
      obtain ⟨s0, s1, sl⟩ : LBox w14 w5.heap.size _ _ := LBox.below ⟨s0, s1, sl⟩ hb14
      have hr3 := hr3.below (hb14.mono (by omega))
      have hmr := hmr.below' hb14
      clear hb14 ho14 hr13 hq13 p0 p1
      obtain ⟨W14, hW14⟩ : ∃ W, W = w14.alloc (.cells #[.slice a14 C.length c14, .slice none 0 0] 40) := ⟨_, rfl⟩
      have h1414 : Below w14.heap.size w14 W14 := by rw [hW14]; exact (Below.refl _ _).alloc (Nat.le_refl _) _
      obtain ⟨t0, t1, tl⟩ : LBox W14 w14.heap.size (.slice a14 C.length c14) (.slice none 0 0) := by rw [hW14]; exact LBox.new _ _ _ _
      obtain ⟨q0, q1, ql⟩ : LBox W14 w3.heap.size _ _ := LBox.below ⟨q0, q1, ql⟩ h1414
      obtain ⟨s0, s1, sl⟩ : LBox W14 w5.heap.size _ _ := LBox.below ⟨s0, s1, sl⟩ h1414
      have hr3 := hr3.below (h1414.mono (by omega))
      have hmr := hmr.below' h1414
      have hr14 := hr14.below' h1414
      have hB14 := hB14.trans (h1414.mono hB14.size)
      have z15 := h1414.size
      have HW14 : Hid _ := hW14
      clear hW14 h1414
      go_wp2_with fail
      rw [← HW14.out]
      refine (eqLog_yes a14 none a3 none c14 0 c3 0 C [] W14 hr14 (.inl rfl) (hr3.mono (by omega)) (.inl rfl) hLl (by simp)).mono ?_
      rintro e w15 ⟨rfl, hb15⟩
      have hB15 := hB14.trans (hb15.mono hB14.size)
      obtain ⟨s0, s1, sl⟩ : LBox w15 w5.heap.size _ _ := LBox.below ⟨s0, s1, sl⟩ hb15
      have hmr := hmr.below' hb15
      clear hb15 HW14
      go_wp2_with fail
      refine (heldLog_any a5 none C.length 0 c5 0 1 w15 hmr (.inl rfl) (by omega) (by omega)).mono ?_
      rintro e w16 ⟨rfl, hb16⟩
      go_wp2
      go_ret
      exact ⟨rfl, hB15.trans (hb16.mono hB15.size)⟩
  · go_enter Try.func7, Try.ntmps7
    go_wp2_with fail
    refine (szLog_no a b c d ss tt _ _ (hr.below' hb0) (hq.below' hb0) hl hs hl' hs' (by omega) (by omega) (by omega)).mono ?_
    rintro e w1 ⟨rfl, hb1⟩
    go_wp2
    go_ret
    exact ⟨rfl, hb0.trans (hb1.mono (by simp))⟩

theorem cellsL : Try.prog.cellsOf 37 = 2 := by kernel_rfl

set_option maxRecDepth 100000 in
theorem lifted (os : Os) (started : os.Started) (H : Type) (enc : TypeId × Value → H) :
    ReturnsInHanded {} Try.checked os 7 .any (Rows.fnExactSyncSpec.pre6 enc Try.prog Try.f7 Rows.fnExactSyncRow.domain false) (Rows.fnExactSyncSpec.post enc Try.prog Try.f7 false true false false) := by
  refine returnsInHanded_of_change (C := Try.checked) own started (by kernel_rfl) Try.func7
    (ChangeSpec.witness6 (enc := enc) (C := Try.checked) false ⟨#[], #[.agg #[.slice none 0 0, .slice none 0 0]], []⟩ 8 (by kernel_rfl) (by kernel_rfl) (by kernel_rfl) (by kernel_rfl)) ?_
  intro W base args ds gs before hval0 hW hcnd _
  have hval : ∀ (j : Nat) t v, Try.f7.params[j]? = some t → args[j]? = some v → Value.okWide Try.prog W .any base t v := hval0
  have hW' := hW
  obtain ⟨p, q, hA0, hV, rfl, hfz, hnd⟩ := hW
  have hA : DataW.TrodAll enc Try.prog W 0 (fun _ => true) true Try.f7.params.toList args.toList ds p := hA0
  rw [Try.params7] at hA hval
  obtain ⟨v0, vs0, d0, ds0, p0, q0, hargs, rfl, rfl, h0, r0⟩ := trodAll_cons hA
  obtain ⟨rfl, rfl, rfl⟩ := trodAll_nil r0
  obtain rfl : args = #[v0] := by cases args; simp_all
  obtain ⟨rfl, rfl⟩ := trodVars_none hV
  have k0 := h0
  have lt0 : ∀ x ∈ p0, x.block < W.heap.size := by obtain ⟨m, hm⟩ := k0; exact DataW.trod_lt m _ _ _ hm
  obtain ⟨c0, c1, y0, y1, m, hv0, _, _, hy0, hy1⟩ := Joins.open_agg2 Try.underlying37 (by kernel_rfl) cellsL (hval 0 37 v0 rfl rfl) h0
  obtain ⟨a, c, ss, ha0, hr, hl, hs⟩ := read_strs hy0
  obtain ⟨b, d, tt, hb0, hq, hl', hs'⟩ := read_strs hy1
  subst ha0 hb0 hv0
  clear hA0 hval0
  refine (walk a b c d ss tt W hr hq hl hs hl' hs').mono fun e W' ⟨he, bel⟩ => ?_
  subst he
  exact ⟨_, rfl, _, _, _, [], _, [], hW', trodAll_mk1 (shut_bool Try.underlying4 _), (trodAll_cons_mk (Below.trod laidOut (by kernel_rfl) (of_decide_eq_true (by kernel_rfl)) k0 bel lt0) trodAll_mk0), rfl, bel.frame _, fun h => by cases h⟩

end ExactSync

end Go.Proofs.Ytdecihmplkgfkaa
