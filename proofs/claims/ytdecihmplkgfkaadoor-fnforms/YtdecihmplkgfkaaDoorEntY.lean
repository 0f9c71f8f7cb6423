/-
  spec.ReadEntry.
-/
import Derived.Test.YtdecihmplkgfkaaDoorEntX
import Derived.Deep.RegionHeld3
import Derived.BigRegion
namespace Go.Proofs.YtdecihmplkgfkaaDoor
open Go.ChangeShapes Go.WideShapes Go.ChangeAt Go.RowKit

theorem l1WidthE (n : Int) (w : World) :
    Calls Tryd.prog 31 #[.int .i64 n] w fun e w' => e = .returned (.bool (decide (1 ≤ n ∧ n ≤ 8))) ∧ w' = w := by
  by_cases h1 : 1 ≤ n
  · by_cases h2 : n ≤ 8
    · go_enter Tryd.func31, Tryd.ntmps31
      go_wp2
      go_ret
      exact ⟨ret_b (by simp [h1, h2]), rfl⟩
    · have h2' : decide (n ≤ 8) = false := by simpa using h2
      go_enter Tryd.func31, Tryd.ntmps31
      go_wp2
      go_ret
      exact ⟨rfl, rfl⟩
  · have h1' : decide (1 ≤ n) = false := by simpa using h1
    go_enter Tryd.func31, Tryd.ntmps31
    go_wp2
    go_ret
    exact ⟨rfl, rfl⟩

theorem rdE_width {s : ByteArray} {wd : Int} (h : ¬ (1 ≤ wd ∧ wd ≤ 8)) : rdE s wd = erNo := by
  unfold rdE
  rw [if_pos (b9_width h)]

theorem rdE_short {l : List UInt8} {wd : Int} (h1 : 1 ≤ wd) (h2 : wd ≤ 8) (hl : l.length < 6) : rdE (mkB l) wd = erNo := by
  unfold rdE
  rw [if_pos]
  match l, hl with
  | [], _ => exact t1_nil h1 h2
  | a :: l, hl =>
    by_cases h4 : l.length < 4
    · exact t2_short a l h1 h2 h4
    · cases hk : inK (a.toNat : Int) with
      | false => exact b9_of_b2 (by rw [b2_cons _ _ h1 h2, hk]; rfl)
      | true =>
        match l, hl, h4 with
        | [a1, a2, a3, a4], _, _ => exact t3_short a a1 a2 a3 a4 h1 h2 hk
        | [], _, h4 => simp at h4
        | [_], _, h4 => simp at h4
        | [_, _], _, h4 => simp at h4
        | [_, _, _], _, h4 => simp at h4

theorem rdE_name {a0 a1 a2 a3 a4 a5 : UInt8} {T : List UInt8} {wd : Int} (h1 : 1 ≤ wd) (h2 : wd ≤ 8) (hT : T.length < a5.toNat) : rdE (mkB (a0 :: a1 :: a2 :: a3 :: a4 :: a5 :: T)) wd = erNo := by
  unfold rdE
  rw [if_pos]
  cases hk : inK (a0.toNat : Int) with
  | false => exact b9_of_b2 (by rw [b2_cons _ _ h1 h2, hk]; rfl)
  | true => exact t4_short a0 a1 a2 a3 a4 a5 T h1 h2 hk hT

theorem epost_no {s : ByteArray} {wd : Int} {w w' : World} (h : rdE s wd = erNo) (hb : Below w.heap.size w w') : ReadEPost s wd w (.returned (.tuple #[.agg #[.int .i64 0, .string ⟨#[]⟩, .string ⟨#[]⟩, .int .i64 0, .string ⟨#[]⟩, .slice none 0 0], .bool false])) w' := by
  unfold ReadEPost
  rw [h]
  exact ⟨.slice none 0 0, rfl, World.ownsRow_nil _ _ _ _, hb⟩

set_option maxRecDepth 20000 in
set_option maxHeartbeats 1000000 in
theorem sReadE_no1 (s : ByteArray) (wd : Int) (w : World) (h : ¬ (1 ≤ wd ∧ wd ≤ 8)) :
    Calls Tryd.prog 11 #[.string s, .int .i64 wd] w (ReadEPost s wd w) := by
  have hd : decide (1 ≤ wd ∧ wd ≤ 8) = false := by simpa using h
  have HN : Hid _ := rdE_width (s := s) h
  clear h
  go_enter Tryd.func11, Tryd.ntmps11
  go_wp2_with (go_at_call 31; refine (l1WidthE wd _).mono ?_; rintro e w' ⟨rfl, hw'⟩; rw [hw']; clear hw' w')
  exact bodyPost_ret (v := .tuple #[.agg #[.int .i64 0, .string ⟨#[]⟩, .string ⟨#[]⟩, .int .i64 0, .string ⟨#[]⟩, .slice none 0 0], .bool false]) (by simp [results, Tryd.results11, go_sem]) rfl (epost_no HN.out ((Below.refl _ _).alloc (Nat.le_refl _) _))

set_option maxRecDepth 20000 in
set_option maxHeartbeats 1000000 in
theorem sReadE_no2 (s : ByteArray) (wd : Int) (w : World) (h1 : 1 ≤ wd) (h2 : wd ≤ 8) (h6 : s.size < 6) :
    Calls Tryd.prog 11 #[.string s, .int .i64 wd] w (ReadEPost s wd w) := by
  have hd : decide (1 ≤ wd ∧ wd ≤ 8) = true := by simp [h1, h2]
  have hd6 : decide ((s.size : Int) < 6) = true := by simp; omega
  have HN : Hid (rdE s wd = erNo) := rdE_short (l := s.data.toList) h1 h2 h6
  go_enter Tryd.func11, Tryd.ntmps11
  go_wp2_with (go_at_call 31; refine (l1WidthE wd _).mono ?_; rintro e w' ⟨rfl, hw'⟩; rw [hw']; clear hw' w')
  exact bodyPost_ret (v := .tuple #[.agg #[.int .i64 0, .string ⟨#[]⟩, .string ⟨#[]⟩, .int .i64 0, .string ⟨#[]⟩, .slice none 0 0], .bool false]) (by simp [results, Tryd.results11, go_sem]) rfl (epost_no HN.out ((Below.refl _ _).alloc (Nat.le_refl _) _))

set_option maxRecDepth 20000 in
set_option maxHeartbeats 1000000 in
theorem sReadE_no3 (s : ByteArray) (wd : Int) (w : World) (hs : s.size ≤ 1048576) (h1 : 1 ≤ wd) (h2 : wd ≤ 8) (A5 : Nat) (h6 : 6 ≤ s.size) (g5 : s[5].toNat = A5) (hN : rdE s wd = erNo) (hf : s.size < 6 + A5) :
    Calls Tryd.prog 11 #[.string s, .int .i64 wd] w (ReadEPost s wd w) := by
  have hd : decide (1 ≤ wd ∧ wd ≤ 8) = true := by simp [h1, h2]
  have hd6 : decide ((s.size : Int) < 6) = false := by simp; omega
  have hlt : (5 : Int) < s.size := by omega
  have hdf : decide ((s.size : Int) < 6 + (A5 : Int)) = true := by simp; omega
  have b5 : A5 < 256 := by rw [← g5]; exact s[5].toNat_lt
  have hwb := wrap64_byte s[5]
  rw [g5] at hwb
  have HN : Hid _ := hN
  clear hN
  go_enter Tryd.func11, Tryd.ntmps11
  go_wp2_with (go_at_call 31; refine (l1WidthE wd _).mono ?_; rintro e w' ⟨rfl, hw'⟩; rw [hw']; clear hw' w')
  exact bodyPost_ret (v := .tuple #[.agg #[.int .i64 0, .string ⟨#[]⟩, .string ⟨#[]⟩, .int .i64 0, .string ⟨#[]⟩, .slice none 0 0], .bool false]) (by simp [results, Tryd.results11, go_sem]) rfl (epost_no HN.out ((Below.refl _ _).alloc (Nat.le_refl _) _))

set_option maxRecDepth 20000 in
set_option maxHeartbeats 8000000 in
theorem sReadE_yes (s : ByteArray) (wd : Int) (A0 A1 A2 A3 A4 A5 : Nat) (w : World) (hs : s.size ≤ 1048576) (h1 : 1 ≤ wd) (h2 : wd ≤ 8) (h6 : 6 ≤ s.size) (g0 : s[0].toNat = A0) (g1 : s[1].toNat = A1) (g2 : s[2].toNat = A2) (g3 : s[3].toNat = A3) (g4 : s[4].toNat = A4) (g5 : s[5].toNat = A5) (hf : 6 + A5 ≤ s.size)
    (name rs : ByteArray) (hnm : s.extract 6 (6 + A5) = name) (hrs : s.extract (6 + A5) s.size = rs) (n : Int) (hn : (A1 : Int) * 16777216 + (A2 : Int) * 65536 + (A3 : Int) * 256 + (A4 : Int) = n)
    (sm tt : ByteArray) (rr : List ByteArray) (hsm : sm = if (A0 : Int) = 1 then ⟨#[]⟩ else rs) (htt : tt = if (A0 : Int) = 1 then (rd rs wd).1 else ⟨#[]⟩) (hrr : rr = if (A0 : Int) = 1 then (rd rs wd).2.1 else [])
    (hR : rdE s wd = if (okE A0 sm name n tt rr wd && decide (entTxt A0 sm name n tt rr wd = s)) = true then ⟨A0, sm, name, n, tt, rr, true⟩ else erNo) :
    Calls Tryd.prog 11 #[.string s, .int .i64 wd] w (ReadEPost s wd w) := by
  have hd : decide (1 ≤ wd ∧ wd ≤ 8) = true := by simp [h1, h2]
  have hd6 : decide ((s.size : Int) < 6) = false := by simp; omega
  have l5 : (5 : Int) < s.size := by omega
  have hdf : decide ((s.size : Int) < 6 + (A5 : Int)) = false := by simp; omega
  have b0 : A0 < 256 := by rw [← g0]; exact s[0].toNat_lt
  have b1 : A1 < 256 := by rw [← g1]; exact s[1].toNat_lt
  have b2 : A2 < 256 := by rw [← g2]; exact s[2].toNat_lt
  have b3 : A3 < 256 := by rw [← g3]; exact s[3].toNat_lt
  have b4 : A4 < 256 := by rw [← g4]; exact s[4].toNat_lt
  have b5 : A5 < 256 := by rw [← g5]; exact s[5].toNat_lt
  have w0 := wrap64_byte s[0]
  have w1 := wrap64_byte s[1]
  have w2 := wrap64_byte s[2]
  have w3 := wrap64_byte s[3]
  have w4 := wrap64_byte s[4]
  have w5 := wrap64_byte s[5]
  rw [g0] at w0
  rw [g1] at w1
  rw [g2] at w2
  rw [g3] at w3
  rw [g4] at w4
  rw [g5] at w5
  have HBs : Hid _ := And.intro b0 (And.intro b1 (And.intro b2 (And.intro b3 b4)))
  have HWs : Hid _ := And.intro w0 (And.intro w1 (And.intro w2 (And.intro w3 w4)))
  have HGs : Hid _ := And.intro g0 (And.intro g1 (And.intro g2 (And.intro g3 g4)))
  have HX : Hid _ := And.intro hs (And.intro h1 h2)
  have HEQ : Hid _ := And.intro hnm (And.intro hrs (And.intro hn (And.intro hsm (And.intro htt (And.intro hrr hR)))))
  clear hnm hrs hn hsm htt hrr hR
  clear b0 b1 b2 b3 b4 w0 w1 w2 w3 w4 g0 g1 g2 g3 g4
  obtain ⟨W, hW⟩ : ∃ W, W = w.alloc (.cells #[.int .i64 0, .string ⟨#[]⟩, .string ⟨#[]⟩, .int .i64 0, .string ⟨#[]⟩, .slice none 0 0] 31) := ⟨_, rfl⟩
  have hwW : Below w.heap.size w W := by rw [hW]; exact (Below.refl _ _).alloc (Nat.le_refl _) _
  have hz : w.heap.size < W.heap.size := by rw [hW]; simp
  have R0 : Hid (CellsAt W w.heap.size [.int .i64 0, .string ⟨#[]⟩, .string ⟨#[]⟩, .int .i64 0, .string ⟨#[]⟩, .slice none 0 0]) := by rw [hW]; exact CellsAt.new w _ _
  have HW : Hid _ := hW
  clear hW
  go_enter Tryd.func11, Tryd.ntmps11
  go_upto_region 1 with fail
  rw [← HW.out]
  clear HW
  go_upto_region 3 with (go_at_call 31; refine (l1WidthE wd _).mono ?_; rintro e w' ⟨rfl, hw'⟩; rw [hw']; clear hw' w')
  go_cut [6] (fun v wx => v = .pointer (some ⟨W.heap.size, 0, none⟩) ∧ wx = (W.alloc (.cells #[.int .i64 (A0 : Int), .string ⟨#[]⟩, .string ⟨#[]⟩, .int .i64 n, .string ⟨#[]⟩, .slice none 0 0] 31)).drew)
  case first =>
    obtain ⟨b0, b1, b2, b3, b4⟩ := HBs.out
    have m1 := wrapI ((A1 : Int) * 16777216) (by omega) (by omega)
    have m2 := wrapI ((A2 : Int) * 65536) (by omega) (by omega)
    have m3 := wrapI ((A3 : Int) * 256) (by omega) (by omega)
    have p1 := wrapI ((A1 : Int) * 16777216 + (A2 : Int) * 65536) (by omega) (by omega)
    have p2 := wrapI ((A1 : Int) * 16777216 + (A2 : Int) * 65536 + (A3 : Int) * 256) (by omega) (by omega)
    have p3 := wrapI ((A1 : Int) * 16777216 + (A2 : Int) * 65536 + (A3 : Int) * 256 + (A4 : Int)) (by omega) (by omega)
    have l0 : (0 : Int) < s.size := by omega
    have l1 : (1 : Int) < s.size := by omega
    have l2 : (2 : Int) < s.size := by omega
    have l3 : (3 : Int) < s.size := by omega
    have l4 : (4 : Int) < s.size := by omega
    obtain ⟨w0, w1, w2, w3, w4⟩ := HWs.out
    obtain ⟨g0, g1, g2, g3, g4⟩ := HGs.out
    clear b0 b1 b2 b3 b4 b5 hdf hd6 hd
    have H5 : Hid _ := And.intro g5 (And.intro w5 l5)

    clear w5 l5
    go_big_region
    go_wp2_with fail
    go_meet
    exact ⟨rfl, by rw [HEQ.out.2.2.1]⟩
  case rest =>
  revert wc
  intro W3 hcut
  obtain ⟨rfl, hW3⟩ := hcut
  have hf' := hf
  clear b5 hdf hd6 hd HBs HWs HGs HX
  have hb3 : Below W.heap.size W W3 := by rw [hW3]; exact ((Below.refl _ _).alloc (Nat.le_refl _) _).drew
  have Z3 : CellsAt W3 W.heap.size [.int .i64 (A0 : Int), .string ⟨#[]⟩, .string ⟨#[]⟩, .int .i64 n, .string ⟨#[]⟩, .slice none 0 0] := by rw [hW3]; exact CellsAt.new W _ _
  have R3 := R0.out.below hb3
  have B3 := hwW.trans (hb3.mono (Nat.le_of_lt hz))
  obtain ⟨B, hB⟩ : ∃ B, B = W.heap.size := ⟨_, rfl⟩
  rw [← hB] at Z3
  have HB : Hid _ := hB
  obtain ⟨z2, zf2⟩ := Z3 2 _ rfl
  have hzB : w.heap.size < B := by omega
  obtain ⟨W4, hW4⟩ : ∃ W4, W4 = W3.setCell ⟨B, 2, none⟩ (.string name) := ⟨_, rfl⟩
  have Z4 : Hid (CellsAt W4 B [.int .i64 (A0 : Int), .string ⟨#[]⟩, .string name, .int .i64 n, .string ⟨#[]⟩, .slice none 0 0]) := by rw [hW4]; exact Z3.set 2 _
  have R4 : Hid (CellsAt W4 w.heap.size [.int .i64 0, .string ⟨#[]⟩, .string ⟨#[]⟩, .int .i64 0, .string ⟨#[]⟩, .slice none 0 0]) := by rw [hW4]; exact R3.far' (rd_grown _ _ _ _) (by omega)
  have B4 : Hid (Below w.heap.size w W4) := by rw [hW4]; exact B3.setCell (p := ⟨B, 2, none⟩) (Nat.le_of_lt hzB) _
  have HW4 : Hid _ := hW4
  have Hn : Hid _ := HEQ.out.1
  have Hr : Hid _ := HEQ.out.2.1
  rw [← hB]
  clear hW3 hb3 hW4 R3 B3 hB Z3
  have e6 : ((6 : Int) + (A5 : Int)).toNat = 6 + A5 := by omega
  have u1 : (6 : Int) ≤ 6 + (A5 : Int) := by omega
  have u2 : (6 : Int) + (A5 : Int) ≤ (s.size : Int) := by omega
  go_upto_region 6 with fail
  rw [Hn.out, Hr.out, ← HW4.out]
  have hsr : rs.size ≤ 1048576 := by rw [← Hr.out]; simp; omega
  have hsn : name.size ≤ 1048576 := by rw [← Hn.out]; simp; omega
  have hNo : W.heap.size = B := HB.out.symm
  clear HW4 Hn Hr z2 zf2 e6 u1 u2 w5 l5 R0 hwW hz hNo HB
  clear g5
  clear hf hf' h6
  have HX : Hid _ := And.intro hs (And.intro h1 h2)
  clear hs h1 h2
  obtain ⟨z0, _⟩ := Z4.out 0 _ rfl
  go_upto_if 63 with fail
  go_cut [] (fun wx => ∃ (ra : Option Addr) (rc : Nat), Hid (CellsAt wx B [.int .i64 (A0 : Int), .string sm, .string name, .int .i64 n, .string tt, .slice ra rr.length rc]) ∧ Hid (CellsAt wx w.heap.size [.int .i64 0, .string ⟨#[]⟩, .string ⟨#[]⟩, .int .i64 0, .string ⟨#[]⟩, .slice none 0 0]) ∧ Hid (wx.ownsRow (w.heap.size + 1) 9 1 (.slice ra rr.length rc) rr.length (rr.map Value.string)) ∧ Hid (Below w.heap.size w wx))
  case first =>
    by_cases hk : (A0 : Int) = 1
    · have e1 : Hid (sm = ⟨#[]⟩) := by show _ = _; rw [HEQ.out.2.2.2.1, if_pos hk]
      have e2 : Hid (tt = (rd rs wd).1) := by show _ = _; rw [HEQ.out.2.2.2.2.1, if_pos hk]
      have e3 : Hid (rr = (rd rs wd).2.1) := by show _ = _; rw [HEQ.out.2.2.2.2.2.1, if_pos hk]
      have hq : ((A0 : Int) == 1) = true := by simpa using hk
      have HK : Hid _ := hk
      clear hk
      go_wp2_with fail
      have HR := sRead_any rs wd W4 hsr
      unfold ReadPost at HR
      refine HR.mono ?_
      rintro e w5 ⟨v, rfl, ho, hb5⟩
      rw [← e3.out] at ho
      rw [← e2.out]
      obtain ⟨ra, rc, hv, _⟩ := own_form ho
      subst hv
      have Z5 := CellsAt.below Z4.out hb5
      have R5 := CellsAt.below R4.out hb5
      have hBl : B < W4.heap.size := Z4.out.lt
      obtain ⟨z4, zf4⟩ := Z5 4 _ rfl
      obtain ⟨z5, zf5⟩ := Z5 5 _ rfl
      have B5 := B4.out.trans (hb5.mono B4.out.size)
      clear HR hb5 z0 hq
      go_wp2_with fail
      go_meet
      refine ⟨ra, rc, ?_, ?_, ?_, ?_⟩
      · rw [e1.out]
        exact (Z5.set 4 _).set 5 _
      · exact (R5.far' (rd_grown _ B 4 _) (by omega)).far' (rd_grown _ B 5 _) (by omega)
      · exact (ownsRow_setCell_below (ownsRow_setCell_below ho hBl _) hBl _).mono (by omega)
      · exact (B5.setCell (p := ⟨B, 4, none⟩) (Nat.le_of_lt hzB) _).setCell (p := ⟨B, 5, none⟩) (Nat.le_of_lt hzB) _
    · have e1 : Hid (sm = rs) := by show _ = _; rw [HEQ.out.2.2.2.1, if_neg hk]
      have e2 : Hid (tt = ⟨#[]⟩) := by show _ = _; rw [HEQ.out.2.2.2.2.1, if_neg hk]
      have e3 : Hid (rr = []) := by show _ = _; rw [HEQ.out.2.2.2.2.2.1, if_neg hk]
      have hq : ((A0 : Int) == 1) = false := by simpa using hk
      obtain ⟨z1, zf1⟩ := Z4.out 1 _ rfl
      have HK : Hid _ := hk
      clear hk
      go_wp2_with fail
      go_meet
      refine ⟨none, 0, ?_, ?_, ?_, ?_⟩
      · rw [e1.out, e2.out, e3.out]
        exact Z4.out.set 1 _
      · exact R4.out.far' (rd_grown _ B 1 _) (by omega)
      · rw [e3.out]
        exact World.ownsRow_nil _ _ _ _
      · exact B4.out.setCell (p := ⟨B, 1, none⟩) (Nat.le_of_lt hzB) _
  case rest =>
  revert wc
  intro w6 hcut
  obtain ⟨ra, rc, Z6, R6, O6, B6⟩ := hcut
  clear Z4 R4 B4 z0
  obtain ⟨z0, _⟩ := Z6.out 0 _ rfl
  obtain ⟨z1, _⟩ := Z6.out 1 _ rfl
  obtain ⟨z2, _⟩ := Z6.out 2 _ rfl
  obtain ⟨z3, _⟩ := Z6.out 3 _ rfl
  obtain ⟨z4, _⟩ := Z6.out 4 _ rfl
  obtain ⟨z5, _⟩ := Z6.out 5 _ rfl
  have hrl : rr.length ≤ 255 := by
    rw [HEQ.out.2.2.2.2.2.1]
    split
    · exact rd_le _ _
    · exact Nat.zero_le _
  have htl : tt.size ≤ maxLen := by
    rw [HEQ.out.2.2.2.2.1]
    unfold maxLen
    split
    · have := rd_size rs wd; omega
    · exact Nat.zero_le _
  have hnl : name.size ≤ maxLen := by unfold maxLen; omega
  have HSR : Hid (SRow w6 w6.heap.size ra rr) := by
    obtain ⟨a', c', hv, hr⟩ := own_form O6.out
    cases hv
    exact hr
  have HT : Hid _ := And.intro hrl (And.intro htl hnl)
  clear hrl htl hnl hsr hsn
  go_wp2_with fail
  refine (sOkE (A0 : Int) sm name n tt ra rc rr wd w6 HSR.out (by have := HT.out.1; omega) HT.out.2.1 HT.out.2.2).mono ?_
  rintro e w7 ⟨rfl, hb7⟩
  have Z7 : Hid (CellsAt w7 B [.int .i64 (A0 : Int), .string sm, .string name, .int .i64 n, .string tt, .slice ra rr.length rc]) := Z6.out.below hb7
  have R7 : Hid (CellsAt w7 w.heap.size [.int .i64 0, .string ⟨#[]⟩, .string ⟨#[]⟩, .int .i64 0, .string ⟨#[]⟩, .slice none 0 0]) := R6.out.below hb7
  have O7 : Hid (w7.ownsRow (w.heap.size + 1) 9 1 (.slice ra rr.length rc) rr.length (rr.map Value.string)) := O6.out.kept (grown_below none hb7) (Classical.em _)
  have B7 : Hid (Below w.heap.size w w7) := B6.out.trans (hb7.mono B6.out.size)
  have S7 : Hid (SRow w7 w7.heap.size ra rr) := SRow.below' HSR.out hb7
  clear Z6 R6 O6 B6 HSR hb7 z0 z1 z2 z3 z4 z5
  obtain ⟨z0, _⟩ := Z7.out 0 _ rfl
  obtain ⟨z1, _⟩ := Z7.out 1 _ rfl
  obtain ⟨z2, _⟩ := Z7.out 2 _ rfl
  obtain ⟨z3, _⟩ := Z7.out 3 _ rfl
  obtain ⟨z4, _⟩ := Z7.out 4 _ rfl
  obtain ⟨z5, _⟩ := Z7.out 5 _ rfl
  cases hok : okE (A0 : Int) sm name n tt rr wd with
  | false =>
    have hE : Hid (rdE s wd = erNo) := by show _ = _; rw [HEQ.out.2.2.2.2.2.2, if_neg (by rw [hok]; simp)]
    obtain ⟨r0, q0⟩ := R7.out 0 _ rfl
    obtain ⟨r1, q1⟩ := R7.out 1 _ rfl
    obtain ⟨r2, q2⟩ := R7.out 2 _ rfl
    obtain ⟨r3, q3⟩ := R7.out 3 _ rfl
    obtain ⟨r4, q4⟩ := R7.out 4 _ rfl
    obtain ⟨r5, q5⟩ := R7.out 5 _ rfl
    clear z0 z1 z2 z3 z4 z5 hok
    go_wp2
    refine bodyPost_ret (v := .tuple #[.agg #[.int .i64 0, .string ⟨#[]⟩, .string ⟨#[]⟩, .int .i64 0, .string ⟨#[]⟩, .slice none 0 0], .bool false]) (by simp [results, Tryd.results11, go_sem, *]) rfl ?_
    refine epost_no hE.out ?_
    iterate 6 (refine Below.setCell ?_ (show w.heap.size ≤ w.heap.size from Nat.le_refl _) _)
    exact B7.out
  | true =>
    have HOK : Hid _ := hok
    clear hok
    go_wp2_with fail
    refine (sFormE (A0 : Int) sm name n tt ra rc rr wd w7 S7.out (by have := HT.out.1; omega) HT.out.2.1 HT.out.2.2).mono ?_
    rintro e w8 ⟨rfl, hb8⟩
    have Z8 := Z7.out.below hb8
    have R8 := R7.out.below hb8
    have O8 := O7.out.kept (grown_below none hb8) (Classical.em _)
    have B8 := B7.out.trans (hb8.mono B7.out.size)
    clear z0 z1 z2 z3 z4 z5
    obtain ⟨z0, _⟩ := Z8 0 _ rfl
    obtain ⟨z1, _⟩ := Z8 1 _ rfl
    obtain ⟨z2, _⟩ := Z8 2 _ rfl
    obtain ⟨z3, _⟩ := Z8 3 _ rfl
    obtain ⟨z4, _⟩ := Z8 4 _ rfl
    obtain ⟨z5, _⟩ := Z8 5 _ rfl
    obtain ⟨r0, q0⟩ := R8 0 _ rfl
    obtain ⟨r1, q1⟩ := R8 1 _ rfl
    obtain ⟨r2, q2⟩ := R8 2 _ rfl
    obtain ⟨r3, q3⟩ := R8 3 _ rfl
    obtain ⟨r4, q4⟩ := R8 4 _ rfl
    obtain ⟨r5, q5⟩ := R8 5 _ rfl
    have HC : Hid _ := And.intro O8 B8
    clear Z8 R8 O8 B8 hb8
    obtain ⟨tx, htx⟩ : ∃ tx, tx = entTxt (A0 : Int) sm name n tt rr wd := ⟨_, rfl⟩
    rw [← htx]
    by_cases heq : tx = s
    · have hE : Hid (rdE s wd = ⟨A0, sm, name, n, tt, rr, true⟩) := by show _ = _; rw [HEQ.out.2.2.2.2.2.2, if_pos (by rw [HOK.out, ← htx, heq]; simp)]
      subst heq
      clear htx
      go_wp2
      refine bodyPost_ret (v := .tuple #[.agg #[.int .i64 (A0 : Int), .string sm, .string name, .int .i64 n, .string tt, .slice ra rr.length rc], .bool true]) (by simp [results, Tryd.results11, go_sem, *]) rfl ?_
      unfold ReadEPost
      rw [hE.out]
      have hlt : w.heap.size < w.heap.size + 1 := Nat.lt_succ_self _
      refine ⟨_, rfl, ?_, ?_⟩
      · refine World.ownsRow.mono ?_ (Nat.le_of_lt hlt)
        iterate 6 (refine ownsRow_setCell_below ?_ hlt _)
        exact HC.out.1
      · iterate 6 (refine Below.setCell ?_ (show w.heap.size ≤ w.heap.size from Nat.le_refl _) _)
        exact HC.out.2
    · have hE : Hid (rdE s wd = erNo) := by show _ = _; rw [HEQ.out.2.2.2.2.2.2, if_neg (by rw [HOK.out, ← htx]; simpa using heq)]
      have hne : (tx.toList == s.toList) = false := by
        rw [beq_eq_false_iff_ne]
        intro h
        rw [ByteArray.toList_eq, ByteArray.toList_eq] at h
        exact heq (ByteArray.ext (Array.toList_inj.1 h))
      have hne' : (tx.toList != s.toList) = true := by rw [bne, hne]; rfl
      clear htx heq
      go_wp2
      refine bodyPost_ret (v := .tuple #[.agg #[.int .i64 0, .string ⟨#[]⟩, .string ⟨#[]⟩, .int .i64 0, .string ⟨#[]⟩, .slice none 0 0], .bool false]) (by simp [results, Tryd.results11, go_sem, *]) rfl ?_
      refine epost_no hE.out ?_
      iterate 6 (refine Below.setCell ?_ (show w.heap.size ≤ w.heap.size from Nat.le_refl _) _)
      exact HC.out.2

theorem sReadE_any (s : ByteArray) (wd : Int) (w : World) (hs : s.size ≤ 1048576) :
    Calls Tryd.prog 11 #[.string s, .int .i64 wd] w (ReadEPost s wd w) := by
  by_cases hw : 1 ≤ wd ∧ wd ≤ 8
  · obtain ⟨h1, h2⟩ := hw
    by_cases h6 : s.size < 6
    · exact sReadE_no2 s wd w h1 h2 h6
    · obtain ⟨l, rfl⟩ : ∃ l, s = mkB l := ⟨s.data.toList, rfl⟩
      rw [mkB_size] at hs h6
      match l, hs, h6 with
      | a0 :: a1 :: a2 :: a3 :: a4 :: a5 :: T, hs, h6 =>
        have hsz : (mkB (a0 :: a1 :: a2 :: a3 :: a4 :: a5 :: T)).size = T.length + 6 := by rw [mkB_size]; rfl
        by_cases hT : a5.toNat ≤ T.length
        · refine sReadE_yes _ wd a0.toNat a1.toNat a2.toNat a3.toNat a4.toNat a5.toNat w (by rw [mkB_size]; exact hs) h1 h2 (by omega) rfl rfl rfl rfl rfl rfl (by omega) (mkB (T.take a5.toNat)) (mkB (T.drop a5.toNat)) ?_ ?_ (numB [a1, a2, a3, a4]) (numB4 a1 a2 a3 a4).symm _ _ _ rfl rfl rfl ?_
          · rw [mkB_ex, show 6 + a5.toNat - 6 = a5.toNat by omega]
            rfl
          · rw [hsz, mkB_ex]
            congr 2
            rw [show 6 + a5.toNat = a5.toNat + 6 by omega]
            show (T.drop a5.toNat).take _ = _
            exact List.take_of_length_le (by simp)
          · exact rdE_shape a0 a1 a2 a3 a4 a5 T h1 h2 hT
        · exact sReadE_no3 _ wd w (by rw [mkB_size]; exact hs) h1 h2 a5.toNat (by omega) rfl (rdE_name h1 h2 (by omega)) (by omega)
      | [], _, h6 => simp at h6
      | [_], _, h6 => simp at h6
      | [_, _], _, h6 => simp at h6
      | [_, _, _], _, h6 => simp at h6
      | [_, _, _, _], _, h6 => simp at h6
      | [_, _, _, _, _], _, h6 => simp at h6
  · exact sReadE_no1 s wd w hw
end Go.Proofs.YtdecihmplkgfkaaDoor
