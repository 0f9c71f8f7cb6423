/-
  spec.l1Rd: a code that is read byte by byte; pick.
-/
import Derived.Test.YtdecihmplkgfkaaDoorMarkS
import Derived.BigQuiet
namespace Go.Proofs.YtdecihmplkgfkaaDoor
open Go.ChangeShapes Go.WideShapes Go.ChangeAt Go.RowKit

/-- A reader: its bytes, and its place. -/
structure RdSt (w : World) (b : Nat) (a : Option Addr) (n c : Nat) (p : Int) : Prop where
  c0 : w.cell? ⟨b, 0, none⟩ = some (.slice a n c)
  c1 : w.cell? ⟨b, 1, none⟩ = some (.int .i64 p)
  f1 : w.frozen? ⟨b, 1, none⟩ = false
  lt : b < w.heap.size
  n2 : n ≤ 2000
  bytes : n = 0 ∨ ∃ q off, a = some ⟨q, off, none⟩ ∧ q < b ∧ ∀ j, j < n → ∃ x : Int, w.cell? ⟨q, off + j, none⟩ = some (.int .u8 x) ∧ 0 ≤ x ∧ x < 256

theorem RdSt.next {w : World} {b : Nat} {a : Option Addr} {n c : Nat} {p : Int} (h : RdSt w b a n c p) (p' : Int) : RdSt (w.setCell ⟨b, 1, none⟩ (.int .i64 p')) b a n c p' := by
  obtain ⟨c0, c1, f1, hlt, hn2, hby⟩ := h
  refine ⟨by simp [go_sem, c0], by simp [go_sem, c1], by simpa [go_sem] using f1, by simpa using hlt, hn2, ?_⟩
  rcases hby with h | ⟨q, off, ha, hqb, hx⟩
  · exact .inl h
  · refine .inr ⟨q, off, ha, hqb, fun j hj => ?_⟩
    obtain ⟨x, hc, h0, h1⟩ := hx j hj
    exact ⟨x, by rw [World.cell?_setCell_other _ _ _ _ (by intro e; injection e; omega)]; exact hc, h0, h1⟩

theorem RdSt.drew {w : World} {b : Nat} {a : Option Addr} {n c : Nat} {p : Int} (h : RdSt w b a n c p) : RdSt w.drew b a n c p := ⟨h.c0, h.c1, h.f1, h.lt, h.n2, h.bytes⟩

theorem RdSt.drewN {w : World} {b : Nat} {a : Option Addr} {n c : Nat} {p : Int} (h : RdSt w b a n c p) (k : Nat) : RdSt (w.drewN k) b a n c p := ⟨h.c0, h.c1, h.f1, h.lt, h.n2, h.bytes⟩

theorem grown_drewN {w w' : World} {r : Option Nat} (h : w.grownBy w' r) (k : Nat) : w.grownBy (w'.drewN k) r := ⟨h.os, h.tape, h.output, h.size, h.block⟩

/-- What was there is as it was, but for block b: behind it a younger row has been written. -/
theorem dr_merge {w w1 w2 : World} {b g : Nat} (h1 : w.grownBy w1 (some b)) (h2 : w1.grownBy w2 (some g)) (hg : w.heap.size ≤ g) : w.grownBy w2 (some b) :=
  ⟨h2.os.trans h1.os, h2.tape.trans h1.tape, h2.output.trans h1.output, Nat.le_trans h1.size h2.size, fun k hk hne => (h2.block k (Nat.lt_of_lt_of_le hk h1.size) (by intro e; cases e; omega)).trans (h1.block k hk hne)⟩

theorem dr_grown (w : World) (g p : Nat) (v : Value) : w.grownBy (w.setCell ⟨g, p, none⟩ v) (some g) :=
  ⟨rfl, rfl, rfl, by simp, fun i _ hi => Below.heap_setCell _ _ _ _ (fun e => hi (by rw [e]))⟩

theorem RdSt.grown {w w' : World} {b : Nat} {a : Option Addr} {n c : Nat} {p : Int} {g : Nat} (h : RdSt w b a n c p) (hg : w.grownBy w' (some g)) (hb : b < g) : RdSt w' b a n c p := by
  have hz := hg.size
  have hl := h.lt
  refine ⟨hg.cell h.c0 (by simp; omega), hg.cell h.c1 (by simp; omega), (hg.frozen_far ⟨b, 1, none⟩ hl (by simp; omega)).trans h.f1, by omega, h.n2, ?_⟩
  rcases h.bytes with h | ⟨q, off, ha, hqb, hx⟩
  · exact .inl h
  · refine .inr ⟨q, off, ha, hqb, fun j hj => ?_⟩
    obtain ⟨x, hc, h0, h1⟩ := hx j hj
    exact ⟨x, hg.cell hc (by simp; omega), h0, h1⟩

theorem RdSt.below {w w' : World} {b : Nat} {a : Option Addr} {n c : Nat} {p : Int} (h : RdSt w b a n c p) (hb : Below w.heap.size w w') : RdSt w' b a n c p := by
  have hl := h.lt
  refine ⟨(hb.cell (p := ⟨b, 0, none⟩) hl).trans h.c0, (hb.cell (p := ⟨b, 1, none⟩) hl).trans h.c1, (hb.frozen (p := ⟨b, 1, none⟩) hl).trans h.f1, Nat.lt_of_lt_of_le hl hb.size, h.n2, ?_⟩
  rcases h.bytes with h | ⟨q, off, ha, hqb, hx⟩
  · exact .inl h
  · refine .inr ⟨q, off, ha, hqb, fun j hj => ?_⟩
    obtain ⟨x, hc, h0, h1⟩ := hx j hj
    exact ⟨x, (hb.cell (p := ⟨q, off + j, none⟩) (by simp; omega)).trans hc, h0, h1⟩

theorem dr_wrap {a : Int} (h0 : 0 ≤ a) (h1 : a ≤ 2000000000) : IntKind.i64.wrap a = a := by
  unfold IntKind.wrap
  simp [IntKind.signed, IntKind.bits]
  omega

theorem bits_xor (a b : Nat) (ha : a < 2 ^ 30) (hb : b < 2 ^ 30) : ∃ z : Nat, bits .xor .i64 (a : Int) (b : Int) = (z : Int) := by
  refine ⟨a ^^^ b, ?_⟩
  have hx : a ^^^ b < 2 ^ 30 := Nat.xor_lt_two_pow ha hb
  have e1 : (BitVec.ofInt 64 (a : Int) ^^^ BitVec.ofInt 64 (b : Int)).toNat = a ^^^ b := by
    rw [BitVec.toNat_xor, BitVec.ofInt_natCast, BitVec.ofInt_natCast, BitVec.toNat_ofNat, BitVec.toNat_ofNat, Nat.mod_eq_of_lt (by omega), Nat.mod_eq_of_lt (by omega)]
  show IntKind.i64.wrap ((BitVec.ofInt 64 (a : Int) ^^^ BitVec.ofInt 64 (b : Int)).toNat : Int) = _
  rw [e1]
  exact dr_wrap (by omega) (by omega)

set_option maxRecDepth 20000 in
set_option maxHeartbeats 4000000 in
theorem pick_any (b : Nat) (a : Option Addr) (n c : Nat) (p m : Int) (w : World) (h : RdSt w b a n c p) (hp : 0 ≤ p) (hp2 : p ≤ 1000000) (hm : 1 ≤ m) (hm2 : m ≤ 10000) :
    Calls Tryd.prog 40 #[.pointer (some ⟨b, 0, none⟩), .int .i64 m] w fun e w' => ∃ r : Int, e = .returned (.int .i64 r) ∧ 0 ≤ r ∧ r < m ∧ RdSt w' b a n c (p + 1) ∧ w.grownBy w' (some b) := by
  have HN : Hid (RdSt (w.setCell ⟨b, 1, none⟩ (.int .i64 (p + 1))) b a n c (p + 1) ∧ w.grownBy (w.setCell ⟨b, 1, none⟩ (.int .i64 (p + 1))) (some b)) := ⟨h.next _, dr_grown _ _ _ _⟩
  obtain ⟨c0, c1, f1, hlt, hn2, hby⟩ := h
  have w1 : IntKind.i64.wrap (p + 1) = p + 1 := dr_wrap (by omega) (by omega)
  have hm1 : decide (m < 1) = false := by simp; omega
  have hm0 : (m == 0) = false := beq_eq_false_iff_ne.2 (by omega)
  by_cases hn : n = 0
  · subst hn
    go_enter Tryd.func40, Tryd.ntmps40
    go_wp2
    go_ret
    exact ⟨0, rfl, by omega, by omega, HN.out.1, HN.out.2⟩
  · obtain ⟨q, off, ha, hqb, hx⟩ := hby.resolve_left hn
    subst ha
    have hnb : ((n : Int) == 0) = false := beq_eq_false_iff_ne.2 (by omega)
    go_enter Tryd.func40, Tryd.ntmps40
    by_cases hk : p < n
    · obtain ⟨x, hc, hx0, hx1⟩ := hx p.toNat (by omega)
      obtain ⟨k, rfl⟩ : ∃ k : Nat, p = k := ⟨p.toNat, by omega⟩
      simp only [Int.toNat_natCast] at hc
      go_wp2
      go_ret
      exact ⟨_, rfl, Int.emod_nonneg _ (by omega), Int.emod_lt_of_pos _ (by omega), HN.out.1, HN.out.2⟩
    · obtain ⟨k, rfl⟩ : ∃ k : Nat, p = k := ⟨p.toNat, by omega⟩
      have hk' : decide ((k : Int) < (n : Int)) = false := by simp; omega
      have hi1 : k % n < n := Nat.mod_lt _ (by omega)
      have hi2 : (k * 7 + 3) % n < n := Nat.mod_lt _ (by omega)
      obtain ⟨x, hc, hx0, hx1⟩ := hx _ hi1
      obtain ⟨y, hd, hy0, hy1⟩ := hx _ hi2
      have e1 : (k : Int) % (n : Int) = ((k % n : Nat) : Int) := by simp
      have e2 : ((k : Int) * 7 + 3) % (n : Int) = (((k * 7 + 3) % n : Nat) : Int) := by simp
      have hdv : k / n ≤ k := Nat.div_le_self _ _
      have e3 : (k : Int) / (n : Int) = ((k / n : Nat) : Int) := by simp
      have hd3 : k / n ≤ 1000000 := by omega
      obtain ⟨i3, hi3⟩ : ∃ i3, i3 = k / n := ⟨_, rfl⟩
      rw [← hi3] at e3 hdv hd3
      clear hi3
      have g1 : IntKind.i64.wrap ((k : Int) * 7) = (k : Int) * 7 := dr_wrap (by omega) (by omega)
      have g2 : IntKind.i64.wrap ((k : Int) * 7 + 3) = (k : Int) * 7 + 3 := dr_wrap (by omega) (by omega)
      have g3 : IntKind.i64.wrap (x * 131) = x * 131 := dr_wrap (by omega) (by omega)
      have g4 : IntKind.i64.wrap (y * 1117) = y * 1117 := dr_wrap (by omega) (by omega)
      have g5 : IntKind.i64.wrap (x * 131 + y * 1117) = x * 131 + y * 1117 := dr_wrap (by omega) (by omega)
      have g6 : IntKind.i64.wrap ((k : Int) * 29) = (k : Int) * 29 := dr_wrap (by omega) (by omega)
      have g7 : IntKind.i64.wrap (x * 131 + y * 1117 + (k : Int) * 29) = x * 131 + y * 1117 + (k : Int) * 29 := dr_wrap (by omega) (by omega)
      have g8 : IntKind.i64.wrap ((i3 : Int) * 53) = (i3 : Int) * 53 := dr_wrap (by omega) (by omega)
      have g9 : IntKind.i64.wrap (x * 131 + y * 1117 + (k : Int) * 29 + (i3 : Int) * 53) = x * 131 + y * 1117 + (k : Int) * 29 + (i3 : Int) * 53 := dr_wrap (by omega) (by omega)
      generalize k % n = i1 at *
      generalize (k * 7 + 3) % n = i2 at *
      clear hx hby
      go_wp2
      go_quiet (fail)
      obtain ⟨X, hX⟩ : ∃ X : Nat, x * 131 + y * 1117 + (k : Int) * 29 + (i3 : Int) * 53 = X := ⟨(x * 131 + y * 1117 + (k : Int) * 29 + (i3 : Int) * 53).toNat, by omega⟩
      have hXb : X < 2 ^ 30 := by omega
      have hX64 : (X : Int) / 64 = ((X / 64 : Nat) : Int) := by simp
      obtain ⟨z, hz⟩ := bits_xor X (X / 64) hXb (by omega)
      rw [← hX64, ← hX] at hz
      have hz2 : (z : Int).tmod m = (z : Int) % m := Int.tmod_eq_emod_of_nonneg (by omega)
      clear hX64 hX hXb X
      go_wp2
      go_ret
      exact ⟨(z : Int) % m, by rfl, Int.emod_nonneg _ (by omega), Int.emod_lt_of_pos _ (by omega), RdSt.drewN HN.out.1 _, grown_drewN HN.out.2 _⟩

set_option maxHeartbeats 1000000 in
theorem l1Open_any (a : Option Addr) (n c : Nat) (w : World) (hn : n ≤ maxLen) (hb : n = 0 ∨ ∃ q off, a = some ⟨q, off, none⟩ ∧ q < w.heap.size ∧ ∀ j, j < n → ∃ x : Int, w.cell? ⟨q, off + j, none⟩ = some (.int .u8 x) ∧ 0 ≤ x ∧ x < 256) (hc : n ≤ c) :
    Calls Tryd.prog 37 #[.slice a n c] w fun e w' => ∃ n' c', e = .returned (.pointer (some ⟨w.heap.size, 0, none⟩)) ∧ RdSt w' w.heap.size a n' c' 0 ∧ Below w.heap.size w w' := by
  have hb0 : ∀ o, Below w.heap.size w (w.alloc o) := fun o => (Below.refl _ _).alloc (Nat.le_refl _) _
  unfold maxLen at hn
  have hR : ∀ n' c', n' ≤ n → n' ≤ 2000 → RdSt (w.alloc (.cells #[.slice a n' c', .int .i64 0] 115)) w.heap.size a n' c' 0 := fun n' c' h1 h2 => by
    refine ⟨by simp [go_sem], by simp [go_sem], by simp [go_sem], by simp, h2, ?_⟩
    rcases hb with h | ⟨q, off, ha, hq, hx⟩
    · exact .inl (by omega)
    · refine .inr ⟨q, off, ha, hq, fun j hj => ?_⟩
      obtain ⟨x, h3, h4⟩ := hx j (by omega)
      exact ⟨x, ((hb0 _).cell (p := ⟨q, off + j, none⟩) hq).trans h3, h4⟩
  have HR : Hid _ := hR
  clear hR
  by_cases h : n ≤ 2000
  · have hd : decide ((2000 : Int) < (n : Int)) = false := by simp; omega
    go_enter Tryd.func37, Tryd.ntmps37
    go_wp2
    go_ret
    exact ⟨n, c, rfl, HR.out n c (Nat.le_refl _) h, hb0 _⟩
  · have hd : decide ((2000 : Int) < (n : Int)) = true := by simp; omega
    obtain ⟨q, off, ha, hq, hx⟩ := hb.resolve_left (by omega)
    subst ha
    clear hx
    go_enter Tryd.func37, Tryd.ntmps37
    go_wp2
    go_ret
    exact ⟨2000, _, rfl, HR.out 2000 _ (by omega) (Nat.le_refl _), hb0 _⟩

theorem u8_wrap {a : Int} (h0 : 0 ≤ a) (h1 : a < 256) : IntKind.u8.wrap a = a := by
  unfold IntKind.wrap
  simp [IntKind.signed, IntKind.bits]
  omega

theorem strNums_size (l : List Int) : (strOfNums l).size = l.length := by unfold strOfNums; simp [ByteArray.size]

theorem Tryd.infoByteD : (Tryd.prog.info? 5).map (fun i => (i.zero, i.size, i.bytes)) = some (some (.int .u8 0), 1, 1) := by kernel_rfl

/-- A text was drawn: the reader has gone on by a few places, and nothing else that was there has turned. -/
structure Drawn (w w' : World) (b : Nat) (a : Option Addr) (n c : Nat) (p : Int) (k : Int) : Prop where
  st : ∃ p', RdSt w' b a n c p' ∧ p ≤ p' ∧ p' ≤ p + k
  gr : w.grownBy w' (some b)

set_option maxRecDepth 20000 in
set_option maxHeartbeats 4000000 in
theorem l1Text_any (b : Nat) (a : Option Addr) (n c : Nat) (p : Int) (w : World) (h : RdSt w b a n c p) (hp : 0 ≤ p) (hp2 : p ≤ 900000) :
    Calls Tryd.prog 71 #[.pointer (some ⟨b, 0, none⟩)] w fun e w' => ∃ s, e = .returned (.string s) ∧ s.size ≤ 16 ∧ Drawn w w' b a n c p 10 := by
  obtain ⟨i0, hi, hz0, hz1, hz2⟩ := info_parts Tryd.infoByteD
  go_enter Tryd.func71, Tryd.ntmps71
  go_wp2_with fail
  refine (pick_any b a n c p 9 w h hp (by omega) (by omega) (by omega)).mono ?_
  rintro e w1 ⟨r, rfl, r0, r1, h1, g1⟩
  have HD : Hid (Drawn w w1 b a n c p 10) := ⟨⟨_, h1, by omega, by omega⟩, g1⟩
  by_cases q0 : r = 0
  · have q0' : (r == 0) = true := by simpa using q0
    clear q0
    go_wp2
    go_ret
    exact ⟨_, rfl, by decide, HD.out⟩
  have q0' : (r == 0) = false := by simpa using q0
  by_cases q1 : r = 1
  · have q1' : (r == 1) = true := by simpa using q1
    clear q0 q1
    go_wp2
    go_ret
    exact ⟨_, rfl, by decide, HD.out⟩
  have q1' : (r == 1) = false := by simpa using q1
  by_cases q2 : r = 2
  · have q2' : (r == 2) = true := by simpa using q2
    clear q0 q1 q2
    go_wp2
    go_ret
    exact ⟨_, rfl, by decide, HD.out⟩
  have q2' : (r == 2) = false := by simpa using q2
  by_cases q3 : r = 3
  · have q3' : (r == 3) = true := by simpa using q3
    clear q0 q1 q2 q3
    go_wp2
    go_ret
    exact ⟨_, rfl, by decide, HD.out⟩
  have q3' : (r == 3) = false := by simpa using q3
  clear HD
  go_wp2_with fail
  refine (pick_any b a n c (p + 1) 4 w1 h1 (by omega) (by omega) (by omega) (by omega)).mono ?_
  rintro e w2 ⟨k, rfl, k0, k1, h2, g2⟩
  have g02 := grown_trans g1 g2
  have hzw2 := g02.size
  have hbl := h2.lt
  have hA : Below w2.heap.size w2 (w2.alloc (.cells #[] 5)) := (Below.refl _ _).alloc (Nat.le_refl _) _
  have H3 : Hid _ := h2.below hA
  have G3 : Hid _ := grown_trans g02 (grown_below (some b) hA)
  have O3 : Hid ((w2.alloc (.cells #[] 5)).ownsRow w2.heap.size 5 1 (.slice (some ⟨w2.heap.size, 0, none⟩) 0 0) 0 (([] : List Int).map (Value.int .u8))) := World.ownsRow_lit w2 #[] 0 (Nat.le_refl _) (by unfold maxLen; omega) rfl
  clear g1 g2 g02 h1 h2 hA h
  go_wp2
  go_loopw [4, 5] (fun v i wr => ∃ (j g cap : Nat) (xs : List Int), (j : Int) ≤ k + 1 ∧ xs.length = j ∧ i = .int .i64 j ∧ v = .slice (some ⟨g, 0, none⟩) j cap ∧ Hid (wr.ownsRow w2.heap.size 5 1 (.slice (some ⟨g, 0, none⟩) j cap) j (xs.map (Value.int .u8))) ∧ Hid (RdSt wr b a n c (p + 1 + 1 + j)) ∧ Hid (w.grownBy wr (some b))) (fun _ i _ => (k + 1).toNat - (intOf i).toNat)
  case atStart => exact ⟨0, _, _, [], by omega, rfl, rfl, rfl, O3, by simpa using H3, G3⟩
  case round =>
    clear H3 G3 O3
    obtain ⟨j, g, cap, xs, hj, hxl, rfl, rfl, O3, H3, G3⟩ := hrel
    have lg := O3.out.lt g rfl
    by_cases hlt : (j : Int) ≤ k
    · have hd : decide ((j : Int) ≤ k) = true := by simpa using hlt
      go_wp2_with fail
      refine (pick_any b a n c (p + 1 + 1 + j) 6 wr H3.out (by omega) (by omega) (by omega) (by omega)).mono ?_
      rintro e w3 ⟨y, rfl, y0, y1, h3, g3⟩
      have wy : IntKind.i64.wrap (97 + y) = 97 + y := dr_wrap (by omega) (by omega)
      have wu : IntKind.u8.wrap (97 + y) = 97 + y := u8_wrap (by omega) (by omega)
      have O4 : Hid _ := World.ownsRow.kept O3.out g3 (.inr (by simp [Value.ownBlock]; omega))
      have hz3 := g3.size
      go_wp2_with (first
        | (at_builtin; refine wpList_append_lies _ rfl _ _ 39 rfl w2.heap.size 5 i0 (.int .u8 0) 1 1 Tryd.underlying39 hi hz0 hz1 hz2 rfl (by decide) _ j (xs.map (Value.int .u8)) rfl ?d0 ⟨w3.heap.size, 0, none⟩ 1 1 [.int .u8 (97 + y)] rfl rfl ?d1 ?d2 (by decide) ?d3 ?d4 ?d5 _ rfl ?_)
        | go_in)
      case d0 => exact World.ownsRow.alloc O4.out _
      case d1 => exact cell_one_new w3 _ 5
      case d2 => intro u hu; simp at hu; subst hu; rfl
      case d3 => unfold maxLen; omega
      case d4 => omega
      case d5 => simp; omega
      intro g4 cap4 w4 ho4 hg4 hat4 hlt4
      have hA : Below w3.heap.size w3 (w3.alloc (.cells #[.int .u8 (97 + y)] 5)) := (Below.refl _ _).alloc (Nat.le_refl _) _
      have hg4' : (w3.alloc (.cells #[.int .u8 (97 + y)] 5)).grownBy w4 (some g) := by simpa [Value.ownBlock] using hg4
      have H4 : Hid (RdSt w4 b a n c (p + 1 + 1 + ((j + 1 : Nat) : Int))) := by
        have := (h3.below hA).grown hg4' (by omega)
        rw [show p + 1 + 1 + ((j + 1 : Nat) : Int) = p + 1 + 1 + (j : Int) + 1 by omega]
        exact this
      have hGo : (w3.alloc (.cells #[.int .u8 (97 + y)] 5)).grownBy w4 (some g) := hg4'
      have G4 : Hid (w.grownBy w4 (some b)) := dr_merge (grown_trans G3.out (grown_trans g3 (grown_below _ hA))) hGo (by omega)
      have O5 : Hid (w4.ownsRow w2.heap.size 5 1 (.slice (some ⟨g4, 0, none⟩) (j + 1) cap4) (j + 1) ((xs ++ [97 + y]).map (Value.int .u8))) := by
        have h9 : w4.ownsRow w2.heap.size 5 1 (.slice (some ⟨g4, 0, none⟩) (j + 1) cap4) (j + 1) ((xs ++ [97 + y]).map (Value.int .u8)) := by simpa using ho4
        exact h9
      clear ho4 hg4 hg4' hGo hA h3 g3 O3 O4 H3 G3 hat4
      go_wp2
      exact ⟨⟨j + 1, g4, cap4, xs ++ [97 + y], by omega, by simp [hxl], by go_num, by simp, O5, H4, G4⟩, by simp [intOf]; omega⟩
    · have hd : decide ((j : Int) ≤ k) = false := by simpa using hlt
      have hcv := run_convert_bytes_arg (P := Tryd.prog) wr 39 5 Tryd.underlying39 Tryd.underlying5 g 0 j cap xs hxl (fun i hi => by
        rw [Nat.zero_add, O3.out.cellAt i (by simp; omega), List.getElem?_map, List.getElem?_eq_getElem (by omega)]
        simp [List.getD, List.getElem?_eq_getElem (show i < xs.length by omega)]) 9 Tryd.underlying9
      have hss := strNums_size xs
      generalize strOfNums xs = T at *
      go_wp2
      go_ret
      exact ⟨T, rfl, by omega, ⟨_, H3.out, by omega, by omega⟩, G3.out⟩

set_option maxHeartbeats 1000000 in
theorem l1Many_any (s : ByteArray) (n : Nat) (w : World) (h1 : 1 ≤ s.size) (hs : s.size * n ≤ 100000) :
    Calls Tryd.prog 75 #[.string s, .int .i64 n] w fun e w' => ∃ T : ByteArray, e = .returned (.string T) ∧ T.size = s.size * n ∧ w' = w := by
  go_enter Tryd.func75, Tryd.ntmps75
  go_wp2
  go_loop [0, 1, 5] (fun u m o => ∃ (S T : ByteArray) (k : Nat), u = .string S ∧ m = .int .i64 k ∧ o = .string T ∧ 1 ≤ S.size ∧ T.size + S.size * k = s.size * n) (fun _ m _ => (intOf m).toNat)
  case atStart => exact ⟨s, ⟨#[]⟩, n, rfl, rfl, rfl, h1, by show 0 + _ = _; omega⟩
  case round =>
    obtain ⟨S, T, k, rfl, rfl, rfl, hS, hT⟩ := hrel
    by_cases hk : 0 < k
    · have hd : decide ((0 : Int) < (k : Int)) = true := by simp; omega
      have hSk : S.size ≤ S.size * k := Nat.le_mul_of_pos_right _ hk
      have hSz : S.size ≤ 100000 := by omega
      have hTz : T.size ≤ 100000 := by omega
      have hdm := Nat.div_add_mod k 2
      have hlt : k / 2 < k := Nat.div_lt_self hk (by omega)
      have hk2 : k ≤ 100000 := by
        have := Nat.le_mul_of_pos_left k hS
        omega
      have hw64 : wrap64 ((k : Int) / 2) = (k : Int) / 2 := by unfold wrap64; omega
      rcases Nat.mod_two_eq_zero_or_one k with h0 | h0
      · have hm : ((k : Int) % 2 == 1) = false := by rw [show (k : Int) % 2 = ((k % 2 : Nat) : Int) by simp, h0]; rfl
        have hN : Hid (T.size + (S ++ S).size * (k / 2) = s.size * n) := by
          show _ = _
          rw [← hT, ByteArray.size_append]
          have : k = 2 * (k / 2) := by omega
          conv => rhs; rw [this]
          rw [← Nat.mul_assoc]
          congr 2
          omega
        have hSS : 1 ≤ (S ++ S).size := by rw [ByteArray.size_append]; omega
        clear hdm hT
        go_wp2
        exact ⟨⟨S ++ S, T, k / 2, rfl, by simp, rfl, hSS, hN.out⟩, by simp [intOf]; omega⟩
      · have hm : ((k : Int) % 2 == 1) = true := by rw [show (k : Int) % 2 = ((k % 2 : Nat) : Int) by simp, h0]; rfl
        have hN : Hid ((T ++ S).size + (S ++ S).size * (k / 2) = s.size * n) := by
          show _ = _
          rw [← hT, ByteArray.size_append, ByteArray.size_append]
          have e : k = 2 * (k / 2) + 1 := by omega
          have e2 : S.size * k = S.size + (S.size + S.size) * (k / 2) := by
            conv => lhs; rw [e]
            rw [Nat.mul_add, Nat.mul_one, ← Nat.mul_assoc, Nat.add_comm]
            congr 2
            omega
          omega
        have hSS : 1 ≤ (S ++ S).size := by rw [ByteArray.size_append]; omega
        clear hdm hT
        go_wp2
        exact ⟨⟨S ++ S, T ++ S, k / 2, rfl, by simp, rfl, hSS, hN.out⟩, by simp [intOf]; omega⟩
    · obtain rfl : k = 0 := by omega
      go_wp2
      go_ret
      exact ⟨T, rfl, by simpa using hT, rfl⟩

end Go.Proofs.YtdecihmplkgfkaaDoor
