/-
  impl.validEntry.
-/
import Derived.Test.YtdecihmplkgfkaaDoorEnt
namespace Go.Proofs.YtdecihmplkgfkaaDoor
open Go.ChangeShapes Go.WideShapes Go.ChangeAt Go.RowKit

/-- An entry as it is handed over. -/
abbrev entV (k : Int) (sum name : ByteArray) (n : Int) (t : ByteArray) (ad : Option Addr) (len cap : Nat) : Array Value := #[.int .i64 k, .string sum, .string name, .int .i64 n, .string t, .slice ad len cap]

theorem ivalid_kind (k : Int) (sum name : ByteArray) (n : Int) (t : ByteArray) (ad : Option Addr) (cap : Nat) (ss : List ByteArray) (wd : Int) (w : World) (hk : ¬ (1 ≤ k ∧ k ≤ 7)) :
    Calls Tryd.prog 26 #[.agg (entV k sum name n t ad ss.length cap), .int .i64 wd] w fun e w' => e = .returned (.bool false) ∧ Below w.heap.size w w' := by
  go_enter Tryd.func26, Tryd.ntmps26
  go_wp2_with fail
  refine (partsOf_no k _ hk).mono ?_
  rintro e w1 ⟨rfl, hb1⟩
  go_wp2
  go_ret
  exact ⟨rfl, (((Below.refl _ _).alloc (Nat.le_refl _) _).trans (hb1.mono (by simp))).alloc (by have := hb1.size; simp at this; omega) _⟩

/-- The two boxes of validEntry. -/
structure EB (W : World) (B P : Nat) (sum name : ByteArray) (n : Int) (t : ByteArray) (v : Value) (a b c : Bool) (m : Int) : Prop where
  x1 : W.cell? ⟨B, 1, none⟩ = some (.string sum)
  x2 : W.cell? ⟨B, 2, none⟩ = some (.string name)
  x3 : W.cell? ⟨B, 3, none⟩ = some (.int .i64 n)
  x4 : W.cell? ⟨B, 4, none⟩ = some (.string t)
  x5 : W.cell? ⟨B, 5, none⟩ = some v
  y0 : W.cell? ⟨P, 0, none⟩ = some (.bool a)
  y1 : W.cell? ⟨P, 1, none⟩ = some (.bool b)
  y2 : W.cell? ⟨P, 2, none⟩ = some (.bool c)
  y3 : W.cell? ⟨P, 3, none⟩ = some (.int .i64 m)

theorem EB.below {W W' : World} {B P : Nat} {sum name : ByteArray} {n : Int} {t : ByteArray} {v : Value} {a b c : Bool} {m : Int} (h : EB W B P sum name n t v a b c m) (hb : Below W.heap.size W W') : EB W' B P sum name n t v a b c m := by
  have k1 : B < W.heap.size := World.block_lt_of_cell? W _ h.x1
  have k2 : P < W.heap.size := World.block_lt_of_cell? W _ h.y0
  exact ⟨(hb.cell (p := ⟨B, 1, none⟩) k1).trans h.x1, (hb.cell (p := ⟨B, 2, none⟩) k1).trans h.x2, (hb.cell (p := ⟨B, 3, none⟩) k1).trans h.x3, (hb.cell (p := ⟨B, 4, none⟩) k1).trans h.x4, (hb.cell (p := ⟨B, 5, none⟩) k1).trans h.x5,
    (hb.cell (p := ⟨P, 0, none⟩) k2).trans h.y0, (hb.cell (p := ⟨P, 1, none⟩) k2).trans h.y1, (hb.cell (p := ⟨P, 2, none⟩) k2).trans h.y2, (hb.cell (p := ⟨P, 3, none⟩) k2).trans h.y3⟩

set_option maxHeartbeats 1000000 in
theorem ivalid_any (k : Nat) (sum name : ByteArray) (n : Int) (t : ByteArray) (ad : Option Addr) (cap : Nat) (ss : List ByteArray) (wd : Int) (w : World) (hT : Tab w) (h1 : 1 ≤ k) (h7 : k ≤ 7)
    (hrow : SRow w w.heap.size ad ss) (hl : ss.length ≤ 1048576) (ht : t.size ≤ maxLen) (hn : name.size ≤ maxLen) :
    Calls Tryd.prog 26 #[.agg (entV k sum name n t ad ss.length cap), .int .i64 wd] w fun e w' => e = .returned (.bool (entOk k sum name n t ss wd)) ∧ Below w.heap.size w w' := by
  have hb0 : Below w.heap.size w (w.alloc (.cells (entV k sum name n t ad ss.length cap) 31)) := (Below.refl _ _).alloc (Nat.le_refl _) _
  go_enter Tryd.func26, Tryd.ntmps26
  go_wp2_with fail
  refine (partsOf_yes k _ (hT.below hb0) h1 h7).mono ?_
  rintro e w1 ⟨rfl, hb1⟩
  have hz1 := hb1.size
  simp at hz1
  have hlt1 : w.heap.size < w1.heap.size := by omega
  have hB1 := hb0.trans (hb1.mono (by simp))
  obtain ⟨hc1, hf1⟩ := bcell hb1
  have x1 : w1.cell? ⟨w.heap.size, 1, none⟩ = some (.string sum) := by rw [hb1.cell (p := ⟨w.heap.size, 1, none⟩) (by simp)]; simp
  have x2 : w1.cell? ⟨w.heap.size, 2, none⟩ = some (.string name) := by rw [hb1.cell (p := ⟨w.heap.size, 2, none⟩) (by simp)]; simp
  have x3 : w1.cell? ⟨w.heap.size, 3, none⟩ = some (.int .i64 n) := by rw [hb1.cell (p := ⟨w.heap.size, 3, none⟩) (by simp)]; simp
  have x4 : w1.cell? ⟨w.heap.size, 4, none⟩ = some (.string t) := by rw [hb1.cell (p := ⟨w.heap.size, 4, none⟩) (by simp)]; simp
  have x5 : w1.cell? ⟨w.heap.size, 5, none⟩ = some (.slice ad ss.length cap) := by rw [hb1.cell (p := ⟨w.heap.size, 5, none⟩) (by simp)]; simp
  clear hc1 hf1
  obtain ⟨W2, hW2⟩ : ∃ W, W = w1.alloc (.cells #[.bool (kName k), .bool (kSum k), .bool (kThing k), .int .i64 (kMost k)] 89) := ⟨_, rfl⟩
  have h12 : Below w1.heap.size w1 W2 := by rw [hW2]; exact (Below.refl _ _).alloc (Nat.le_refl _) _
  have E2 : EB W2 w.heap.size w1.heap.size sum name n t (.slice ad ss.length cap) (kName k) (kSum k) (kThing k) (kMost k) := by
    refine ⟨(h12.cell (p := ⟨w.heap.size, 1, none⟩) hlt1).trans x1, (h12.cell (p := ⟨w.heap.size, 2, none⟩) hlt1).trans x2, (h12.cell (p := ⟨w.heap.size, 3, none⟩) hlt1).trans x3, (h12.cell (p := ⟨w.heap.size, 4, none⟩) hlt1).trans x4, (h12.cell (p := ⟨w.heap.size, 5, none⟩) hlt1).trans x5, ?_, ?_, ?_, ?_⟩ <;> (rw [hW2]; simp)
  have hB2 := hB1.trans (h12.mono hB1.size)
  have HW2 : Hid _ := hW2
  clear hW2
  by_cases hw : 1 ≤ wd ∧ wd ≤ 8
  · obtain ⟨hw1, hw2⟩ := hw
    have hwd : decide (1 ≤ wd ∧ wd ≤ 8) = true := by simp [hw1, hw2]
    have HWD : Hid _ := hwd
    clear hwd
    go_wp2_with (go_at_call 46; go_in)
    rw [← HW2.out]
    refine (sumFits_any sum (kName k) (kSum k) (kThing k) (kMost k) wd W2).mono ?_
    rintro e w3 ⟨rfl, hb3⟩
    have E3 := E2.below hb3
    have hB3 := hB2.trans (hb3.mono hB2.size)
    clear E2 hb3
    cases hs : sumOk (kSum k) sum wd with
    | false =>
      go_wp2
      go_ret
      exact ⟨ret_b (by unfold entOk; rw [hs]; simp), hB3⟩
    | true =>
      have HS : Hid _ := hs
      clear hs
      obtain ⟨x1, x2, x3, x4, x5, y0, y1, y2, y3⟩ := E3
      go_wp2_with fail
      refine (nameFits_any name (kName k) (kSum k) (kThing k) (kMost k) _ hn).mono ?_
      rintro e w4 ⟨rfl, hb4⟩
      have E4 := (EB.mk x1 x2 x3 x4 x5 y0 y1 y2 y3).below hb4
      have hB4 := hB3.trans (hb4.mono hB3.size)
      clear x1 x2 x3 x4 x5 y0 y1 y2 y3 hb4
      cases hnm : nmOk (kName k) name with
      | false =>
        go_wp2
        go_ret
        exact ⟨ret_b (by unfold entOk; rw [hnm]; simp), hB4⟩
      | true =>
        have HN : Hid _ := hnm
        clear hnm
        obtain ⟨x1, x2, x3, x4, x5, y0, y1, y2, y3⟩ := E4
        go_wp2_with fail
        refine (numFits_any n (kName k) (kSum k) (kThing k) (kMost k) _).mono ?_
        rintro e w5 ⟨rfl, hb5⟩
        have E5 := (EB.mk x1 x2 x3 x4 x5 y0 y1 y2 y3).below hb5
        have hB5 := hB4.trans (hb5.mono hB4.size)
        clear x1 x2 x3 x4 x5 y0 y1 y2 y3 hb5
        cases hnu : numOk (kMost k) n with
        | false =>
          go_wp2
          go_ret
          exact ⟨ret_b (by unfold entOk; rw [hnu]; simp), hB5⟩
        | true =>
          have HU : Hid _ := hnu
          clear hnu
          obtain ⟨x1, x2, x3, x4, x5, y0, y1, y2, y3⟩ := E5
          go_wp2_with fail
          refine (thingFits_any t ad cap ss (kName k) (kSum k) (kThing k) (kMost k) wd _ (hrow.below' hB5) hl ht).mono ?_
          rintro e w6 ⟨rfl, hb6⟩
          go_wp2
          go_ret
          exact ⟨ret_b (by unfold entOk; rw [HWD.out, HS.out, HN.out, HU.out]; rfl), hB5.trans (hb6.mono hB5.size)⟩
  · have hwd : decide (1 ≤ wd ∧ wd ≤ 8) = false := by simpa using hw
    have HWD : Hid _ := hwd
    clear hwd
    by_cases hw1 : 1 ≤ wd
    · have hw2 : decide (wd ≤ 8) = false := by simp; omega
      go_wp2
      go_ret
      refine ⟨ret_b (by unfold entOk; rw [HWD.out]; rfl), ?_⟩
      rw [← HW2.out]
      exact hB2
    · go_wp2
      go_ret
      refine ⟨ret_b (by unfold entOk; rw [HWD.out]; rfl), ?_⟩
      rw [← HW2.out]
      exact hB2

end Go.Proofs.YtdecihmplkgfkaaDoor
