/-
  spec.DrawReadThing.
-/
import Derived.Test.YtdecihmplkgfkaaDoorDrV
import Derived.Test.YtdecihmplkgfkaaDoorForm
namespace Go.Proofs.YtdecihmplkgfkaaDoor
open Go.ChangeShapes Go.WideShapes Go.ChangeAt Go.RowKit

/-- A text and a width that were drawn. -/
structure TxtDrawn (w w' : World) (e : Ending) (m : Nat) : Prop where
  ex : ∃ (T : ByteArray) (wd : Int), e = .returned (.tuple #[.string T, .int .i64 wd]) ∧ T.size ≤ m ∧ 0 ≤ wd ∧ wd ≤ 9
  bel : Below w.heap.size w w'

theorem formTxt_size (t : ByteArray) (ss : List ByteArray) (wd : Int) : (formTxt t ss wd).size ≤ 2300 := by
  unfold formTxt
  split
  · rename_i h
    have p := okThing_parts h
    have h1 : (ByteArray.mk (formB t ss).toArray).size = (formB t ss).length := rfl
    have h2 := p.bulk_le
    have h3 := p.text
    rw [h1]
    unfold formB
    rw [List.length_cons, List.length_append, flat_length]
    have : t.data.toList.length = t.size := rfl
    omega
  · exact Nat.zero_le _

set_option maxRecDepth 20000 in
set_option maxHeartbeats 4000000 in
theorem drawReadThing_any (a : Option Addr) (n c : Nat) (w : World) (hn : n ≤ maxLen) (hb : n = 0 ∨ ∃ q off, a = some ⟨q, off, none⟩ ∧ q < w.heap.size ∧ ∀ j, j < n → ∃ x : Int, w.cell? ⟨q, off + j, none⟩ = some (.int .u8 x) ∧ 0 ≤ x ∧ x < 256) (hc : n ≤ c) :
    Calls Tryd.prog 21 #[.slice a n c] w fun e w' => TxtDrawn w w' e 2310 := by
  have HB : Hid _ := hb
  clear hb
  go_enter Tryd.func21, Tryd.ntmps21
  go_wp2_with fail
  refine (l1Open_any a n c w hn HB.out hc).mono ?_
  rintro e w1 ⟨n', c', rfl, s1, hb1⟩
  have hb1' : n = 0 ∨ ∃ q off, a = some ⟨q, off, none⟩ ∧ q < w1.heap.size ∧ ∀ j, j < n → ∃ x : Int, w1.cell? ⟨q, off + j, none⟩ = some (.int .u8 x) ∧ 0 ≤ x ∧ x < 256 := by
    rcases HB.out with h | ⟨q, off, ha, hq, hx⟩
    · exact .inl h
    · refine .inr ⟨q, off, ha, Nat.lt_of_lt_of_le hq hb1.size, fun j hj => ?_⟩
      obtain ⟨x, h1, h2⟩ := hx j hj
      exact ⟨x, (hb1.cell (p := ⟨q, off + j, none⟩) hq).trans h1, h2⟩
  obtain ⟨b, hbb⟩ : ∃ b, b = w.heap.size := ⟨_, rfl⟩
  rw [← hbb] at s1 ⊢
  have hbw : w.heap.size ≤ b := by omega
  have HB1 : Hid _ := hb1'
  have HL : Hid _ := hb1
  clear hb1' HB hb1 hbb
  go_wp2_with fail
  refine (drawFormThing_any a n c w1 hn HB1.out hc).mono ?_
  rintro e w2 ⟨⟨t, ra, rc, ss, wd, rfl, ⟨ht, hl, hs⟩, hw0, hw9, ho⟩, hb2⟩
  have hr2 := (own_nilD ho).1
  obtain ⟨W2, hW2⟩ : ∃ W2, W2 = w2.alloc (.cells #[.string t, .slice ra ss.length rc] 29) := ⟨_, rfl⟩
  have h22 : Below w2.heap.size w2 W2 := by rw [hW2]; exact (Below.refl _ _).alloc (Nat.le_refl _) _
  have X2 : CellsAt W2 w2.heap.size [.string t, .slice ra ss.length rc] := by rw [hW2]; exact CellsAt.new w2 _ _
  have h12 := hb2.trans (h22.mono hb2.size)
  have s2 := s1.below h12
  have R2 : Hid (SRow W2 W2.heap.size ra ss) := hr2.below' h22
  have B2 : Hid (Below w.heap.size w W2) := HL.out.trans (h12.mono HL.out.size)
  obtain ⟨x0, _⟩ := X2 0 _ rfl
  obtain ⟨x1, _⟩ := X2 1 _ rfl
  have HS : Hid _ := s2
  have HW : Hid _ := hW2
  clear hW2 h22 X2 h12 hb2 ho hr2 s1 s2 HL
  go_upto_region 3 with fail
  rw [← HW.out]
  clear HW
  go_wp2_with fail
  refine (sForm_any t ra rc ss wd W2 R2.out (by omega) (by unfold maxLen; omega)).mono ?_
  rintro e w3 ⟨rfl, hb3⟩
  have hsz := formTxt_size t ss wd
  generalize formTxt t ss wd = F at *
  have s3 : Hid (RdSt w3 b a n' c' 0) := HS.out.below hb3
  have B3 : Hid (Below w.heap.size w w3) := B2.out.trans (hb3.mono B2.out.size)
  clear x0 x1 hb3 HS B2 R2
  go_wp2_with fail
  refine (pick_any b a n' c' 0 2 w3 s3.out (by omega) (by omega) (by omega) (by omega)).mono ?_
  rintro e w4 ⟨r, rfl, r0, r1, s4, g4⟩
  have B4 : Hid (Below w.heap.size w w4) := B3.out.grown g4 B3.out.size (fun k e => by cases e; omega)
  have S4 : Hid _ := s4
  clear s4 g4
  by_cases c0 : r = 0
  · subst c0
    go_wp2_with fail
    refine (l1Bend_any b a n' c' (0 + 1) F w4 S4.out (by omega) (by omega) (by omega)).mono ?_
    rintro e w5 ⟨⟨T, rfl, hT⟩, ⟨_, g5⟩⟩
    have B5 : Hid (Below w.heap.size w w5) := B4.out.grown g5 B4.out.size (fun k e => by cases e; omega)
    clear g5
    go_wp2
    exact bodyPost_ret (v := .tuple #[.string T, .int .i64 wd]) (by simp [results, Tryd.results21, go_sem]) rfl ⟨⟨T, wd, rfl, by omega, hw0, hw9⟩, B5.out⟩
  · have d0 : (r == 0) = false := by simpa using c0
    go_wp2
    exact bodyPost_ret (v := .tuple #[.string F, .int .i64 wd]) (by simp [results, Tryd.results21, go_sem]) rfl ⟨⟨F, wd, rfl, by omega, hw0, hw9⟩, B4.out⟩
end Go.Proofs.YtdecihmplkgfkaaDoor
