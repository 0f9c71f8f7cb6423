/-
  impl.FormEntry.
-/
import Derived.Test.YtdecihmplkgfkaaDoorEntF
namespace Go.Proofs.YtdecihmplkgfkaaDoor
open Go.ChangeShapes Go.WideShapes Go.ChangeAt Go.RowKit

theorem isB_below {T e : TypeId} {B b : Nat} {bs : List Value} {w w' : World} (h : Lib.IsBuilder T e B b bs w) (hb : Below w.heap.size w w') : Lib.IsBuilder T e B b bs w' := by
  have key : ∀ p, Lib.BuilderAt T e B b p bs w → Lib.BuilderAt T e B b p bs w' := by
    rintro p ⟨hB, v, hbk, hown, hne⟩
    have hlt : b < w.heap.size := (Array.getElem?_eq_some_iff.1 hbk).1
    exact ⟨hB, v, (hb.block b hlt).trans hbk, hown.kept (row := none) ⟨hb.os, hb.tape, hb.output, hb.size, fun k hk _ => hb.block k hk⟩ (by cases hv : v.ownBlock <;> simp), hne⟩
  rcases h with h | h
  · exact .inl (key _ h)
  · exact .inr (key _ h)

theorem hdr_next (k n m : Int) (hn0 : 0 ≤ n) (hn : n ≤ 1000000000) (j : Nat) (hj : j < 4) :
    Lib.byteCells ((hdr k n m).take (1 + j)) ++ [Value.int .u8 (n / 2 ^ (8 * (3 - j)) % 256)] = Lib.byteCells ((hdr k n m).take (1 + (j + 1))) := by
  rw [u8_cell (n / 2 ^ (8 * (3 - j)) % 256) (by omega) (by omega)]
  match j, hj with
  | 0, _ =>
    have : n / 2 ^ (8 * (3 - 0)) % 256 = n / 16777216 := by
      show n / 16777216 % 256 = n / 16777216
      omega
    rw [this]; rfl
  | 1, _ => rfl
  | 2, _ => rfl
  | 3, _ =>
    have : n / 2 ^ (8 * (3 - 3)) % 256 = n % 256 := by
      show n / 1 % 256 = n % 256
      omega
    rw [this]; rfl

theorem hdr_last (k n m : Int) (hm0 : 0 ≤ m) (hm : m < 256) : Lib.byteCells ((hdr k n m).take (1 + 4)) ++ [Value.int .u8 m] = Lib.byteCells (hdr k n m) := by
  rw [u8_cell m hm0 hm]; rfl

theorem hdr_take_len (k n m : Int) (j : Nat) : (Lib.byteCells ((hdr k n m).take j)).length ≤ 6 := by
  rw [Lib.byteCells_length]
  have : (hdr k n m).length = 6 := rfl
  simp [this]
  omega

set_option maxHeartbeats 1000000 in
theorem iForm_ent (k : Nat) (sum name : ByteArray) (n : Int) (t : ByteArray) (ad : Option Addr) (cap : Nat) (ss : List ByteArray) (wd : Int) (w : World) (hT : Tab w) (h1 : 1 ≤ k) (h7 : k ≤ 7)
    (hrow : SRow w w.heap.size ad ss) (hl : ss.length ≤ 1048576) (ht : t.size ≤ maxLen) (hok : entOk k sum name n t ss wd = true) :
    Calls Tryd.prog 9 #[.agg (entV k sum name n t ad ss.length cap), .int .i64 wd] w fun e w' => e = .returned (.string ⟨(entB k sum name n t ss).toArray⟩) ∧ Below w.heap.size w w' := by
  have hp := entOk_parts hok
  obtain ⟨hw1, hw2, hsum, hname, hn0, hn1, hth⟩ := hp
  have hb0 : Below w.heap.size w (w.alloc (.cells (entV k sum name n t ad ss.length cap) 31)) := (Below.refl _ _).alloc (Nat.le_refl _) _
  go_enter Tryd.func9, Tryd.ntmps9
  go_wp2_with fail
  refine (ivalid_any k sum name n t ad cap ss wd _ (hT.below hb0) h1 h7 (hrow.below' hb0) hl ht (by unfold maxLen; omega)).mono ?_
  rintro e w1 ⟨rfl, hb1⟩
  rw [hok]
  have hz := hb1.size
  simp at hz
  have hlt1 : w.heap.size < w1.heap.size := by omega
  have hB1 := hb0.trans (hb1.mono (by simp))
  have x0 : w1.cell? ⟨w.heap.size, 0, none⟩ = some (.int .i64 k) := by rw [hb1.cell (p := ⟨w.heap.size, 0, none⟩) (by simp)]; simp
  have x1 : w1.cell? ⟨w.heap.size, 1, none⟩ = some (.string sum) := by rw [hb1.cell (p := ⟨w.heap.size, 1, none⟩) (by simp)]; simp
  have x2 : w1.cell? ⟨w.heap.size, 2, none⟩ = some (.string name) := by rw [hb1.cell (p := ⟨w.heap.size, 2, none⟩) (by simp)]; simp
  have x3 : w1.cell? ⟨w.heap.size, 3, none⟩ = some (.int .i64 n) := by rw [hb1.cell (p := ⟨w.heap.size, 3, none⟩) (by simp)]; simp
  have x4 : w1.cell? ⟨w.heap.size, 4, none⟩ = some (.string t) := by rw [hb1.cell (p := ⟨w.heap.size, 4, none⟩) (by simp)]; simp
  have x5 : w1.cell? ⟨w.heap.size, 5, none⟩ = some (.slice ad ss.length cap) := by rw [hb1.cell (p := ⟨w.heap.size, 5, none⟩) (by simp)]; simp
  have hrow1 := hrow.below hB1
  have HOK : Hid _ := hok
  clear hok hth hrow hb1 hb0
  have hbs := Lib.fresh_isBuilder 56 5 w1
  have hbl : Below w1.heap.size w1 (w1.alloc (.cells #[.pointer none, .slice none 0 0] 56)) := (Below.refl _ _).alloc (Nat.le_refl _) _
  go_wp2_with fail
  refine (writeByte_any w1.heap.size w1.heap.size [] _ _ hbs (by simp) (by simp)).mono ?_
  rintro e w2 ⟨rfl, hbs2, hb2⟩
  have hbw := hbl.trans hb2
  have hhd : [] ++ [Value.int .u8 (k : Int)] = Lib.byteCells ((hdr k n name.size).take 1) := by
    rw [u8_cell k (by omega) (by omega)]; rfl
  rw [hhd] at hbs2
  clear hbs hbl hb2 hhd
  go_wp2
  go_loopw [15] (fun i wr => ∃ (j : Nat), j ≤ 4 ∧ i = .int .i64 j ∧ Lib.IsBuilder 56 5 w1.heap.size w1.heap.size (Lib.byteCells ((hdr k n name.size).take (1 + j))) wr ∧ Below w1.heap.size w1 wr) (fun i _ => 4 - (intOf i).toNat)
  case atStart => exact ⟨0, Nat.zero_le _, rfl, hbs2, hbw⟩
  case round =>
    clear hbs2 hbw
    obtain ⟨j, hj, rfl, hbs, hbel⟩ := hrel
    have hsz := hbel.size
    have y0 : wr.cell? ⟨w.heap.size, 0, none⟩ = some (.int .i64 k) := (hbel.cell (p := ⟨w.heap.size, 0, none⟩) hlt1).trans x0
    have y1 : wr.cell? ⟨w.heap.size, 1, none⟩ = some (.string sum) := (hbel.cell (p := ⟨w.heap.size, 1, none⟩) hlt1).trans x1
    have y2 : wr.cell? ⟨w.heap.size, 2, none⟩ = some (.string name) := (hbel.cell (p := ⟨w.heap.size, 2, none⟩) hlt1).trans x2
    have y3 : wr.cell? ⟨w.heap.size, 3, none⟩ = some (.int .i64 n) := (hbel.cell (p := ⟨w.heap.size, 3, none⟩) hlt1).trans x3
    by_cases hlt : j < 4
    · have hln := hdr_take_len k n name.size (1 + j)
      have hnx : Hid _ := hdr_next k n name.size hn0 hn1 j hlt
      go_wp2_with fail
      refine (writeByte_any w1.heap.size w1.heap.size _ _ _ hbs (by omega) hsz).mono ?_
      rintro e w3 ⟨rfl, hbs3, hb3⟩
      rw [hnx.out] at hbs3
      have hb4 := hbel.trans hb3
      clear hbs hbel hb3 y0 y1 y2 y3
      go_wp2
      exact ⟨⟨j + 1, by omega, by go_num, hbs3, hb4⟩, by simp [intOf]; omega⟩
    · obtain rfl : j = 4 := by omega
      have hln := hdr_take_len k n name.size (1 + 4)
      go_wp2_with fail
      refine (writeByte_any w1.heap.size w1.heap.size _ _ _ hbs (by omega) hsz).mono ?_
      rintro e w3 ⟨rfl, hbs3, hb3⟩
      rw [hdr_last k n name.size (by omega) (by omega)] at hbs3
      have hbel3 := hbel.trans hb3
      have hsz3 := hbel3.size
      have y2 : w3.cell? ⟨w.heap.size, 2, none⟩ = some (.string name) := (hbel3.cell (p := ⟨w.heap.size, 2, none⟩) hlt1).trans x2
      clear hbs hbel hb3 y0 y1 y3 hln
      have hhl : (Lib.byteCells (hdr k n name.size)).length = 6 := rfl
      go_wp2_with fail
      refine (writeString_any w1.heap.size w1.heap.size _ name _ hbs3 (by omega) hsz3).mono ?_
      rintro e w4 ⟨rfl, hbs4, hb4⟩
      rw [← Lib.byteCells_append] at hbs4
      have hbel4 := hbel3.trans hb4
      have hsz4 := hbel4.size
      have y1 : w4.cell? ⟨w.heap.size, 1, none⟩ = some (.string sum) := (hbel4.cell (p := ⟨w.heap.size, 1, none⟩) hlt1).trans x1
      clear hbs3 hbel3 hb4 y2 hhl
      have hhl : (Lib.byteCells (hdr k n name.size ++ name.data.toList)).length = 6 + name.size := by
        rw [Lib.byteCells_length]; simp [hdr]; omega
      go_wp2_with fail
      refine (writeString_any w1.heap.size w1.heap.size _ sum _ hbs4 (by omega) hsz4).mono ?_
      rintro e w5 ⟨rfl, hbs5, hb5⟩
      rw [← Lib.byteCells_append] at hbs5
      have hbel5 := hbel4.trans hb5
      have hsz5 := hbel5.size
      have y0 : w5.cell? ⟨w.heap.size, 0, none⟩ = some (.int .i64 k) := (hbel5.cell (p := ⟨w.heap.size, 0, none⟩) hlt1).trans x0
      have y4 : w5.cell? ⟨w.heap.size, 4, none⟩ = some (.string t) := (hbel5.cell (p := ⟨w.heap.size, 4, none⟩) hlt1).trans x4
      have y5 : w5.cell? ⟨w.heap.size, 5, none⟩ = some (.slice ad ss.length cap) := (hbel5.cell (p := ⟨w.heap.size, 5, none⟩) hlt1).trans x5
      have hrow5 := hrow1.below (hbel5.mono (by omega))
      have hB5 := hB1.trans (hbel5.mono hB1.size)
      clear hbs4 hbel4 hb5 y1 hhl
      have hhl : (Lib.byteCells (hdr k n name.size ++ name.data.toList ++ sum.data.toList)).length = 6 + name.size + sum.size := by
        rw [Lib.byteCells_length]; simp [hdr]; omega
      by_cases hk1 : k = 1
      · subst hk1
        have hth := (entOk_parts HOK.out).thing rfl
        have hpp := okThing_parts hth
        have hbk := hpp.bulk_le
        have hts := hpp.text
        have hrf := hpp.refs
        go_wp2_with fail
        refine (iForm_yes t ad cap ss wd w5 (hrow5.mono (by omega)) hth).mono ?_
        rintro e w6 ⟨rfl, hb6⟩
        have hbs6 := isB_below hbs5 hb6
        have hz6 := hb6.size
        have hfl : (formB t ss).length ≤ 3000 := by
          have := flat_length ss
          simp [formB, this]
          omega
        have hfs : (ByteArray.mk (formB t ss).toArray).size = (formB t ss).length := by simp [ByteArray.size]
        have HFS : Hid _ := hfs
        clear hfs
        go_wp2_with fail
        refine (writeString_any w1.heap.size w1.heap.size _ _ _ hbs6 (by rw [HFS.out]; omega) (by omega)).mono ?_
        rintro e w7 ⟨rfl, hbs7, hb7⟩
        have hcs : Lib.byteCells (hdr (1 : Nat) n name.size ++ name.data.toList ++ sum.data.toList) ++ Lib.byteCells (ByteArray.mk (formB t ss).toArray).data.toList = Lib.byteCells (entB 1 sum name n t ss) := by
          rw [← Lib.byteCells_append]
          rfl
        rw [hcs] at hbs7
        have hb17 := (hbel5.trans (hb6.mono hsz5)).trans hb7
        have hsz7 := hb17.size
        go_wp2_with fail
        refine (Tryd.Builder_String_any w1.heap.size w1.heap.size _ _ hbs7 hsz7).mono ?_
        rintro e w8 ⟨rfl, hb8⟩
        go_wp2
        go_ret
        exact ⟨rfl, hB1.trans ((hb17.trans hb8).mono hB1.size)⟩
      · have hkb : ((k : Int) == 1) = false := beq_eq_false_iff_ne.2 (by omega)
        have heq : hdr k n name.size ++ name.data.toList ++ sum.data.toList = entB k sum name n t ss := by
          unfold entB
          rw [if_neg hk1, List.append_nil]
        rw [heq] at hbs5
        go_wp2_with fail
        refine (Tryd.Builder_String_any w1.heap.size w1.heap.size _ _ hbs5 hsz5).mono ?_
        rintro e w8 ⟨rfl, hb8⟩
        go_wp2
        go_ret
        exact ⟨rfl, hB1.trans ((hbel5.trans hb8).mono hB1.size)⟩

end Go.Proofs.YtdecihmplkgfkaaDoor
