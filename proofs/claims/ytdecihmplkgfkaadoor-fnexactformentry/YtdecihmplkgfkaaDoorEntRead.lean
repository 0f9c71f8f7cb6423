/-
  An entry that is handed in, read.
-/
import Derived.Test.YtdecihmplkgfkaaDoorRead
import Derived.Test.YtdecihmplkgfkaaDoorEntL
namespace Go.Proofs.YtdecihmplkgfkaaDoor
open Go.ChangeShapes Go.WideShapes Go.ChangeAt Go.RowKit

theorem cInt : Tryd.prog.cellsOf 3 = 1 := by kernel_rfl
theorem cSlice : Tryd.prog.cellsOf 22 = 1 := by kernel_rfl
theorem cThing : Tryd.prog.cellsOf 24 = 2 := by kernel_rfl
theorem cEntry : Tryd.prog.cellsOf 26 = 6 := by kernel_rfl

theorem list6 {α : Type} {l : List α} (h : l.length = 6) : ∃ a b c d e f, l = [a, b, c, d, e, f] := by
  match l, h with
  | [a, b, c, d, e, f], _ => exact ⟨a, b, c, d, e, f, rfl⟩

theorem some5 {α : Type} {l : List α} (h : l.length = 5) : ∃ a b c d e, l = [a, b, c, d, e] := by
  match l, h with
  | [a, b, c, d, e], _ => exact ⟨a, b, c, d, e, rfl⟩

theorem read_int {H : Type} {enc : TypeId × Value → H} {W : World} {base : Nat} {spare : Nat → Bool} {held : Bool} {fuel : Nat} {v : Value} {y : DataW H × List MemPlace}
    (h : DataW.trod enc Tryd.prog W base spare held fuel 3 [v] = some y) : ∃ n, v = .int .i64 n := by
  obtain ⟨n, hn, _⟩ := DataW.trod_int Tryd.underlying3 h
  simp at hn
  exact ⟨n, hn⟩

theorem read_thing {H : Type} {enc : TypeId × Value → H} {W : World} {base : Nat} {spare : Nat → Bool} {held : Bool} {fuel : Nat} {v0 v1 : Value} {y : DataW H × List MemPlace}
    (h : DataW.trod enc Tryd.prog W base spare held fuel 24 [v0, v1] = some y) :
    ∃ t a cap ss, v0 = .string t ∧ t.size ≤ maxLen ∧ v1 = .slice a (List.length ss) cap ∧ SRow W W.heap.size a ss ∧ ss.length ≤ maxLen ∧ ∀ s ∈ ss, ByteArray.size s ≤ maxLen := by
  obtain ⟨y0, y1, n, _, _, h0, h1⟩ := trod_struct2 Tryd.underlying24 h
  have h0' : DataW.trod enc Tryd.prog W base spare held n 9 [v0] = some y0 := by simpa [Tryd.cellsStr] using h0
  have h1' : DataW.trod enc Tryd.prog W base spare held n 22 [v1] = some y1 := by simpa [cSlice] using h1
  obtain ⟨t, ht, htl⟩ := read_str h0'
  obtain ⟨a, cap, ss, hv, hr⟩ := read_strs h1'
  exact ⟨t, a, cap, ss, ht, htl, hv, hr⟩

set_option maxRecDepth 100000 in
theorem read_entry {H : Type} {enc : TypeId × Value → H} {W : World} {r : Reach} {b0 : Nat} {base : Nat} {spare : Nat → Bool} {held : Bool} {v : Value} {d : DataW H} {p : List MemPlace}
    (hv : Value.okWide Tryd.prog W r b0 26 v) (h : DataW.Trod enc Tryd.prog W base spare held 26 v d p) :
    ∃ k sum name n t a cap ss, v = .agg (entV k sum name n t a (List.length ss) cap) ∧ sum.size ≤ maxLen ∧ name.size ≤ maxLen ∧ t.size ≤ maxLen ∧ SRow W W.heap.size a ss ∧ ss.length ≤ maxLen ∧ ∀ s ∈ ss, ByteArray.size s ≤ maxLen := by
  obtain ⟨cs, rfl, hsz⟩ := okWide_struct Tryd.underlying26 hv
  obtain ⟨fuel, hf⟩ := h
  obtain ⟨xs, n0, _, _, _, hlen, hfl⟩ := DataW.trod_struct Tryd.underlying26 hf
  obtain ⟨c0, c1, c2, c3, c4, c5, hcs⟩ := list6 (l := cs.toList) (by rw [Array.length_toList, hsz, cEntry])
  obtain ⟨x0, x1, x2, x3, x4, rfl⟩ := some5 hlen
  have hcells : (Value.agg cs).cells.toList = [c0, c1, c2, c3, c4, c5] := by rw [← hcs]; rfl
  have f0 : DataW.trod enc Tryd.prog W base spare held n0 3 [c0] = some x0 := by simpa [hcells, cInt] using hfl 0 _ rfl
  have f1 : DataW.trod enc Tryd.prog W base spare held n0 9 [c1] = some x1 := by simpa [hcells, Tryd.cellsStr] using hfl 1 _ rfl
  have f2 : DataW.trod enc Tryd.prog W base spare held n0 9 [c2] = some x2 := by simpa [hcells, Tryd.cellsStr] using hfl 2 _ rfl
  have f3 : DataW.trod enc Tryd.prog W base spare held n0 3 [c3] = some x3 := by simpa [hcells, cInt] using hfl 3 _ rfl
  have f4 : DataW.trod enc Tryd.prog W base spare held n0 24 [c4, c5] = some x4 := by simpa [hcells, cThing] using hfl 4 _ rfl
  obtain ⟨k, rfl⟩ := read_int f0
  obtain ⟨sum, rfl, hs⟩ := read_str f1
  obtain ⟨name, rfl, hn⟩ := read_str f2
  obtain ⟨n, rfl⟩ := read_int f3
  obtain ⟨t, a, cap, ss, rfl, ht, rfl, hr, hl, hss⟩ := read_thing f4
  refine ⟨k, sum, name, n, t, a, cap, ss, ?_, hs, hn, ht, hr, hl, hss⟩
  congr 1
  apply Array.toList_inj.1
  rw [hcs]

end Go.Proofs.YtdecihmplkgfkaaDoor
