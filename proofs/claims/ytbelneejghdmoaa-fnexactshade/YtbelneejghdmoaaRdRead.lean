/-
  A round that is handed in, read.
-/
import Derived.Test.YtbelneejghdmoaaStRead
namespace Go.Proofs.Ytbelneejghdmoaa

section
open Go.ChangeShapes Go.WideShapes Go.ChangeAt Go.RowKit Go.Deep
variable {H : Type} {enc : TypeId × Value → H} {W : World} {base : Nat} {spare : Nat → Bool} {held : Bool}

theorem cRoundL : Try.prog.cellsOf 40 = 6 := by kernel_rfl
theorem l6of {α : Type} {l : List α} (h : l.length = 6) : ∃ a b c d e f, l = [a, b, c, d, e, f] := by match l, h with | [a, b, c, d, e, f], _ => exact ⟨a, b, c, d, e, f, rfl⟩

set_option maxRecDepth 20000 in
theorem read_round {r : Reach} {b0 : Nat} {v : Value} {d : DataW H} {pl : List MemPlace} (hv : Value.okWide Try.prog W r b0 40 v) (h : DataW.Trod enc Try.prog W base spare held 40 v d pl) :
    ∃ (ph top at_ ro : Int) (qa : Option Addr) (qac : Nat) (ma : Option Addr) (mac : Nat) (qs ms : List ByteArray), v = .agg #[.int .i64 ph, .slice qa (List.length qs) qac, .slice ma (List.length ms) mac, .int .i64 top, .int .i64 at_, .int .i64 ro] ∧ SRow W W.heap.size qa qs ∧ SRow W W.heap.size ma ms ∧
      qs.length ≤ maxLen ∧ (∀ s ∈ qs, ByteArray.size s ≤ maxLen) ∧ ms.length ≤ maxLen ∧ (∀ s ∈ ms, ByteArray.size s ≤ maxLen) := by
  obtain ⟨cs, rfl, hsz⟩ := okWide_struct Try.underlying40 hv
  obtain ⟨fuel, hf⟩ := h
  obtain ⟨xs, n0, _, _, _, hlen, hfl⟩ := DataW.trod_struct Try.underlying40 hf
  obtain ⟨c0, c1, c2, c3, c4, c5, hcs⟩ := l6of (l := cs.toList) (by rw [Array.length_toList, hsz, cRoundL])
  obtain ⟨x0, x1, x2, x3, x4, x5, rfl⟩ := l6of (l := xs) hlen
  have hcells : (Value.agg cs).cells.toList = [c0, c1, c2, c3, c4, c5] := by rw [← hcs]; rfl
  have f0 : DataW.trod enc Try.prog W base spare held n0 3 [c0] = some x0 := by simpa [hcells, cIntS] using hfl 0 _ rfl
  have f1 : DataW.trod enc Try.prog W base spare held n0 38 [c1] = some x1 := by simpa [hcells, cIntS, cSliceS] using hfl 1 _ rfl
  have f2 : DataW.trod enc Try.prog W base spare held n0 38 [c2] = some x2 := by simpa [hcells, cIntS, cSliceS] using hfl 2 _ rfl
  have f3 : DataW.trod enc Try.prog W base spare held n0 3 [c3] = some x3 := by simpa [hcells, cIntS, cSliceS] using hfl 3 _ rfl
  have f4 : DataW.trod enc Try.prog W base spare held n0 3 [c4] = some x4 := by simpa [hcells, cIntS, cSliceS] using hfl 4 _ rfl
  have f5 : DataW.trod enc Try.prog W base spare held n0 3 [c5] = some x5 := by simpa [hcells, cIntS, cSliceS] using hfl 5 _ rfl
  obtain ⟨ph, rfl, _⟩ := read_intw f0
  obtain ⟨top, rfl, _⟩ := read_intw f3
  obtain ⟨at_, rfl, _⟩ := read_intw f4
  obtain ⟨ro, rfl, _⟩ := read_intw f5
  obtain ⟨qa, qac, qs, rfl, hq, hql, hqs⟩ := read_strs f1
  obtain ⟨ma, mac, ms, rfl, hm, hml, hms⟩ := read_strs f2
  refine ⟨ph, top, at_, ro, qa, qac, ma, mac, qs, ms, ?_, hq, hm, hql, hqs, hml, hms⟩
  congr 1
  apply Array.toList_inj.1
  rw [hcs]

end

end Go.Proofs.Ytbelneejghdmoaa
