/-
  What the reading of an argument gives to a walk.
-/
import Derived.Test.YtbelneejghdmoaaRows
import Derived.Test.YtbelneejghdmoaaBase
import Derived.OpenShut
import Derived.ShutString
import Derived.Lib.SmallJoins
namespace Go.Proofs.Ytbelneejghdmoaa
open Go.ChangeShapes Go.WideShapes Go.ChangeAt Go.RowKit

theorem Try.cellsStr : Try.prog.cellsOf 9 = 1 := by kernel_rfl

theorem own : ownKnob Try.prog.godebug = none := by kernel_rfl

theorem laidOut : laidOutB Try.prog = true := by kernel_rfl

/-- A list of strings, read. -/
theorem read_strs {H : Type} {enc : TypeId × Value → H} {W : World} {base : Nat} {spare : Nat → Bool} {held : Bool} {fuel : Nat} {v : Value} {y : DataW H × List MemPlace}
    (h : DataW.trod enc Try.prog W base spare held fuel 38 [v] = some y) :
    ∃ a cap ss, v = .slice a (List.length ss) cap ∧ SRow W W.heap.size a ss ∧ ss.length ≤ maxLen ∧ ∀ s ∈ ss, ByteArray.size s ≤ maxLen := by
  rcases open_strings Try.underlying38 Try.underlying9 Try.cellsStr h with ⟨hcs, _⟩ | ⟨a, len, cap, ss, hcs, _, hl, hm, hn, _, hcell, hws⟩
  · simp at hcs
    subst hcs
    exact ⟨none, 0, [], rfl, .inl rfl, by simp [maxLen], fun s hs => by cases hs⟩
  · simp at hcs
    subst hcs
    have hlen : len ≤ ss.length := by rw [hn]; split <;> omega
    have htl : (ss.take len).length = len := by simp; omega
    refine ⟨some a, cap, ss.take len, by rw [htl], ?_, by rw [htl]; omega, fun s hs => hws s (List.mem_of_mem_take hs)⟩
    by_cases h0 : len = 0
    · exact .inl (by simp [h0])
    · obtain ⟨b, off, spot⟩ := a
      have hspot : spot = none := by simpa [Addr.add] using World.cell?_spot (hcell 0 (by omega))
      subst hspot
      have hc : ∀ j, j < ss.length → W.cell? ⟨b, off + j, none⟩ = some (.string (ss.getD j ByteArray.empty)) := fun j hj => by rw [← Go.WideShapes.add_plain]; exact hcell j hj
      refine .inr ⟨b, off, rfl, ?_, fun i s hs => ?_⟩
      · exact World.block_lt_of_cell? W ⟨b, off + 0, none⟩ (hc 0 (by omega))
      · have hi : i < len := by
          have := (List.getElem?_eq_some_iff.1 hs).1
          omega
        rw [List.getElem?_take_of_lt hi] at hs
        rw [hc i (by omega)]
        simp [List.getD, hs]

theorem read_str {H : Type} {enc : TypeId × Value → H} {W : World} {base : Nat} {spare : Nat → Bool} {held : Bool} {fuel : Nat} {v : Value} {y : DataW H × List MemPlace}
    (h : DataW.trod enc Try.prog W base spare held fuel 9 [v] = some y) : ∃ s, v = .string s ∧ s.size ≤ maxLen := by
  obtain ⟨s, hs, _, hm⟩ := DataW.trod_string Try.underlying9 h
  simp at hs
  exact ⟨s, hs, hm⟩

end Go.Proofs.Ytbelneejghdmoaa
