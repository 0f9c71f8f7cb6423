/-
  Append, on both sides: one answer.
-/
import Derived.Test.YtdecihmplkgfkaaLogAq
import Derived.Test.YtdecihmplkgfkaaLogSb
namespace Go.Proofs.Ytdecihmplkgfkaa
open Go.ChangeShapes Go.WideShapes Go.ChangeAt Go.RowKit

/-- What is safe in the answer, and what is loose. -/
def apS (ss tt : List ByteArray) (en : ByteArray) : List ByteArray := if apCode ss tt en = 0 then ss else []
def apL (ss tt : List ByteArray) (en : ByteArray) : List ByteArray := if apCode ss tt en = 0 then tt ++ [en] else []

theorem ap_zero {ss tt : List ByteArray} {en : ByteArray} (h : apCode ss tt en = 0) : okLog ss tt = true ∧ en.size ≤ 5000 ∧ ss.length + tt.length < 4000 := by
  unfold apCode at h
  split at h
  · rename_i h1
    split at h
    · cases h
    · rename_i h2
      have h3 := h1.1
      unfold okLog at h3
      rw [Bool.and_eq_true, decide_eq_true_eq] at h3
      exact ⟨h1.1, h1.2, by omega⟩
  · cases h

theorem apS_len (ss tt : List ByteArray) (en : ByteArray) : (apS ss tt en).length ≤ ss.length := by
  unfold apS; split
  · exact Nat.le_refl _
  · simp

theorem apL_len (ss tt : List ByteArray) (en : ByteArray) : (apL ss tt en).length ≤ 4000 := by
  unfold apL; split
  · rename_i h
    have := ap_zero h
    simp; omega
  · simp

theorem apart_flip {p q : Option Nat} (h : p = none ∨ p ≠ q) : q = none ∨ q ≠ p := by
  rcases h with h | h
  · cases q with
    | none => exact .inl rfl
    | some g => exact .inr (by rw [h]; simp)
  · exact .inr (fun e => h e.symm)

theorem iAppend_any (a b : Option Addr) (c d : Nat) (ss tt : List ByteArray) (en : ByteArray) (w : World) (hr : SRow w w.heap.size a ss) (hq : SRow w w.heap.size b tt) (hl : ss.length ≤ 1048576) (hl' : tt.length ≤ 1048576)
    (hs : ∀ s ∈ ss, s.size ≤ 1048576) (hs' : ∀ s ∈ tt, s.size ≤ 1048576) :
    Calls Try.prog 40 #[.agg #[.slice a ss.length c, .slice b tt.length d], .string en] w fun e w' => ∃ v u, e = .returned (.tuple #[.agg #[v, u], .int .i64 (apCode ss tt en)]) ∧
      w'.ownsRow w.heap.size 9 1 v (apS ss tt en).length ((apS ss tt en).map Value.string) ∧ w'.ownsRow w.heap.size 9 1 u (apL ss tt en).length ((apL ss tt en).map Value.string) ∧ (v.ownBlock = none ∨ v.ownBlock ≠ u.ownBlock) ∧ Below w.heap.size w w' := by
  by_cases h0 : apCode ss tt en = 0
  · obtain ⟨h1, h2, h3⟩ := ap_zero h0
    unfold apS apL
    rw [if_pos h0, if_pos h0, h0]
    exact iAppend_go a b c d ss tt en w hr hq hl hl' hs hs' h1 h2 (by omega)
  · unfold apS apL
    rw [if_neg h0, if_neg h0]
    refine (iAppend_no a b c d ss tt en w hr hq hl hl' hs hs' h0).mono ?_
    rintro e w' ⟨rfl, hb⟩
    exact ⟨_, _, rfl, World.ownsRow_nil _ _ _ _, World.ownsRow_nil _ _ _ _, .inl rfl, hb⟩

theorem sAppend_any (g h c d : Nat) (ss tt : List ByteArray) (en : ByteArray) (w : World) (hr : SRow w w.heap.size (some ⟨g, 0, none⟩) ss) (hq : SRow w w.heap.size (some ⟨h, 0, none⟩) tt) (hl : ss.length ≤ 1048576) (hl' : tt.length ≤ 1048576)
    (hs : ∀ s ∈ ss, s.size ≤ 1048576) (hs' : ∀ s ∈ tt, s.size ≤ 1048576) :
    Calls Try.prog 39 #[.agg #[.slice (some ⟨g, 0, none⟩) ss.length c, .slice (some ⟨h, 0, none⟩) tt.length d], .string en] w fun e w' => ∃ v u, e = .returned (.tuple #[.agg #[v, u], .int .i64 (apCode ss tt en)]) ∧
      w'.ownsRow w.heap.size 9 1 v (apS ss tt en).length ((apS ss tt en).map Value.string) ∧ w'.ownsRow w.heap.size 9 1 u (apL ss tt en).length ((apL ss tt en).map Value.string) ∧ Below w.heap.size w w' := by
  by_cases h0 : apCode ss tt en = 0
  · obtain ⟨h1, h2, h3⟩ := ap_zero h0
    unfold apS apL
    rw [if_pos h0, if_pos h0, h0]
    exact sAppend_go g h c d ss tt en w hr hq hl hl' hs hs' h1 h2 (by omega)
  · unfold apS apL
    rw [if_neg h0, if_neg h0]
    refine (sAppend_no _ _ c d ss tt en w hr hq hl hl' hs hs' h0).mono ?_
    rintro e w' ⟨rfl, hb⟩
    exact ⟨_, _, rfl, World.ownsRow_nil _ _ _ _, World.ownsRow_nil _ _ _ _, hb⟩

end Go.Proofs.Ytdecihmplkgfkaa
