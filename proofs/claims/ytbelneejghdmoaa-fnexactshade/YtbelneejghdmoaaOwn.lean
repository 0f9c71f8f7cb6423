/-
  Rows that a call made, and what keeps them.
-/
import Derived.Test.YtbelneejghdmoaaMarkS
namespace Go.Proofs.Ytbelneejghdmoaa
open Go.ChangeShapes Go.WideShapes Go.ChangeAt Go.RowKit

/-- Nothing but two blocks has turned. -/
structure Twice (a b : World) (p q : Option Nat) : Prop where
  os : b.os = a.os
  tape : b.tape = a.tape
  output : b.output = a.output
  size : a.heap.size ≤ b.heap.size
  block : ∀ k, k < a.heap.size → some k ≠ p → some k ≠ q → b.heap[k]? = a.heap[k]?

theorem Twice.below {a b : World} {p q : Option Nat} (h : Twice a b p q) {B : Nat} (hB : B ≤ a.heap.size) (hp : ∀ k, p = some k → B ≤ k) (hq : ∀ k, q = some k → B ≤ k) : Below B a b :=
  ⟨h.os, h.tape, h.output, h.size, fun k hk => h.block k (by omega) (fun e => by have := hp k e.symm; omega) (fun e => by have := hq k e.symm; omega)⟩

theorem Twice.row {a b : World} {p q : Option Nat} (h : Twice a b p q) {base : Nat} {e : TypeId} {v : Value} {n : Nat} {xs : List Value} (ho : a.ownsRow base e 1 v n xs) (h1 : v.ownBlock = none ∨ (v.ownBlock ≠ p ∧ v.ownBlock ≠ q)) : b.ownsRow base e 1 v n xs := by
  refine ⟨ho.1, ?_⟩
  rcases ho.2 with h2 | ⟨g, cap, cur, rfl, hb, hg, h4⟩
  · exact .inl h2
  · refine .inr ⟨g, cap, cur, rfl, hb, ?_, h4⟩
    have hlt : g < a.heap.size := (Array.getElem?_eq_some_iff.1 hg).1
    simp [Value.ownBlock] at h1
    exact (h.block g hlt h1.1 h1.2).trans hg

theorem own_slice {w : World} {base : Nat} {v : Value} {ss : List ByteArray} (h : w.ownsRow base 9 1 v ss.length (ss.map Value.string)) : ∃ a cap, v = .slice a ss.length cap ∧ SRow w w.heap.size a ss := by
  rcases h.2 with ⟨hv, h0⟩ | ⟨g, cap, cur, hv, _⟩
  · exact ⟨none, 0, by rw [hv, h0], .inl (List.eq_nil_of_length_eq_zero h0)⟩
  · subst hv
    exact ⟨_, _, rfl, SRow.own h⟩

theorem own_keep {w w' : World} {base : Nat} {v : Value} {n : Nat} {xs : List Value} (h : w.ownsRow base 9 1 v n xs) (hb : Below w.heap.size w w') : w'.ownsRow base 9 1 v n xs := by
  cases hv : v.ownBlock with
  | none => exact h.kept (grown_below none hb) (.inl hv)
  | some g => exact h.kept (grown_below none hb) (.inr (by rw [hv]; simp))

theorem own_row {w : World} {base : Nat} {a : Option Addr} {c : Nat} {ss : List ByteArray} (h : w.ownsRow base 9 1 (.slice a ss.length c) ss.length (ss.map Value.string)) : SRow w w.heap.size a ss := by
  obtain ⟨a', c', e, hr⟩ := own_slice h
  cases e
  exact hr

/-- Two blocks that lie apart. -/
theorem own_apart {w : World} {base' : Nat} {v v' : Value} {n' : Nat} {ys : List Value} (h' : w.ownsRow base' 9 1 v' n' ys) (hlt : ∀ g, v.ownBlock = some g → g < base') : v.ownBlock = none ∨ v.ownBlock ≠ v'.ownBlock := by
  cases hv : v.ownBlock with
  | none => exact .inl rfl
  | some g => exact .inr (fun e => by have := (h'.lt g e.symm).1; have := hlt g hv; omega)

end Go.Proofs.Ytbelneejghdmoaa
