/-
  spec.Append at slices that may be nil.
-/
import Derived.Test.YtdecihmplkgfkaaLogX
import Derived.Test.YtdecihmplkgfkaaLogSo
namespace Go.Proofs.Ytdecihmplkgfkaa
open Go.ChangeShapes Go.WideShapes Go.ChangeAt Go.RowKit

theorem sAppend_anyO (a b : Option Addr) (c d : Nat) (ss tt : List ByteArray) (en : ByteArray) (w : World) (hr : SRow w w.heap.size a ss) (hq : SRow w w.heap.size b tt) (ha : a = none → ss.length = 0 ∧ c = 0) (hb : b = none → tt.length = 0 ∧ d = 0) (hl : ss.length ≤ 1048576) (hl' : tt.length ≤ 1048576)
    (hs : ∀ s ∈ ss, s.size ≤ 1048576) (hs' : ∀ s ∈ tt, s.size ≤ 1048576) :
    Calls Try.prog 39 #[.agg #[.slice a ss.length c, .slice b tt.length d], .string en] w fun e w' => ∃ v u, e = .returned (.tuple #[.agg #[v, u], .int .i64 (apCode ss tt en)]) ∧
      w'.ownsRow w.heap.size 9 1 v (apS ss tt en).length ((apS ss tt en).map Value.string) ∧ w'.ownsRow w.heap.size 9 1 u (apL ss tt en).length ((apL ss tt en).map Value.string) ∧ Below w.heap.size w w' := by
  by_cases h0 : apCode ss tt en = 0
  · obtain ⟨h1, h2, h3⟩ := ap_zero h0
    unfold apS apL
    rw [if_pos h0, if_pos h0, h0]
    exact sAppend_opt a b c d ss tt en w hr hq ha hb hl hl' hs hs' h1 h2 (by omega)
  · unfold apS apL
    rw [if_neg h0, if_neg h0]
    refine (sAppend_no _ _ c d ss tt en w hr hq hl hl' hs hs' h0).mono ?_
    rintro e w' ⟨rfl, hb⟩
    exact ⟨_, _, rfl, World.ownsRow_nil _ _ _ _, World.ownsRow_nil _ _ _ _, hb⟩

end Go.Proofs.Ytdecihmplkgfkaa
