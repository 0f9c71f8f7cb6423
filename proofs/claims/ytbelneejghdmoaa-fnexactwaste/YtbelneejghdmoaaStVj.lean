/-
  What a visitor that counts keeps.
-/
import Derived.Test.YtbelneejghdmoaaStWl
namespace Go.Proofs.Ytbelneejghdmoaa
open Go.ChangeShapes Go.WideShapes Go.ChangeAt Go.RowKit
attribute [local go_sem ↓] Go.wp_at_zero Go.wp_at_succ

/-- What the counting visitor keeps: its variable at c holds the map at l, which has the marks of what was visited. -/
def JCnt (l c : Nat) (vs : List ByteArray) (W : World) : Prop :=
  ∃ (n cc : Nat) (f : Lit → Option Value), KMapC W 96 l n cc f ∧ n ≤ vs.length ∧ MK vs f cc ∧ W.cell? ⟨c, 0, none⟩ = some (.map (some l)) ∧ c ≠ l

theorem jcnt_abides (n0 l c : Nat) (hl : l < n0) (hc : c < n0) : Abides n0 (JCnt l c) := by
  rintro vs W W' ⟨n, cc, f, h1, h2, h3, h4, h5⟩ _ _ _ _ ho _
  exact ⟨n, cc, f, h1.same (ho l hl), h2, h3, (World.cell?_of_block (a := ⟨c, 0, none⟩) (ho c hc)).trans h4, h5⟩

theorem jcnt_keep {l c : Nat} {vs : List ByteArray} {W W' : World} (h : JCnt l c vs W) (hb : Below W.heap.size W W') : JCnt l c vs W' := by
  obtain ⟨n, cc, f, h1, h2, h3, h4, h5⟩ := h
  exact ⟨n, cc, f, h1.keep hb h1.lt, h2, h3, (hb.cell (p := ⟨c, 0, none⟩) (World.block_lt_of_cell? W _ h4)).trans h4, h5⟩

def SV (c l : Nat) (B : Nat) (s : Value) (w' : World) : Prop := w'.cell? ⟨c, 0, none⟩ = some (.map (some l)) ∧ w'.cell? ⟨B, 0, none⟩ = some s

end Go.Proofs.Ytbelneejghdmoaa
