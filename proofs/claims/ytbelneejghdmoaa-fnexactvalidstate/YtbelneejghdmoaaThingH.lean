/-
  Small words on worlds that every walk takes.
-/
import Derived.Test.YtbelneejghdmoaaBase
import Derived.Deep.Onto
import Derived.Laws.Cover1
namespace Go.Proofs.Ytbelneejghdmoaa
open Go.ChangeShapes Go.WideShapes Go.ChangeAt Go.RowKit

theorem SRow.below' {w w' : World} {a : Option Addr} {ss : List ByteArray} (h : SRow w w.heap.size a ss) (hb : Below w.heap.size w w') : SRow w' w'.heap.size a ss := (h.below hb).mono hb.size

theorem belowN {B : Nat} {a w : World} (h : Below B a w) (n : Nat) : Below B a (w.drewN n) := ⟨h.os, h.tape, h.output, h.size, h.block⟩

theorem bcell {W w1 : World} (hb : Below W.heap.size W w1) : (∀ b o, b < W.heap.size → w1.cell? ⟨b, o, none⟩ = W.cell? ⟨b, o, none⟩) ∧ (∀ b o, b < W.heap.size → w1.frozen? ⟨b, o, none⟩ = W.frozen? ⟨b, o, none⟩) :=
  ⟨fun b o h => hb.cell (p := ⟨b, o, none⟩) h, fun b o h => hb.frozen (p := ⟨b, o, none⟩) h⟩

end Go.Proofs.Ytbelneejghdmoaa
