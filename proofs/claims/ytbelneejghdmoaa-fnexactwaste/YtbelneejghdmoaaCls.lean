/-
  Regions that draw their order and whose calls make memory: one walk in the order of the text, in every world of a class.
-/
import Derived.Test.YtbelneejghdmoaaThingH
namespace Go.Proofs.Ytbelneejghdmoaa
open Go.ChangeShapes Go.WideShapes Go.ChangeAt Go.RowKit

/-- The worlds below which nothing of W has turned. -/
structure Cls (W : World) where
  w : World
  h : Below W.heap.size W w

theorem Cls.ne (W : World) : Nonempty (Cls W) := ⟨⟨W, Below.refl _ _⟩⟩

theorem Cls.cell {W : World} {b o : Nat} {v : Value} (hv : W.cell? ⟨b, o, none⟩ = some v) (hb : b < W.heap.size) (n : Cls W) : n.w.cell? ⟨b, o, none⟩ = some v := (n.h.cell (p := ⟨b, o, none⟩) hb).trans hv

theorem Cls.size {W : World} (n : Cls W) : W.heap.size ≤ n.w.heap.size := n.h.size

def Cls.next {W : World} (n : Cls W) {w' : World} (h : Below n.w.heap.size n.w w') : Cls W := ⟨w', n.h.trans (h.mono n.h.size)⟩

theorem region_cls {P : Program} {ops : Array Oper} {id : Nat} {Q : Exit → Act → World → Prop} {a : Act} {w : World} (hm : P.follows .mixedOrders = true) (hB : Region.lexB .any ops = true)
    (h : wpQuiet P ops (fun w' => ∃ n : Cls w, w' = n.w) (fun a' => ∀ n : Cls w, Q .normal a' n.w) ops.toList a) : (Code.region id ops true).wp P Q a w := by
  refine wp_region_quiet (C := fun w' => ∃ n : Cls w, w' = n.w) hm hB ⟨⟨_, (Below.refl _ _).drew⟩, rfl⟩ ?_
  have e : (fun a' => ∀ w', (∃ n : Cls w, w' = n.w) → Q .normal a' w') = (fun a' => ∀ n : Cls w, Q .normal a' n.w) := by
    funext a'
    exact propext ⟨fun h n => h _ ⟨n, rfl⟩, fun h _ ⟨n, e⟩ => e ▸ h n⟩
  rw [e]
  exact h

theorem region_cls_lit {P : Program} {l : List Oper} {id : Nat} {Q : Exit → Act → World → Prop} {a : Act} {w : World} (hm : P.follows .mixedOrders = true) (hB : Region.lexB .any l.toArray = true)
    (h : wpQuiet P l.toArray (fun w' => ∃ n : Cls w, w' = n.w) (fun a' => ∀ n : Cls w, Q .normal a' n.w) l a) : (Code.region id l.toArray true).wp P Q a w :=
  region_cls hm hB (by simpa using h)

/-- A call that makes memory, among the worlds of the class. -/
theorem Cls.calls {P : Program} {f : FuncId} {args : Array Value} {W : World} {v : Value} {n : Cls W} (h : Calls P f args n.w fun e w' => e = .returned v ∧ Below n.w.heap.size n.w w') :
    Calls P f args n.w fun e w'' => e = .returned v ∧ ∃ m : Cls W, w'' = m.w :=
  h.mono fun _ _ ⟨he, hb⟩ => ⟨he, n.next hb, rfl⟩

end Go.Proofs.Ytbelneejghdmoaa
