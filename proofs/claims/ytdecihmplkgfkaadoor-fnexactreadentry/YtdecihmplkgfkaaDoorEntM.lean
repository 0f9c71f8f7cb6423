/-
  laws.markEntry, heldEntry.
-/
import Derived.Test.YtdecihmplkgfkaaDoorEntI
import Derived.Test.YtdecihmplkgfkaaDoorMark
namespace Go.Proofs.YtdecihmplkgfkaaDoor
open Go.ChangeShapes Go.WideShapes Go.ChangeAt Go.RowKit

theorem markEntry_any (k : Int) (sum name : ByteArray) (m : Int) (t : ByteArray) (a : Option Addr) (n cap q base : Nat) (xs : List Value) (w : World) (hown : w.ownsRow base 9 1 (.slice a n cap) n xs) (hk : 1 ≤ q) (hkn : q + n ≤ 100000000) :
    Calls Tryd.prog 13 #[.agg (entV k sum name m t a n cap), .int .i64 q] w fun e w' => e = .returned (.int .i64 (q + n)) ∧ w'.ownsRow base 9 1 (.slice a n cap) n ((marks q n).map Value.string) ∧ w.grownBy w' (Value.slice a n cap).ownBlock := by
  go_enter Tryd.func13, Tryd.ntmps13
  go_wp2_with fail
  refine (markThing_any t a n cap q base xs _ (hown.alloc _) hk hkn).mono ?_
  rintro e w2 ⟨rfl, ho2, hg2⟩
  go_wp2
  go_ret
  exact ⟨rfl, ho2, grown_trans (grown_below _ ((Below.refl _ _).alloc (Nat.le_refl _) _)) hg2⟩

theorem heldEntry_any (k : Int) (sum name : ByteArray) (m : Int) (t : ByteArray) (a : Option Addr) (n cap q : Nat) (w : World) (hrow : SRow w w.heap.size a (marks q n)) (hk : 1 ≤ q) (hkn : q + n ≤ 100000000) :
    Calls Tryd.prog 14 #[.agg (entV k sum name m t a n cap), .int .i64 q] w fun e w' => e = .returned (.int .i64 (q + n)) ∧ Below w.heap.size w w' := by
  have hb : Below w.heap.size w (w.alloc (.cells (entV k sum name m t a n cap) 31)) := (Below.refl _ _).alloc (Nat.le_refl _) _
  have hnn : ¬ ((q : Int) + n < 0) := by omega
  go_enter Tryd.func14, Tryd.ntmps14
  go_wp2_with fail
  refine (heldThing_any t a n cap q _ (hrow.below' hb) hk hkn).mono ?_
  rintro e w2 ⟨rfl, hb2⟩
  go_wp2
  go_ret
  exact ⟨rfl, hb.trans (hb2.mono (by simp))⟩

end Go.Proofs.YtdecihmplkgfkaaDoor
