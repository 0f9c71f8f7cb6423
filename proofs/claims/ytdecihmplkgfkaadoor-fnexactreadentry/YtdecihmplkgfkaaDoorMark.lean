/-
  laws.markThing, heldThing.
-/
import Derived.Test.YtdecihmplkgfkaaDoorThing
import Derived.Test.YtdecihmplkgfkaaDoorMarkS
namespace Go.Proofs.YtdecihmplkgfkaaDoor
open Go.ChangeShapes Go.WideShapes Go.ChangeAt Go.RowKit

theorem markThing_any (t : ByteArray) (a : Option Addr) (n cap k base : Nat) (xs : List Value) (w : World) (hown : w.ownsRow base 9 1 (.slice a n cap) n xs) (hk : 1 ≤ k) (hkn : k + n ≤ 100000000) :
    Calls Tryd.prog 35 #[.agg #[.string t, .slice a n cap], .int .i64 k] w fun e w' => e = .returned (.int .i64 (k + n)) ∧ w'.ownsRow base 9 1 (.slice a n cap) n ((marks k n).map Value.string) ∧ w.grownBy w' (Value.slice a n cap).ownBlock := by
  go_enter Tryd.func35, Tryd.ntmps35
  go_wp2_with fail
  refine (markS_any a n cap k base xs _ (hown.alloc _) hk hkn).mono ?_
  rintro e w2 ⟨rfl, ho2, hg2⟩
  go_wp2
  go_ret
  exact ⟨rfl, ho2, grown_trans (grown_below _ ((Below.refl _ _).alloc (Nat.le_refl _) _)) hg2⟩

theorem heldThing_any (t : ByteArray) (a : Option Addr) (n cap k : Nat) (w : World) (hrow : SRow w w.heap.size a (marks k n)) (hk : 1 ≤ k) (hkn : k + n ≤ 100000000) :
    Calls Tryd.prog 36 #[.agg #[.string t, .slice a n cap], .int .i64 k] w fun e w' => e = .returned (.int .i64 (k + n)) ∧ Below w.heap.size w w' := by
  have hb : Below w.heap.size w (w.alloc (.cells #[.string t, .slice a n cap] 29)) := (Below.refl _ _).alloc (Nat.le_refl _) _
  have hnn : ¬ ((k : Int) + n < 0) := by omega
  go_enter Tryd.func36, Tryd.ntmps36
  go_wp2_with fail
  refine (heldS_any a n cap k w.heap.size _ (hrow.below hb) (by simp) hk hkn).mono ?_
  rintro e w2 ⟨rfl, hb2⟩
  go_wp2
  go_ret
  exact ⟨rfl, hb.trans (hb2.mono (by simp))⟩

end Go.Proofs.YtdecihmplkgfkaaDoor
