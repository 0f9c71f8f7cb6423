/-
  laws.wList: two lists that are one.
-/
import Derived.Test.YtdecihmplkgfkaaDoorBase
import Derived.BigQuiet
namespace Go.Proofs.YtdecihmplkgfkaaDoor
open Go.ChangeShapes Go.WideShapes Go.ChangeAt Go.RowKit

set_option maxHeartbeats 400000 in
theorem wList_yes (a a' : Option Addr) (cap cap' : Nat) (ss : List ByteArray) (w : World) (B B' : Nat) (hrow : SRow w B a ss) (hrow' : SRow w B' a' ss) (hl : ss.length ≤ 1048576) :
    Calls Tryd.prog 47 #[.slice a ss.length cap, .slice a' ss.length cap'] w fun e w' => e = .returned (.bool true) ∧ ∃ n, w' = w.drewN n := by
  go_enter Tryd.func47, Tryd.ntmps47
  go_wp2
  go_loopw [5] (fun i wr => ∃ k n : Nat, k ≤ ss.length ∧ i = .int .i64 k ∧ wr = w.drewN n) (fun i _ => ss.length - (intOf i).toNat)
  case atStart => exact ⟨0, 0, Nat.zero_le _, rfl, rfl⟩
  case round =>
    obtain ⟨k, n, hk, rfl, rfl⟩ := hrel
    by_cases hlt : k < ss.length
    · obtain ⟨b, off, ha, hb, hc⟩ := hrow.at hlt
      obtain ⟨b', off', ha', hb', hc'⟩ := hrow'.at hlt
      subst ha ha'
      have hck := hc k ss[k] (List.getElem?_eq_getElem hlt)
      have hck' := hc' k ss[k] (List.getElem?_eq_getElem hlt)
      clear hc hc' hrow hrow'
      generalize ss[k] = s at *
      go_wp2
      go_quiet (fail)
      go_wp2
      exact ⟨⟨k + 1, _, by omega, by go_num, rfl⟩, by simp [intOf]; omega⟩
    · go_wp2
      go_ret
      exact ⟨rfl, _, rfl⟩

end Go.Proofs.YtdecihmplkgfkaaDoor
