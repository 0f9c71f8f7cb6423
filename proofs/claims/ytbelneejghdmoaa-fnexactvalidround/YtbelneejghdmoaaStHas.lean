/-
  spec.l4Has.
-/
import Derived.Test.YtbelneejghdmoaaStFind
namespace Go.Proofs.Ytbelneejghdmoaa
open Go.ChangeShapes Go.WideShapes Go.ChangeAt Go.RowKit

set_option maxHeartbeats 400000 in
theorem has_any (a : Option Addr) (cap : Nat) (ss : List ByteArray) (s : ByteArray) (w : World) (B : Nat) (hrow : SRow w B a ss) (hl : ss.length ≤ 1048576) :
    Calls Try.prog 68 #[.slice a ss.length cap, .string s] w fun e w' => e = .returned (.bool (ss.any (fun x => decide (x = s)))) ∧ w' = w := by
  go_enter Try.func68, Try.ntmps68
  go_wp2
  go_loop [5] (fun i => ∃ k : Nat, k ≤ ss.length ∧ i = .int .i64 k ∧ Hid (∀ j x, j < k → ss[j]? = some x → x ≠ s)) (fun i => ss.length - (intOf i).toNat)
  case atStart => exact ⟨0, Nat.zero_le _, rfl, fun j x h => by omega⟩
  case round =>
    obtain ⟨k, hk, rfl, hall⟩ := hrel
    by_cases hlt : k < ss.length
    · obtain ⟨b, off, ha, hb, hc⟩ := hrow.at hlt
      subst ha
      have hg : Hid (ss[k]? = some ss[k]) := List.getElem?_eq_getElem hlt
      have c0 := hc k _ hg
      clear hc hrow
      generalize ss[k] = x at *
      by_cases he : x = s
      · subst he
        have hh : Hid (ss.any (fun y => decide (y = x)) = true) := by
          show _ = _
          rw [List.any_eq_true]
          exact ⟨x, List.mem_of_getElem? hg.out, by simp⟩
        go_wp2
        go_ret
        exact ⟨ret_b hh.out.symm, rfl⟩
      · have hne := beq_ne he
        have HA : Hid (∀ j y, j < k + 1 → ss[j]? = some y → y ≠ s) := by
          intro j y hj hy
          rcases Nat.lt_or_ge j k with h' | h'
          · exact hall.out j y h' hy
          · obtain rfl : j = k := by omega
            rw [hg.out] at hy
            cases hy
            exact he
        clear he hall hg
        go_wp2
        exact ⟨⟨k + 1, by omega, by go_num, HA⟩, by simp [intOf]; omega⟩
    · go_wp2
      go_ret
      refine ⟨ret_b ?_, rfl⟩
      symm
      rw [List.any_eq_false]
      intro x hx
      obtain ⟨j, hj⟩ := List.getElem?_of_mem hx
      simpa using hall.out j x (by have := (List.getElem?_eq_some_iff.1 hj).1; omega) hj

end Go.Proofs.Ytbelneejghdmoaa
