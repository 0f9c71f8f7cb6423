/-
  laws.markRound, heldRound.
-/
import Derived.Test.YtbelneejghdmoaaOwn
import Derived.Test.YtbelneejghdmoaaRd
namespace Go.Proofs.Ytbelneejghdmoaa
open Go.ChangeShapes Go.WideShapes Go.ChangeAt Go.RowKit

set_option maxHeartbeats 400000 in
theorem markRound_any (ph top at_ ro : Int) (a b : Option Addr) (n m c d k base base' : Nat) (xs ys : List Value) (w : World) (h1 : w.ownsRow base 9 1 (.slice a n c) n xs) (h2 : w.ownsRow base' 9 1 (.slice b m d) m ys)
    (hne : (Value.slice b m d).ownBlock = none ∨ (Value.slice b m d).ownBlock ≠ (Value.slice a n c).ownBlock) (hk : 1 ≤ k) (hkn : k + n + m ≤ 100000000) :
    Calls Try.prog 24 #[.agg #[.int .i64 ph, .slice a n c, .slice b m d, .int .i64 top, .int .i64 at_, .int .i64 ro], .int .i64 k] w fun e w' => e = .returned (.int .i64 (k + n + m)) ∧ w'.ownsRow base 9 1 (.slice a n c) n ((marks k n).map Value.string) ∧
      w'.ownsRow base' 9 1 (.slice b m d) m ((marks (k + n) m).map Value.string) ∧ Twice w w' (Value.slice a n c).ownBlock (Value.slice b m d).ownBlock := by
  have hb : Below w.heap.size w (w.alloc (.cells #[.int .i64 ph, .slice a n c, .slice b m d, .int .i64 top, .int .i64 at_, .int .i64 ro] 43)) := (Below.refl _ _).alloc (Nat.le_refl _) _
  go_enter Try.func24, Try.ntmps24
  go_wp2_with fail
  refine (markS_any a n c k base xs _ (h1.alloc _) hk (by omega)).mono ?_
  rintro e w1 ⟨rfl, ho1, hg1⟩
  have hlt : ∀ g, (Value.slice a n c).ownBlock = some g → g < w.heap.size := fun g hg => (h1.lt g hg).2
  have hbox0 : w1.cell? ⟨w.heap.size, 2, none⟩ = some (.slice b m d) := hg1.cell (a := ⟨w.heap.size, 2, none⟩) (by simp) (fun e => by have := hlt _ e.symm; simp at this)
  have ho2 : w1.ownsRow base' 9 1 (.slice b m d) m ys := (h2.alloc _).kept hg1 hne
  have hcall := markS_any b m d (k + n) base' ys w1 ho2 (by omega) (by omega)
  rw [show ((k + n : Nat) : Int) = (k : Int) + n from by omega] at hcall
  go_wp2_with fail
  refine hcall.mono ?_
  rintro e w2 ⟨rfl, ho3, hg2⟩
  go_wp2
  go_ret
  refine ⟨rfl, ?_, ho3, ?_⟩
  · refine ho1.kept hg2 ?_
    rcases hne with h | h
    · cases hv : (Value.slice a n c).ownBlock with
      | none => exact .inl rfl
      | some g => exact .inr (by rw [h]; simp)
    · exact .inr (fun e => h e.symm)
  · exact ⟨hg2.os.trans hg1.os, hg2.tape.trans hg1.tape, hg2.output.trans hg1.output, by have := hg1.size; have := hg2.size; simp at *; omega, fun i hi e1 e2 =>
      (hg2.block i (by have := hg1.size; simp at this; omega) e2).trans ((hg1.block i (by simp; omega) e1).trans (hb.block i hi))⟩

set_option maxHeartbeats 400000 in
theorem heldRound_any (ph top at_ ro : Int) (a b : Option Addr) (n m c d k : Nat) (w : World) (h1 : SRow w w.heap.size a (marks k n)) (h2 : SRow w w.heap.size b (marks (k + n) m)) (hk : 1 ≤ k) (hkn : k + n + m ≤ 100000000) :
    Calls Try.prog 25 #[.agg #[.int .i64 ph, .slice a n c, .slice b m d, .int .i64 top, .int .i64 at_, .int .i64 ro], .int .i64 k] w fun e w' => e = .returned (.int .i64 (k + n + m)) ∧ Below w.heap.size w w' := by
  have hb : Below w.heap.size w (w.alloc (.cells #[.int .i64 ph, .slice a n c, .slice b m d, .int .i64 top, .int .i64 at_, .int .i64 ro] 43)) := (Below.refl _ _).alloc (Nat.le_refl _) _
  have hnn : ¬ ((k : Int) + n < 0) := by omega
  have hnn2 : ¬ ((k : Int) + n + m < 0) := by omega
  go_enter Try.func25, Try.ntmps25
  go_wp2_with fail
  refine (heldS_any a n c k w.heap.size _ (h1.below hb) (by simp) hk (by omega)).mono ?_
  rintro e w1 ⟨rfl, hb1⟩
  have hB1 := hb.trans (hb1.mono (by simp))
  have hbox0 : w1.cell? ⟨w.heap.size, 2, none⟩ = some (.slice b m d) := by rw [hb1.cell (p := ⟨w.heap.size, 2, none⟩) (by simp)]; simp
  have hcall := heldS_any b m d (k + n) w.heap.size w1 (h2.below hB1) hB1.size (by omega) (by omega)
  rw [show ((k + n : Nat) : Int) = (k : Int) + n from by omega] at hcall
  go_wp2_with fail
  refine hcall.mono ?_
  rintro e w2 ⟨rfl, hb2⟩
  go_wp2
  go_ret
  exact ⟨rfl, hB1.trans (hb2.mono hB1.size)⟩

theorem RBox.twice {w w' : World} {b : Nat} {ph top at_ ro : Int} {Q M : Value} {p q : Option Nat} (h : RBox w b ph Q M top at_ ro) (hb : Twice w w' p q) (h1 : some b ≠ p) (h2 : some b ≠ q) : RBox w' b ph Q M top at_ ro := by
  have e := hb.block b h.2.2.2.2.2.2 h1 h2
  obtain ⟨x0, x1, x2, x3, x4, x5, x6⟩ := h
  exact ⟨(World.cell?_of_block (a := ⟨b, 0, none⟩) e).trans x0, (World.cell?_of_block (a := ⟨b, 1, none⟩) e).trans x1, (World.cell?_of_block (a := ⟨b, 2, none⟩) e).trans x2, (World.cell?_of_block (a := ⟨b, 3, none⟩) e).trans x3, (World.cell?_of_block (a := ⟨b, 4, none⟩) e).trans x4, (World.cell?_of_block (a := ⟨b, 5, none⟩) e).trans x5, Nat.lt_of_lt_of_le x6 hb.size⟩

end Go.Proofs.Ytbelneejghdmoaa
