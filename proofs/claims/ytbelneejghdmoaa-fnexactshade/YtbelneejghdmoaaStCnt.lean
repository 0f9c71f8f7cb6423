/-
  impl.marksOf.
-/
import Derived.Test.YtbelneejghdmoaaStCm
namespace Go.Proofs.Ytbelneejghdmoaa
open Go.ChangeShapes Go.WideShapes Go.ChangeAt Go.RowKit
attribute [local go_sem ↓] Go.wp_at_zero Go.wp_at_succ

set_option maxRecDepth 20000 in
set_option maxHeartbeats 4000000 in
theorem marksOf_any (ph top at_ ro : Int) (q a : Option Addr) (ql qc ac : Nat) (ms : List ByteArray) (w : World) (hrow : SRow w w.heap.size a ms) (hl : ms.length ≤ 1048576) :
    Calls Try.prog 117 #[.agg #[.int .i64 ph, .slice q ql qc, .slice a ms.length ac, .int .i64 top, .int .i64 at_, .int .i64 ro]] w fun e w' => ∃ b c f, e = .returned (.map (some b)) ∧ w.heap.size ≤ b ∧ KMapC w' 96 b ms.length c f ∧ MK ms f c ∧ Below w.heap.size w w' := by
  have hmm := @run_makeMap Try.prog
  go_enter Try.func117, Try.ntmps117
  go_wp2
  obtain ⟨W0, hW0⟩ : ∃ W, W = (w.alloc (Obj.cells #[.int .i64 ph, .slice q ql qc, .slice a ms.length ac, .int .i64 top, .int .i64 at_, .int .i64 ro] 43)).alloc (Obj.map #[] 0) := ⟨_, rfl⟩
  have hB0 : Below w.heap.size w W0 := by
    rw [hW0]
    exact ((Below.refl _ _).alloc (Nat.le_refl _) _).alloc (by simp) _
  have hz0 : W0.heap.size = w.heap.size + 2 := by rw [hW0]; simp
  have hM0 : KMapC W0 96 (w.heap.size + 1) 0 0 (fun _ => none) := by
    have := KMapC.new (w.alloc (Obj.cells #[.int .i64 ph, .slice q ql qc, .slice a ms.length ac, .int .i64 top, .int .i64 at_, .int .i64 ro] 43)) 96
    rw [hW0]
    rw [World.size_alloc] at this
    exact this
  rw [← hW0]
  clear hW0 hmm
  go_loopw [10] (fun i wr => ∃ (k c : Nat) (f : Lit → Option Value), k ≤ ms.length ∧ i = .int .i64 k ∧ Hid (KMapC wr 96 (w.heap.size + 1) k c f) ∧ Hid (MK (ms.take k) f c) ∧ W0.grownBy wr (some (w.heap.size + 1))) (fun i _ => ms.length - (intOf i).toNat)
  case atStart => exact ⟨0, 0, _, Nat.zero_le _, rfl, hM0, by rw [List.take_zero]; exact MK.nil, grown_refl _ _⟩
  case round =>
    obtain ⟨k, c, f, hk, rfl, HM, HF, hgr⟩ := hrel
    have hbel : Below w.heap.size w wr := hB0.grown hgr (by omega) (by intro j hj; cases hj; omega)
    have hzr := hgr.size
    by_cases hlt : k < ms.length
    · obtain ⟨b, off, ha, hb, hc⟩ := (hrow.below hbel).at hlt
      subst ha
      have HG : Hid (ms[k]? = some ms[k]) := List.getElem?_eq_getElem hlt
      have c0 := hc k _ HG.out
      clear hc hrow
      generalize ms[k] = x at *
      obtain ⟨n, hn, hn0, hn1, _⟩ := HF.out.get (keyL x)
      have hnl : (ms.take k).length = k := by simp; omega
      rw [hnl] at hn1
      have hwr : IntKind.i64.wrap (n + 1) = n + 1 := cnt_wrap (by omega) (by omega)
      go_wp2
      go_region_with (first
        | (go_at_call 71; refine (key_any x _).mono ?_; rintro e w2 ⟨rfl, hb2⟩; have hb12 : Below wr.heap.size wr w2 := (Below.refl _ _).drew.trans (hb2.mono (by simp)); obtain ⟨st, w3, w4, he, hl1, hl3, hs4, hm4, hg3, hg4⟩ := (HM.out.keep hb12 (by omega)).bump keyed Try.underlying93 (by unfold maxLen; omega) zeroInt (key_lit x) (.int .i64 (n + 1)); rw [hn] at he hl1 hl3; unfold goInt at he hs4))
      all_goals
        have hgn : W0.grownBy w4 (some (w.heap.size + 1)) := grown_trans hgr (grown_trans (grown_below _ hb12) hg4)
        have HN : Hid (MK (ms.take (k + 1)) (upd f (keyL x) (.int .i64 (n + 1))) (if (f (keyL x)).isSome then c else c + 1)) := by
          have := HF.out.snoc x hn0 (by rw [hnl]; exact hn1)
          rw [List.take_add_one, HG.out]
          exact this
        have HMn : Hid _ := hm4
        clear hm4 he hl1 hl3 hs4 hg3 hg4 hb12 hb2
        go_wp2
        exact ⟨⟨k + 1, _, _, by omega, by go_num, HMn, HN, hgn⟩, by simp [intOf]; omega⟩
    · rw [List.take_of_length_le (by omega)] at HF
      obtain rfl : k = ms.length := by omega
      go_wp2
      go_ret
      exact ⟨_, c, f, rfl, by omega, HM.out, HF.out, hbel⟩

end Go.Proofs.Ytbelneejghdmoaa
