/-
  A visitor that counts: what impl.Waste and impl.Holders hand to walk.
-/
import Derived.Test.YtbelneejghdmoaaStVj
namespace Go.Proofs.Ytbelneejghdmoaa
open Go.ChangeShapes Go.WideShapes Go.ChangeAt Go.RowKit
attribute [local go_sem ↓] Go.wp_at_zero Go.wp_at_succ

set_option maxRecDepth 20000 in
set_option maxHeartbeats 8000000 in
theorem visitWaste_any (n0 l c : Nat) (vs : List ByteArray) (W : World) (u : Kd) (ra : Option Addr) (rc : Nat) (hl : l < n0) (_hc : c < n0) (hn : n0 ≤ W.heap.size) (hvs : vs.length < 600) (hJ : JCnt l c vs W) :
    Calls Try.prog 70 #[keptV u ra rc, .pointer (some ⟨c, 0, none⟩)] W fun e W' => (∃ v, e = .returned v) ∧ JCnt l c (vs ++ [u.sum]) W' ∧ Vis n0 [l] W W' := by
  obtain ⟨n, cc, f, h1, h2, h3, h4, h5⟩ := hJ
  obtain ⟨W1, hW1⟩ : ∃ W1, W1 = W.alloc (.cells #[.string u.sum, .int .i64 u.born, .string u.text, .slice ra u.refs.length rc] 92) := ⟨_, rfl⟩
  have b1 : Below W.heap.size W W1 := by rw [hW1]; exact (Below.refl _ _).alloc (Nat.le_refl _) _
  have z1 : W1.heap.size = W.heap.size + 1 := by rw [hW1]; simp
  have s1 : W1.cell? ⟨W.heap.size, 0, none⟩ = some (.string u.sum) := by rw [hW1]; simp [go_sem]
  have c1 : W1.cell? ⟨c, 0, none⟩ = some (.map (some l)) := (b1.cell (p := ⟨c, 0, none⟩) (World.block_lt_of_cell? W _ h4)).trans h4
  have hcW : c < W1.heap.size := World.block_lt_of_cell? W1 _ c1
  have hlW := h1.lt
  obtain ⟨nn, hn', hn0, hn1, _⟩ := h3.get (keyL u.sum)
  have hwr : IntKind.i64.wrap (nn + 1) = nn + 1 := cnt_wrap (by omega) (by omega)
  have HP : Hid _ := And.intro h1 h3
  have HW1 : Hid _ := hW1
  have hS0 : SV c l W.heap.size (.string u.sum) W1.drew := ⟨c1, s1⟩
  clear h1 h3 hW1
  unfold keptV
  go_enter Try.func70, Try.ntmps70
  go_upto_region 1 with fail
  rw [← HW1.out]
  clear HW1
  go_region_held3 (fun w' => w'.cell? ⟨c, 0, none⟩ = some (.map (some l)) ∧ w'.cell? ⟨W.heap.size, 0, none⟩ = some (.string u.sum))
    (first | exact hS0 | exact hS2 | exact hS3 | exact hS4)
    (first
      | (go_at_call 71; refine (key_any u.sum W1.drew).mono ?_; rintro e w2 ⟨rfl, hb2⟩; have k2 : Below W1.heap.size W1 w2 := (Below.refl _ _).drew.trans (hb2.mono (Nat.le_refl _)); have kW : Below W.heap.size W w2 := b1.trans (k2.mono b1.size); obtain ⟨st, w3, w4, he, hl1, hl3, hs4, hm4, hg3, hg4⟩ := (HP.out.1.keep kW hlW).bump keyed Try.underlying93 (by unfold maxLen; omega) zeroInt (key_lit u.sum) (.int .i64 (nn + 1)); rw [hn'] at he hl1 hl3; unfold goInt at he hs4; have hS2 : SV c l W.heap.size (.string u.sum) w2 := ⟨(k2.cell (p := ⟨c, 0, none⟩) hcW).trans c1, (k2.cell (p := ⟨W.heap.size, 0, none⟩) (by simp; omega)).trans s1⟩; have hS3 : SV c l W.heap.size (.string u.sum) w3 := ⟨hg3.cell hS2.1 (by simpa using h5), hg3.cell hS2.2 (by simp; omega)⟩; have hS4 : SV c l W.heap.size (.string u.sum) w4 := ⟨hg4.cell hS2.1 (by simpa using h5), hg4.cell hS2.2 (by simp; omega)⟩))
  all_goals
    have HF : Hid (JCnt l c (vs ++ [u.sum]) w4 ∧ Vis n0 [l] W w4) := by
      refine ⟨⟨n + 1, _, _, hm4, by simp; omega, HP.out.2.snoc u.sum hn0 hn1, hS4.1, h5⟩, ?_⟩
      have g : W.grownBy w4 (some l) := (grown_below _ kW).trans hg4
      exact ⟨g.os, g.tape, g.output, g.size, fun q hq hv => g.block q (by omega) (fun e => hv (by rw [Option.some.inj e]; simp)), fun q o hq ho _ => (g.block q (Array.getElem?_eq_some_iff.1 ho).1 (fun e => by have := Option.some.inj e; omega)).trans ho⟩
    clear hm4 he hl1 hl3 hs4 hg3 hg4 hS2 hS3 hS4 k2 kW
    go_wp2
    go_end0
    exact ⟨⟨_, rfl⟩, HF.out⟩

end Go.Proofs.Ytbelneejghdmoaa
