/-
  The visitor of impl.Live: it appends to a slice that its variable holds.
-/
import Derived.Test.YtdecihmplkgfkaaGreatStWn
import Derived.Test.YtdecihmplkgfkaaGreatStMark
import Derived.Test.YtdecihmplkgfkaaGreatOwn
namespace Go.Proofs.YtdecihmplkgfkaaGreat
open Go.ChangeShapes Go.WideShapes Go.ChangeAt Go.RowKit
attribute [local go_sem ↓] Go.wp_at_zero Go.wp_at_succ

/-- The variable at c holds a slice that owns, from n0 on, the sums that were visited. -/
def JApp (c n0 : Nat) (vs : List ByteArray) (W : World) : Prop :=
  ∃ v, W.cell? ⟨c, 0, none⟩ = some v ∧ W.frozen? ⟨c, 0, none⟩ = false ∧ W.ownsRow n0 9 1 v vs.length (vs.map Value.string)

theorem japp_abides (c n0 : Nat) (hc : c < n0) : Abides n0 (JApp c n0) := by
  rintro vs W W' ⟨v, h1, h2, h3⟩ _ _ _ _ ho hs
  refine ⟨v, (World.cell?_of_block (a := ⟨c, 0, none⟩) (ho c hc)).trans h1, ?_, h3.1, ?_⟩
  · unfold World.frozen? at h2 ⊢
    rw [show W'.heap[(⟨c, 0, none⟩ : Addr).block]? = W.heap[(⟨c, 0, none⟩ : Addr).block]? from ho c hc]
    exact h2
  · rcases h3.2 with h | ⟨g, cap, cur, rfl, hb, hg, h4⟩
    · exact .inl h
    · exact .inr ⟨g, cap, cur, rfl, hb, hs g _ hb hg (by simp [notStr]), h4⟩

set_option maxRecDepth 20000 in
set_option maxHeartbeats 8000000 in
theorem visitLive_any (n0 c : Nat) (vs : List ByteArray) (W : World) (u : Kd) (ra : Option Addr) (rc : Nat) (hc : c < n0) (hn : n0 ≤ W.heap.size) (hvs : vs.length < 600) (hJ : JApp c n0 vs W) :
    Calls Tryz.prog 25 #[keptV u ra rc, .pointer (some ⟨c, 0, none⟩)] W fun e W' => (∃ v, e = .returned v) ∧ JApp c n0 (vs ++ [u.sum]) W' ∧ Vis n0 [c] W W' := by
  obtain ⟨i0, hi, hz0, hz1, hz2⟩ := info_parts Tryz.infoStr
  obtain ⟨v, h1, h2, h3⟩ := hJ
  obtain ⟨W1, hW1⟩ : ∃ W1, W1 = W.alloc (.cells #[.string u.sum, .int .i64 u.born, .string u.text, .slice ra u.refs.length rc] 54) := ⟨_, rfl⟩
  have b1 : Below W.heap.size W W1 := by rw [hW1]; exact (Below.refl _ _).alloc (Nat.le_refl _) _
  have z1 := b1.size
  have s1 : W1.cell? ⟨W.heap.size, 0, none⟩ = some (.string u.sum) := by rw [hW1]; simp [go_sem]
  have c1 : W1.cell? ⟨c, 0, none⟩ = some v := (b1.cell (p := ⟨c, 0, none⟩) (World.block_lt_of_cell? W _ h1)).trans h1
  have f1 : W1.frozen? ⟨c, 0, none⟩ = false := (b1.frozen (p := ⟨c, 0, none⟩) (World.block_lt_of_cell? W _ h1)).trans h2
  have HO : Hid (W1.ownsRow n0 9 1 v vs.length (vs.map Value.string)) := World.ownsRow.kept h3 (grown_below none b1) (Classical.em _)
  have HW1 : Hid _ := hW1
  have HI : Hid (∀ g, v.ownBlock = some g → ∃ cur, W.heap[g]? = some (.cells cur 9 (0, 0))) := by
    intro g hg
    rcases h3.2 with ⟨hv, _⟩ | ⟨g', cap, cur, rfl, hb, hg', h4⟩
    · rw [hv] at hg; cases hg
    · cases hg; exact ⟨cur, hg'⟩
  clear h3 hW1
  unfold keptV
  go_enter Tryz.func25, Tryz.ntmps25
  go_upto_region 1 with fail
  rw [← HW1.out]
  clear HW1
  go_wp2_with (first
    | (at_builtin; refine wpList_append_own _ rfl _ _ 28 rfl n0 9 i0 (.string ⟨#[]⟩) 1 16 Tryz.underlying28 hi hz0 hz1 hz2 rfl (by decide) _ vs.length (vs.map Value.string) rfl ?d0 ⟨W1.heap.size, 0, none⟩ 1 1 [.string u.sum] rfl rfl ?d1 ?d2 ?d3 ?d4 ?d5 ?_)
    | go_in)
  case d0 => exact World.ownsRow.alloc HO.out _
  case d1 => exact cell_one_new _ _ _
  case d2 => intro u hu; simp at hu; subst hu; rfl
  case d3 => unfold maxLen; omega
  case d4 => omega
  case d5 => simp; omega
  intro v' w2 hown' hgrow _
  obtain ⟨g', c', hv', _, _⟩ := hown'.form (by omega)
  subst hv'
  have hne : some c ≠ v.ownBlock := fun e => by have := (World.ownsRow.lt HO.out c e.symm).1; omega
  have hcW : c < W.heap.size := by omega
  have g : W.grownBy w2 v.ownBlock := grown_trans (grown_below _ b1) (grown_trans (grown_below _ ((Below.refl _ _).alloc (Nat.le_refl _) _)) hgrow)
  have c2 : w2.cell? ⟨c, 0, none⟩ = some v := (World.cell?_of_block (a := ⟨c, 0, none⟩) (g.block c hcW hne)).trans h1
  have f2 : w2.frozen? ⟨c, 0, none⟩ = false := by
    unfold World.frozen? at h2 ⊢
    rw [show w2.heap[(⟨c, 0, none⟩ : Addr).block]? = W.heap[(⟨c, 0, none⟩ : Addr).block]? from g.block c hcW hne]
    exact h2
  have HF : Hid (JApp c n0 (vs ++ [u.sum]) (w2.setCell ⟨c, 0, none⟩ (.slice (some ⟨g', 0, none⟩) (vs.length + 1) c')) ∧ Vis n0 [c] W (w2.setCell ⟨c, 0, none⟩ (.slice (some ⟨g', 0, none⟩) (vs.length + 1) c'))) := by
    have gs := grown_set w2 c 0 (.slice (some ⟨g', 0, none⟩) (vs.length + 1) c')
    refine ⟨⟨.slice (some ⟨g', 0, none⟩) (vs.length + 1) c', by simp [go_sem, c2], by simpa [go_sem] using f2, ?_⟩, ?_⟩
    · rw [List.length_append, List.map_append]
      exact ownsRow_setCell_below hown' (by simpa using hc) _
    · have hne2 : ∀ q, q ≠ c → some q ≠ some c := fun q h e => h (Option.some.inj e)
      refine ⟨gs.os.trans g.os, gs.tape.trans g.tape, gs.output.trans g.output, Nat.le_trans g.size gs.size, fun q hq hv => ?_, fun q o hq ho hs => ?_⟩
      · have hqc : q ≠ c := fun e => hv (by simp [e])
        have hqW : q < W.heap.size := by omega
        exact (gs.block q (Nat.lt_of_lt_of_le hqW g.size) (hne2 q hqc)).trans (g.block q hqW (fun e => by have := (World.ownsRow.lt HO.out q e.symm).1; omega))
      · have hqW := (Array.getElem?_eq_some_iff.1 ho).1
        have hqn : some q ≠ v.ownBlock := fun e => by
          obtain ⟨cur, hcur⟩ := HI.out q e.symm
          rw [hcur] at ho
          cases ho
          simp [notStr] at hs
        exact ((gs.block q (Nat.lt_of_lt_of_le hqW g.size) (hne2 q (by omega))).trans (g.block q hqW hqn)).trans ho
  clear hown' hgrow g h1 h2 c1 f1
  go_wp2
  go_end0
  exact ⟨⟨_, rfl⟩, HF.out⟩

end Go.Proofs.YtdecihmplkgfkaaGreat
