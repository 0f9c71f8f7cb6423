/-
  impl's entryReader: thing, and what its methods' steps come to.
-/
import Derived.Test.YtdecihmplkgfkaaDoorEntR
import Derived.Test.YtdecihmplkgfkaaDoorEntL
import Derived.Deep.DeepCutAuto
import Derived.Deep.RegionWith
import Derived.Maps.Range
namespace Go.Proofs.YtdecihmplkgfkaaDoor
open Go.ChangeShapes Go.WideShapes Go.ChangeAt Go.RowKit

/-- What the world has to hold for the reader: the table, the errors. -/
structure Env (w : World) : Prop where
  tab : Tab w
  ety : ErrTy w
  er : ∀ g ∈ [0, 1, 2, 3, 6, 7], ∃ t v, w.cell? ⟨g, 0, none⟩ = some (.iface t v)

theorem Env.lt {w : World} (h : Env w) : ∀ g ∈ [0, 1, 2, 3, 6, 7, 5, 4], g < w.heap.size := by
  intro g hg
  have h1 := h.er
  obtain ⟨c0, _⟩ := h.tab 1 (by omega) (by omega)
  have h3 := World.block_lt_of_cell? w _ c0
  have h4 := World.block_lt_of_cell? w _ h.ety
  have h5 : ∀ g ∈ [0, 1, 2, 3, 6, 7], g < w.heap.size := fun g hg => by
    obtain ⟨t, v, hc⟩ := h1 g hg
    exact World.block_lt_of_cell? w _ hc
  simp only [List.mem_cons, List.not_mem_nil, or_false] at hg h5
  rcases hg with rfl | rfl | rfl | rfl | rfl | rfl | rfl | rfl
  · exact h5 _ (by simp)
  · exact h5 _ (by simp)
  · exact h5 _ (by simp)
  · exact h5 _ (by simp)
  · exact h5 _ (by simp)
  · exact h5 _ (by simp)
  · exact h3
  · exact h4

theorem Env.of {w w' : World} (h : Env w) (hc : ∀ p : Addr, p.block ∈ [0, 1, 2, 3, 6, 7, 5, 4] → w'.cell? p = w.cell? p) : Env w' := by
  refine ⟨fun k h1 h7 => ?_, ?_, fun g hg => ?_⟩
  · obtain ⟨c0, c1, c2, c3⟩ := h.tab k h1 h7
    exact ⟨(hc ⟨_, _, none⟩ (by simp)).trans c0, (hc ⟨_, _, none⟩ (by simp)).trans c1, (hc ⟨_, _, none⟩ (by simp)).trans c2, (hc ⟨_, _, none⟩ (by simp)).trans c3⟩
  · exact (hc ⟨_, _, none⟩ (by simp)).trans h.ety
  · obtain ⟨t, v, hv⟩ := h.er g hg
    refine ⟨t, v, (hc ⟨g, 0, none⟩ ?_).trans hv⟩
    simp only [List.mem_cons, List.not_mem_nil, or_false] at hg ⊢
    omega

theorem Env.below {w w' : World} (h : Env w) (hb : Below w.heap.size w w') : Env w' :=
  h.of fun _ hp => hb.cell (h.lt _ hp)

theorem Env.but {w w' : World} {b : Nat} (h : Env w) (hg : w.grownBy w' (some b)) (hb : ∀ g ∈ [0, 1, 2, 3, 6, 7, 5, 4], g < b) : Env w' :=
  h.of fun p hp => hg.cell_far p (h.lt _ hp) (fun e => by have := hb _ hp; injection e; omega)

theorem RSt.lt {w : World} {b : Nat} {rest : ByteArray} {kind : Int} {bad : Bool} (h : RSt w b rest kind bad) : b < w.heap.size := by
  obtain ⟨er, _, h⟩ := h
  exact h.lt

theorem RSt.setKind {w : World} {b : Nat} {rest : ByteArray} {kind : Int} {bad : Bool} (h : RSt w b rest kind bad) (k : Int) : RSt (w.setCell ⟨b, 1, none⟩ (.int .i64 k)) b rest k bad := by
  obtain ⟨er, h1, x0, x1, x2, f0, f1, f2⟩ := h
  refine ⟨er, h1, ?_⟩
  constructor <;> simp [go_sem, *]

theorem RSt.far {w w' : World} {b c : Nat} {rest : ByteArray} {kind : Int} {bad : Bool} (h : RSt w b rest kind bad) (hg : w.grownBy w' (some c)) (hne : b ≠ c) : RSt w' b rest kind bad := by
  obtain ⟨er, h1, h⟩ := h
  have hl := h.lt
  have hn : some b ≠ some c := fun e => hne (by injection e)
  exact ⟨er, h1, (hg.cell_far ⟨b, 0, none⟩ hl hn).trans h.x0, (hg.cell_far ⟨b, 1, none⟩ hl hn).trans h.x1, (hg.cell_far ⟨b, 2, none⟩ hl hn).trans h.x2, (hg.frozen_far ⟨b, 0, none⟩ hl hn).trans h.f0, (hg.frozen_far ⟨b, 1, none⟩ hl hn).trans h.f1, (hg.frozen_far ⟨b, 2, none⟩ hl hn).trans h.f2⟩

/-- What 'thing' reads. -/
def thTk (rest : ByteArray) (bad : Bool) : ByteArray := (takeR rest bad rest.size).1
def thRest (rest : ByteArray) (bad : Bool) : ByteArray := (takeR rest bad rest.size).2.1
def thBad (rest : ByteArray) (bad : Bool) (wd : Int) : Bool := (takeR rest bad rest.size).2.2 || !(rd (thTk rest bad) wd).2.2

theorem thTk_le {rest : ByteArray} {bad : Bool} (h : rest.size ≤ 1048576) : (thTk rest bad).size ≤ 1048576 := by
  unfold thTk takeR
  split
  · exact Nat.zero_le _
  · split
    · exact Nat.zero_le _
    · simp; omega

set_option maxHeartbeats 1000000 in
theorem thing_any (b : Nat) (rest : ByteArray) (kind : Int) (bad : Bool) (wd : Int) (w : World) (h : RSt w b rest kind bad) (he : Env w) (hb : ∀ g ∈ [0, 1, 2, 3, 6, 7, 5, 4], g < b) (hs : rest.size ≤ 1048576) :
    Calls Tryd.prog 64 #[.pointer (some ⟨b, 0, none⟩), .int .i64 wd] w fun e w' => ∃ v, e = .returned (.agg #[.string (rd (thTk rest bad) wd).1, v]) ∧
      w'.ownsRow w.heap.size 9 1 v (rd (thTk rest bad) wd).2.1.length ((rd (thTk rest bad) wd).2.1.map Value.string) ∧ RSt w' b (thRest rest bad) kind (thBad rest bad wd) ∧ w.grownBy w' (some b) := by
  obtain ⟨W, hW⟩ : ∃ W, W = w.alloc (.cells #[.string ⟨#[]⟩, .slice none 0 0] 29) := ⟨_, rfl⟩
  have hwW : Below w.heap.size w W := by rw [hW]; exact (Below.refl _ _).alloc (Nat.le_refl _) _
  have r0 : W.cell? ⟨w.heap.size, 0, none⟩ = some (.string ⟨#[]⟩) := by rw [hW]; simp
  have r1 : W.cell? ⟨w.heap.size, 1, none⟩ = some (.slice none 0 0) := by rw [hW]; simp
  have rf0 : W.frozen? ⟨w.heap.size, 0, none⟩ = false := by rw [hW]; simp
  have rf1 : W.frozen? ⟨w.heap.size, 1, none⟩ = false := by rw [hW]; simp
  have hz : w.heap.size < W.heap.size := by rw [hW]; simp
  have hbl := h.lt
  have hW1 := h.below hwW
  have eW := he.below hwW
  obtain ⟨gt, gv, hgS⟩ := eW.er 6 (by simp)
  have HW : Hid _ := hW
  have htk := thTk_le (bad := bad) hs
  obtain ⟨er, her, x0, x1, x2, f0, f1, f2⟩ := hW1
  have HS : Hid (RSt W b rest kind bad) := ⟨er, her, x0, x1, x2, f0, f1, f2⟩
  clear hW h
  go_enter Tryd.func64, Tryd.ntmps64
  go_upto_region 1 with fail
  rw [← HW.out]
  go_wp2_with fail
  refine (take_any b rest kind bad rest.size gt gv W HS.out (fun _ => by omega) hgS).mono ?_
  rintro e w1 ⟨rfl, h1, g1⟩
  rw [show (takeR rest bad rest.size).1 = thTk rest bad from rfl]
  obtain ⟨TK, hTK⟩ : ∃ TK, TK = thTk rest bad := ⟨_, rfl⟩
  rw [← hTK] at htk ⊢
  have HT : Hid _ := hTK
  have HR := fun W' => iRead_any TK wd W' htk
  unfold ReadPost at HR
  have HL : Hid _ := HR
  clear HR x0 x1 x2 f0 f1 f2 her hgS hTK
  go_wp2_with fail
  refine (HL.out w1).mono ?_
  rintro e w2 ⟨v, rfl, ho, hb2⟩
  obtain ⟨a2, c2, hv, _⟩ := own_form ho
  subst hv
  have hz1 := g1.size
  have hz12 := hb2.size
  obtain ⟨W3, hW3⟩ : ∃ W3, W3 = w2.alloc (.cells #[.string (rd TK wd).1, .slice a2 (rd TK wd).2.1.length c2] 29) := ⟨_, rfl⟩
  have h23 : Below w2.heap.size w2 W3 := by rw [hW3]; exact (Below.refl _ _).alloc (Nat.le_refl _) _
  have t0 : W3.cell? ⟨w2.heap.size, 0, none⟩ = some (.string (rd TK wd).1) := by rw [hW3]; simp
  have t1 : W3.cell? ⟨w2.heap.size, 1, none⟩ = some (.slice a2 (rd TK wd).2.1.length c2) := by rw [hW3]; simp
  have hz3 : w2.heap.size < W3.heap.size := by rw [hW3]; simp
  have hz23 := h23.size
  have h13 : Below w1.heap.size w1 W3 := hb2.trans (h23.mono hz12)
  have q0 : W3.cell? ⟨w.heap.size, 0, none⟩ = some (.string ⟨#[]⟩) := (h13.cell (p := ⟨w.heap.size, 0, none⟩) (by simp; omega)).trans ((g1.cell_far ⟨w.heap.size, 0, none⟩ hz (sne hbl)).trans r0)
  have q1 : W3.cell? ⟨w.heap.size, 1, none⟩ = some (.slice none 0 0) := (h13.cell (p := ⟨w.heap.size, 1, none⟩) (by simp; omega)).trans ((g1.cell_far ⟨w.heap.size, 1, none⟩ hz (sne hbl)).trans r1)
  have qf0 : W3.frozen? ⟨w.heap.size, 0, none⟩ = false := (h13.frozen (p := ⟨w.heap.size, 0, none⟩) (by simp; omega)).trans ((g1.frozen_far ⟨w.heap.size, 0, none⟩ hz (sne hbl)).trans rf0)
  have qf1 : W3.frozen? ⟨w.heap.size, 1, none⟩ = false := (h13.frozen (p := ⟨w.heap.size, 1, none⟩) (by simp; omega)).trans ((g1.frozen_far ⟨w.heap.size, 1, none⟩ hz (sne hbl)).trans rf1)
  have hr3 : RSt W3 b (thRest rest bad) kind (takeR rest bad rest.size).2.2 := h1.below h13
  have e3 := (eW.but g1 hb).below h13
  have gW : w.grownBy W3 (some b) := ((grown_below (some b) hwW).trans g1).trans (grown_below (some b) h13)
  have ho3 := ho.kept (grown_below none h23) (Classical.em _)
  have hlt : ∀ k, (Value.slice a2 (rd TK wd).2.1.length c2).ownBlock = some k → w1.heap.size ≤ k := fun k hk => (ho.lt k hk).1
  obtain ⟨kt, kv, hgT⟩ := e3.er 7 (by simp)
  have HB : Hid _ := And.intro hr3 (And.intro gW (And.intro ho3 hlt))
  have HW3 : Hid _ := hW3
  clear hr3 gW ho3 e3 h1 g1 hb2 ho r0 r1 rf0 rf1 eW HS HL hlt HW h13 h23 hW3
  go_upto_region 2 with fail
  rw [← HW3.out]
  clear HW3
  cases hok : (rd TK wd).2.2 with
  | true =>
    go_wp2
    refine bodyPost_ret (v := .agg #[.string (rd TK wd).1, .slice a2 (rd TK wd).2.1.length c2]) (by simp [results, Tryd.results64, go_sem, *]) rfl ?_
    refine ⟨_, by rw [← HT.out], ?_, ?_, ?_⟩
    · rw [← HT.out]
      exact (ownsRow_setCell_below (ownsRow_setCell_below HB.out.2.2.1 (show w.heap.size < w1.heap.size by omega) _) (show w.heap.size < w1.heap.size by omega) _).mono (by omega)
    · have : thBad rest bad wd = (takeR rest bad rest.size).2.2 := by unfold thBad; rw [← HT.out, hok]; simp
      rw [this]
      exact (HB.out.1.far (rd_grown _ w.heap.size 0 _) (by omega)).far (rd_grown _ w.heap.size 1 _) (by omega)
    · exact (HB.out.2.1.andThen (rd_grown _ w.heap.size 0 _) (fun j e => by cases e; exact .inl (Nat.le_refl _))).andThen (rd_grown _ w.heap.size 1 _) (fun j e => by cases e; exact .inl (Nat.le_refl _))
  | false =>
    go_wp2_with fail
    refine (fail_any b _ kind _ kt kv W3 HB.out.1).mono ?_
    rintro e w4 ⟨rfl, h4, g4⟩
    have hz4 := g4.size
    have t0 := (g4.cell_far ⟨w2.heap.size, 0, none⟩ hz3 (sne (show b < w2.heap.size by omega))).trans t0
    have t1 := (g4.cell_far ⟨w2.heap.size, 1, none⟩ hz3 (sne (show b < w2.heap.size by omega))).trans t1
    have q0 := (g4.cell_far ⟨w.heap.size, 0, none⟩ (show w.heap.size < W3.heap.size by omega) (sne hbl)).trans q0
    have q1 := (g4.cell_far ⟨w.heap.size, 1, none⟩ (show w.heap.size < W3.heap.size by omega) (sne hbl)).trans q1
    have qf0 := (g4.frozen_far ⟨w.heap.size, 0, none⟩ (show w.heap.size < W3.heap.size by omega) (sne hbl)).trans qf0
    have qf1 := (g4.frozen_far ⟨w.heap.size, 1, none⟩ (show w.heap.size < W3.heap.size by omega) (sne hbl)).trans qf1
    have ho4 := HB.out.2.2.1.kept g4 (.inr (fun e => by have := HB.out.2.2.2 b e; omega))
    have gW := HB.out.2.1.trans g4
    have HC : Hid _ := And.intro h4 (And.intro gW ho4)
    clear h4 gW ho4 g4 hgT
    go_wp2
    refine bodyPost_ret (v := .agg #[.string (rd TK wd).1, .slice a2 (rd TK wd).2.1.length c2]) (by simp [results, Tryd.results64, go_sem, *]) rfl ?_
    refine ⟨_, by rw [← HT.out], ?_, ?_, ?_⟩
    · rw [← HT.out]
      exact (ownsRow_setCell_below (ownsRow_setCell_below HC.out.2.2 (show w.heap.size < w1.heap.size by omega) _) (show w.heap.size < w1.heap.size by omega) _).mono (by omega)
    · have : thBad rest bad wd = true := by unfold thBad; rw [← HT.out, hok]; simp
      rw [this]
      exact (HC.out.1.far (rd_grown _ w.heap.size 0 _) (by omega)).far (rd_grown _ w.heap.size 1 _) (by omega)
    · exact (HC.out.2.1.andThen (rd_grown _ w.heap.size 0 _) (fun j e => by cases e; exact .inl (Nat.le_refl _))).andThen (rd_grown _ w.heap.size 1 _) (fun j e => by cases e; exact .inl (Nat.le_refl _))

end Go.Proofs.YtdecihmplkgfkaaDoor
