/-
  spec.l2Draw: a log that is drawn.
-/
import Derived.Test.YtdecihmplkgfkaaDr
import Derived.Test.YtdecihmplkgfkaaOwn
import Derived.Lib.SmallJoins
import Derived.OneCell
import Derived.Deep.RegionHeld3
import Derived.Deep.RegionLaw
import Derived.Deep.DrawnRows
namespace Go.Proofs.Ytdecihmplkgfkaa
open Go.ChangeShapes Go.WideShapes Go.ChangeAt Go.RowKit
attribute [local go_sem ↓] Go.wp_at_zero Go.wp_at_succ

theorem RdSt.grownO {w w' : World} {b : Nat} {a : Option Addr} {n c : Nat} {p : Int} {row : Option Nat} (h : RdSt w b a n c p) (hg : w.grownBy w' row) (hb : ∀ g, row = some g → b < g) : RdSt w' b a n c p := by
  have hz := hg.size
  have hl := h.lt
  have hn : ∀ q, q ≤ b → some q ≠ row := fun q hq e => by have := hb q e.symm; omega
  refine ⟨hg.cell h.c0 (hn b (Nat.le_refl _)), hg.cell h.c1 (hn b (Nat.le_refl _)), (hg.frozen_far ⟨b, 1, none⟩ hl (hn b (Nat.le_refl _))).trans h.f1, by omega, h.n2, ?_⟩
  rcases h.bytes with h | ⟨q, off, ha, hqb, hx⟩
  · exact .inl h
  · refine .inr ⟨q, off, ha, hqb, fun j hj => ?_⟩
    obtain ⟨x, hc, h0, h1⟩ := hx j hj
    exact ⟨x, hg.cell hc (hn q (by omega)), h0, h1⟩

/-- A log on its way: its box, the answer's box, its two rows; the reader has gone on by at most k places. -/
structure LD (w wr : World) (b : Nat) (a : Option Addr) (n c : Nat) (p k : Int) (v u : Value) (ss tt : List ByteArray) : Prop where
  rd : ∃ p', RdSt wr b a n c p' ∧ p ≤ p' ∧ p' ≤ p + k
  gr : w.grownBy wr (some b)
  c0 : wr.cell? ⟨w.heap.size + 1, 0, none⟩ = some v
  c1 : wr.cell? ⟨w.heap.size + 1, 1, none⟩ = some u
  f : ∀ o, wr.frozen? ⟨w.heap.size + 1, o, none⟩ = false
  r0 : wr.cell? ⟨w.heap.size, 0, none⟩ = some (.slice none 0 0)
  r1 : wr.cell? ⟨w.heap.size, 1, none⟩ = some (.slice none 0 0)
  rf : ∀ o, wr.frozen? ⟨w.heap.size, o, none⟩ = false
  ov : wr.ownsRow (w.heap.size + 2) 9 1 v ss.length (ss.map Value.string)
  ou : wr.ownsRow (w.heap.size + 2) 9 1 u tt.length (tt.map Value.string)
  ap : v.ownBlock = none ∨ v.ownBlock ≠ u.ownBlock
  sz : ∀ s ∈ ss ++ tt, s.size ≤ 5001
  le : w.heap.size + 2 ≤ wr.heap.size

theorem LD.text {w wr w2 : World} {b : Nat} {a : Option Addr} {n c : Nat} {p k k' : Int} {v u : Value} {ss tt : List ByteArray} (h : LD w wr b a n c p k v u ss tt) (hb : b < w.heap.size) (hg : wr.grownBy w2 (some b)) (st : ∃ p', RdSt w2 b a n c p' ∧ p ≤ p' ∧ p' ≤ p + k') : LD w w2 b a n c p k' v u ss tt := by
  have hle := h.le
  have hz := hg.size
  have n1 : some (w.heap.size + 1) ≠ some b := by simp; omega
  have n0 : some w.heap.size ≠ some b := by simp; omega
  have hlt : ∀ {x : Value} {m : Nat} {xs : List Value}, wr.ownsRow (w.heap.size + 2) 9 1 x m xs → x.ownBlock = none ∨ x.ownBlock ≠ some b := fun {x m xs} ho => by
    cases hv : x.ownBlock with
    | none => exact .inl rfl
    | some g => exact .inr (by have := (ho.lt g hv).1; simp; omega)
  exact ⟨st, grown_trans h.gr hg, hg.cell h.c0 n1, hg.cell h.c1 n1, fun o => (hg.frozen_far ⟨w.heap.size + 1, o, none⟩ (by simp; omega) n1).trans (h.f o), hg.cell h.r0 n0, hg.cell h.r1 n0, fun o => (hg.frozen_far ⟨w.heap.size, o, none⟩ (by simp; omega) n0).trans (h.rf o),
    h.ov.kept hg (hlt h.ov), h.ou.kept hg (hlt h.ou), h.ap, h.sz, by omega⟩

theorem LD.alloc {w wr : World} {b : Nat} {a : Option Addr} {n c : Nat} {p k : Int} {v u : Value} {ss tt : List ByteArray} (h : LD w wr b a n c p k v u ss tt) (o : Obj) : LD w (wr.alloc o) b a n c p k v u ss tt := by
  have hA : Below wr.heap.size wr (wr.alloc o) := (Below.refl _ _).alloc (Nat.le_refl _) _
  have hle := h.le
  obtain ⟨p', h1, h2⟩ := h.rd
  exact ⟨⟨p', h1.below hA, h2⟩, grown_trans h.gr (grown_below _ hA), (hA.cell (p := ⟨w.heap.size + 1, 0, none⟩) (by simp; omega)).trans h.c0, (hA.cell (p := ⟨w.heap.size + 1, 1, none⟩) (by simp; omega)).trans h.c1, fun o => (hA.frozen (p := ⟨w.heap.size + 1, o, none⟩) (by simp; omega)).trans (h.f o),
    (hA.cell (p := ⟨w.heap.size, 0, none⟩) (by simp; omega)).trans h.r0, (hA.cell (p := ⟨w.heap.size, 1, none⟩) (by simp; omega)).trans h.r1, fun o => (hA.frozen (p := ⟨w.heap.size, o, none⟩) (by simp; omega)).trans (h.rf o), h.ov.alloc _, h.ou.alloc _, h.ap, h.sz, by simp; omega⟩

theorem grown_set1 (w : World) (g p : Nat) (v : Value) : w.grownBy (w.setCell ⟨g, p, none⟩ v) (some g) :=
  ⟨rfl, rfl, rfl, by simp, fun i _ hi => Below.heap_setCell _ _ _ _ (fun e => hi (by rw [e]))⟩

/-- Behind an append to the first row, and the store. -/
theorem LD.app0 {w w2 w4 : World} {b : Nat} {a : Option Addr} {n c : Nat} {p k : Int} {v u : Value} {ss tt : List ByteArray} (h : LD w w2 b a n c p k v u ss tt) (hb : b < w.heap.size) {s : ByteArray} (hs : s.size ≤ 5001) {g cap : Nat}
    (ho : w4.ownsRow (w.heap.size + 2) 9 1 (.slice (some ⟨g, 0, none⟩) (ss.length + 1) cap) (ss.length + 1) (ss.map Value.string ++ [.string s])) (hg : w2.grownBy w4 v.ownBlock) (hat : v.ownBlock = some g ∨ w2.heap.size ≤ g) :
    LD w (w4.setCell ⟨w.heap.size + 1, 0, none⟩ (.slice (some ⟨g, 0, none⟩) (ss.length + 1) cap)) b a n c p k (.slice (some ⟨g, 0, none⟩) (ss.length + 1) cap) u (ss ++ [s]) tt := by
  have hle := h.le
  have hz := hg.size
  have hlo := (ho.lt g rfl).1
  have hrow : ∀ j, v.ownBlock = some j → w.heap.size + 2 ≤ j := fun j hj => (h.ov.lt j hj).1
  have hne : ∀ q, q < w.heap.size + 2 → some q ≠ v.ownBlock := fun q hq e => by have := hrow q e.symm; omega
  have m1 : some (w.heap.size + 1) ≠ v.ownBlock := hne _ (by omega)
  have m0 : some w.heap.size ≠ v.ownBlock := hne _ (by omega)
  obtain ⟨p', h1, h2⟩ := h.rd
  have e1 : RdSt w4 b a n c p' := h1.grownO hg (fun j hj => by have := hrow j hj; omega)
  have hgs := grown_set1 w4 (w.heap.size + 1) 0 (.slice (some ⟨g, 0, none⟩) (ss.length + 1) cap)
  have hg4 : w.grownBy w4 (some b) := ⟨hg.os.trans h.gr.os, hg.tape.trans h.gr.tape, hg.output.trans h.gr.output, Nat.le_trans h.gr.size hg.size, fun j hj hn => (hg.block j (by have := h.gr.size; omega) (hne j (by omega))).trans (h.gr.block j hj hn)⟩
  have hap : u.ownBlock = none ∨ u.ownBlock ≠ v.ownBlock := by
    rcases h.ap with e | e
    · cases hu : u.ownBlock with
      | none => exact .inl rfl
      | some j => exact .inr (by rw [e]; simp)
    · exact .inr (fun e' => e e'.symm)
  have hou : w4.ownsRow (w.heap.size + 2) 9 1 u tt.length (tt.map Value.string) := h.ou.kept hg hap
  refine ⟨⟨p', e1.grown hgs (by omega), h2⟩, ⟨hgs.os.trans hg4.os, hgs.tape.trans hg4.tape, hgs.output.trans hg4.output, Nat.le_trans hg4.size hgs.size, fun j hj hn => (hgs.block j (by have := hg4.size; omega) (by simp; omega)).trans (hg4.block j hj hn)⟩,
    by rw [World.cell?_setCell_same' _ _ _ (by rw [hg.cell h.c0 m1]; rfl)], by rw [World.cell?_setCell_other _ _ _ _ (by intro e; injection e; omega)]; exact hg.cell h.c1 m1, fun o => by simpa [go_sem] using (hg.frozen_far ⟨w.heap.size + 1, o, none⟩ (by simp; omega) m1).trans (h.f o),
    by rw [World.cell?_setCell_other _ _ _ _ (by intro e; injection e; omega)]; exact hg.cell h.r0 m0, by rw [World.cell?_setCell_other _ _ _ _ (by intro e; injection e; omega)]; exact hg.cell h.r1 m0, fun o => by simpa [go_sem] using (hg.frozen_far ⟨w.heap.size, o, none⟩ (by simp; omega) m0).trans (h.rf o),
    by have := ownsRow_setCell_below ho (a := ⟨w.heap.size + 1, 0, none⟩) (by simp) (.slice (some ⟨g, 0, none⟩) (ss.length + 1) cap); simpa using this, ownsRow_setCell_below hou (by simp) _, ?_, ?_, by simp; omega⟩
  · refine .inr (fun e => ?_)
    have e2 : u.ownBlock = some g := e.symm
    rcases hat with hv | hv
    · rcases hap with hu | hu
      · rw [hu] at e2; cases e2
      · exact hu (by rw [e2, hv])
    · have := (h.ou.lt g e2).2; omega
  · intro x hx
    rcases List.mem_append.1 hx with hx | hx
    · rcases List.mem_append.1 hx with hx | hx
      · exact h.sz x (by simp [hx])
      · simp at hx; subst hx; exact hs
    · exact h.sz x (by simp [hx])

/-- Behind an append to the second row, and the store. -/
theorem LD.app1 {w w2 w4 : World} {b : Nat} {a : Option Addr} {n c : Nat} {p k : Int} {v u : Value} {ss tt : List ByteArray} (h : LD w w2 b a n c p k v u ss tt) (hb : b < w.heap.size) {s : ByteArray} (hs : s.size ≤ 5001) {g cap : Nat}
    (ho : w4.ownsRow (w.heap.size + 2) 9 1 (.slice (some ⟨g, 0, none⟩) (tt.length + 1) cap) (tt.length + 1) (tt.map Value.string ++ [.string s])) (hg : w2.grownBy w4 u.ownBlock) (hat : u.ownBlock = some g ∨ w2.heap.size ≤ g) :
    LD w (w4.setCell ⟨w.heap.size + 1, 1, none⟩ (.slice (some ⟨g, 0, none⟩) (tt.length + 1) cap)) b a n c p k v (.slice (some ⟨g, 0, none⟩) (tt.length + 1) cap) ss (tt ++ [s]) := by
  have hle := h.le
  have hz := hg.size
  have hlo := (ho.lt g rfl).1
  have hrow : ∀ j, u.ownBlock = some j → w.heap.size + 2 ≤ j := fun j hj => (h.ou.lt j hj).1
  have hne : ∀ q, q < w.heap.size + 2 → some q ≠ u.ownBlock := fun q hq e => by have := hrow q e.symm; omega
  have m1 : some (w.heap.size + 1) ≠ u.ownBlock := hne _ (by omega)
  have m0 : some w.heap.size ≠ u.ownBlock := hne _ (by omega)
  obtain ⟨p', h1, h2⟩ := h.rd
  have e1 : RdSt w4 b a n c p' := h1.grownO hg (fun j hj => by have := hrow j hj; omega)
  have hgs := grown_set1 w4 (w.heap.size + 1) 1 (.slice (some ⟨g, 0, none⟩) (tt.length + 1) cap)
  have hg4 : w.grownBy w4 (some b) := ⟨hg.os.trans h.gr.os, hg.tape.trans h.gr.tape, hg.output.trans h.gr.output, Nat.le_trans h.gr.size hg.size, fun j hj hn => (hg.block j (by have := h.gr.size; omega) (hne j (by omega))).trans (h.gr.block j hj hn)⟩
  have hov : w4.ownsRow (w.heap.size + 2) 9 1 v ss.length (ss.map Value.string) := h.ov.kept hg h.ap
  refine ⟨⟨p', e1.grown hgs (by omega), h2⟩, ⟨hgs.os.trans hg4.os, hgs.tape.trans hg4.tape, hgs.output.trans hg4.output, Nat.le_trans hg4.size hgs.size, fun j hj hn => (hgs.block j (by have := hg4.size; omega) (by simp; omega)).trans (hg4.block j hj hn)⟩,
    by rw [World.cell?_setCell_other _ _ _ _ (by intro e; injection e; omega)]; exact hg.cell h.c0 m1, by rw [World.cell?_setCell_same' _ _ _ (by rw [hg.cell h.c1 m1]; rfl)], fun o => by simpa [go_sem] using (hg.frozen_far ⟨w.heap.size + 1, o, none⟩ (by simp; omega) m1).trans (h.f o),
    by rw [World.cell?_setCell_other _ _ _ _ (by intro e; injection e; omega)]; exact hg.cell h.r0 m0, by rw [World.cell?_setCell_other _ _ _ _ (by intro e; injection e; omega)]; exact hg.cell h.r1 m0, fun o => by simpa [go_sem] using (hg.frozen_far ⟨w.heap.size, o, none⟩ (by simp; omega) m0).trans (h.rf o),
    ownsRow_setCell_below hov (by simp) _, by have := ownsRow_setCell_below ho (a := ⟨w.heap.size + 1, 1, none⟩) (by simp) (.slice (some ⟨g, 0, none⟩) (tt.length + 1) cap); simpa using this, ?_, ?_, by simp; omega⟩
  · cases hv : v.ownBlock with
    | none => exact .inl rfl
    | some j =>
      refine .inr (fun e => ?_)
      have e2 : j = g := by simpa [Value.ownBlock] using e
      subst e2
      rcases hat with hu | hu
      · rcases h.ap with hn | hn
        · rw [hv] at hn; cases hn
        · exact hn (by rw [hv, hu])
      · have := (h.ov.lt j hv).2; omega
  · intro x hx
    rcases List.mem_append.1 hx with hx | hx
    · exact h.sz x (by simp [hx])
    · rcases List.mem_append.1 hx with hx | hx
      · exact h.sz x (by simp [hx])
      · simp at hx; subst hx; exact hs

theorem LD.more {w wr : World} {b : Nat} {a : Option Addr} {n c : Nat} {p k k' : Int} {v u : Value} {ss tt : List ByteArray} (h : LD w wr b a n c p k v u ss tt) (hk : k ≤ k') : LD w wr b a n c p k' v u ss tt := by
  obtain ⟨p', h1, h2, h3⟩ := h.rd
  exact ⟨⟨p', h1, h2, by omega⟩, h.gr, h.c0, h.c1, h.f, h.r0, h.r1, h.rf, h.ov, h.ou, h.ap, h.sz, h.le⟩

theorem LD.ends {w wr : World} {b : Nat} {a : Option Addr} {n c : Nat} {p k : Int} {v u x y : Value} {ss tt : List ByteArray} (h : LD w wr b a n c p k v u ss tt) (hb : b < w.heap.size) (hk : k ≤ 1000 := by omega) : Drawn w ((wr.setCell ⟨w.heap.size, 0, none⟩ x).setCell ⟨w.heap.size, 1, none⟩ y) b a n c p 1000 := by
  obtain ⟨p', h1, h2, h3⟩ := h.rd
  have g1 := grown_set1 wr w.heap.size 0 x
  have g2 := grown_set1 (wr.setCell ⟨w.heap.size, 0, none⟩ x) w.heap.size 1 y
  exact ⟨⟨p', (h1.grown g1 hb).grown g2 hb, h2, by omega⟩, dr_merge (dr_merge h.gr g1 (Nat.le_refl _)) g2 (Nat.le_refl _)⟩

/-- A log was drawn: two rows of the call's own, of bounded lengths. -/
structure LogDrawn (w w' : World) (b : Nat) (a : Option Addr) (n c : Nat) (p : Int) (e : Ending) : Prop where
  ex : ∃ (v u : Value) (ss tt : List ByteArray), e = .returned (.agg #[v, u]) ∧ w'.ownsRow w.heap.size 9 1 v ss.length (ss.map Value.string) ∧ w'.ownsRow w.heap.size 9 1 u tt.length (tt.map Value.string) ∧
      ss.length + tt.length ≤ 4020 ∧ (∀ s ∈ ss ++ tt, s.size ≤ 5001) ∧ Drawn w w' b a n c p 1000

/-- How long the slice is that lies in a box's first cell. -/
def lenAt (w : World) (b : Nat) : Nat := match w.cell? ⟨b, 0, none⟩ with
  | some (.slice _ n _) => n
  | _ => 0

/-- A call of a Go function at a step of a region that draws its order, for go_region_law. -/
theorem step_call {P : Program} {ops : Array Oper} {o : Oper} {a : Act} {w : World} {K : Act → World → Prop} {Q : Exit → Act → World → Prop} {E : Prop} (hgd : o.guard = none) (f : FuncId) (args : Array Value) (hrun : (execOp a.eval o).run P w = .ok (.enter f args) w)
    {post : Ending → World → Prop} (hc : Calls P f args w post) (h : ∀ e w', post e w' → ∃ v, e = .returned v ∧ K (a.put o.dst v) w') : if Region.wanted o (yielded ops a.tmps) = true then Oper.wp P o a w K Q else E := by
  have hw : Region.wanted o (yielded ops a.tmps) = true := by simp [Region.wanted, hgd]
  rw [if_pos hw]
  unfold Oper.wp
  rw [hrun, Oper.upon_enter]
  refine hc.mono fun e w' hp => ?_
  obtain ⟨v, rfl, hk⟩ := h e w' hp
  exact hk

set_option maxRecDepth 20000 in
set_option maxHeartbeats 8000000 in
theorem l2Draw_any (b : Nat) (a : Option Addr) (n c : Nat) (p : Int) (w : World) (h : RdSt w b a n c p) (hp : 0 ≤ p) (hp2 : p ≤ 500000) :
    Calls Try.prog 90 #[.pointer (some ⟨b, 0, none⟩)] w fun e w' => LogDrawn w w' b a n c p e := by
  obtain ⟨i0, hi, hz0, hz1, hz2⟩ := info_parts Try.infoStr
  have hbl := h.lt
  obtain ⟨W, hW⟩ : ∃ W, W = (w.alloc (.cells #[.slice none 0 0, .slice none 0 0] 40)).alloc (.cells #[.slice none 0 0, .slice none 0 0] 40) := ⟨_, rfl⟩
  have hbW : Below w.heap.size w W := by rw [hW]; exact ((Below.refl _ _).alloc (Nat.le_refl _) _).alloc (by simp) _
  have hL : LD w W b a n c p 0 (.slice none 0 0) (.slice none 0 0) [] [] := by
    refine ⟨⟨p, h.below hbW, by omega, by omega⟩, grown_below _ hbW, by rw [hW]; simp [go_sem], by rw [hW]; simp [go_sem], fun o => by rw [hW]; simp [go_sem], by rw [hW]; simp [go_sem], by rw [hW]; simp [go_sem], fun o => by rw [hW]; simp [go_sem], World.ownsRow_nil _ _ _ _, World.ownsRow_nil _ _ _ _, .inl rfl, fun s hs => by simp at hs, by rw [hW]; simp⟩
  have HW : Hid _ := hW
  have HL : Hid _ := hL
  clear hW hL
  go_enter Try.func90, Try.ntmps90
  go_wp2_with fail
  rw [← HW.out]
  refine (pick_any b a n c p 6 W (h.below hbW) hp (by omega) (by omega) (by omega)).mono ?_
  rintro e w1 ⟨k1, rfl, k10, k11, h1, g1⟩
  have HL1 : Hid (LD w w1 b a n c p 1 (.slice none 0 0) (.slice none 0 0) [] []) := LD.text HL.out hbl g1 ⟨_, h1, by omega, by omega⟩
  clear g1 h1 HW HL hbW h
  go_wp2
  go_loopw [4] (fun i wr => ∃ (k : Nat) (v : Value) (ss : List ByteArray), i = .int .i64 k ∧ ss.length + k ≤ 5 ∧ Hid (LD w wr b a n c p (1 + 10 * ss.length) v (.slice none 0 0) ss [])) (fun i _ => (intOf i).toNat)
  case atStart => exact ⟨k1.toNat, _, [], by congr 1; omega, by simp; omega, by simpa using HL1⟩
  case round =>
    clear HL1
    obtain ⟨k, v, ss, rfl, hk, HL⟩ := hrel
    obtain ⟨p1, hst, hp1, hp1'⟩ := HL.out.rd
    have d0 := HL.out.c0
    by_cases hk0 : 0 < k
    · have hd : decide ((0 : Int) < (k : Int)) = true := by simp; omega
      go_wp2
      go_region_law
        (first
          | (refine step_call (by rfl) 93 #[.pointer (some ⟨b, 0, none⟩)] (by first | rfl | kernel_rfl) (l1Text_any b a n c p1 wr.drew hst.drew (by omega) (by omega)) ?_; rintro e w2 ⟨s, rfl, hs, hd2⟩; refine ⟨_, rfl, ?_⟩; have hg2 : wr.grownBy w2 (some b) := ⟨hd2.gr.os, hd2.gr.tape, hd2.gr.output, hd2.gr.size, hd2.gr.block⟩; have hst2 : ∃ p', RdSt w2 b a n c p' ∧ p ≤ p' ∧ p' ≤ p + (1 + 10 * ((ss.length : Int) + 1)) := (by obtain ⟨p2, h2, h3, h4⟩ := hd2.st; exact ⟨p2, h2, by omega, by omega⟩); have hL2 : LD w w2 b a n c p (1 + 10 * ((ss.length : Int) + 1)) v (.slice none 0 0) ss [] := LD.text HL.out hbl hg2 hst2; have P2 := hL2.c0; have P3 := (hL2.alloc (.cells #[.string s] 9)).c0)
          | (refine step_append_lies (w2.alloc (.cells #[.string s] 9)) (by rfl) (.tmp 16) (.tmp 19) 24 (by rfl) (w.heap.size + 2) 9 i0 (.string ⟨#[]⟩) 1 16 Try.underlying24 hi hz0 hz1 hz2 rfl (by decide) v ss.length (ss.map Value.string) (by rfl) (hL2.alloc _).ov ⟨w2.heap.size, 0, none⟩ 1 1 [.string s] (by rfl) rfl (cell_one_new w2 _ 9) (fun u hu => by simp at hu; subst hu; rfl) (by omega) (by unfold maxLen; omega) (by omega) (by simp; have := hL2.le; omega) _ rfl ?_; intro g4 cap4 w4 ho4 hg4 hat4 hlt4; have hgA : w2.grownBy w4 v.ownBlock := grown_trans (grown_below _ ((Below.refl w2.heap.size w2).alloc (Nat.le_refl _) _)) hg4; have hneA : some (w.heap.size + 1) ≠ v.ownBlock := (fun e => by have := (hL2.ov.lt _ e.symm).1; omega); have P4 := hgA.cell hL2.c0 hneA; have F4 : ∀ o, w4.frozen? ⟨w.heap.size + 1, o, none⟩ = false := (fun o => (hgA.frozen_far ⟨w.heap.size + 1, o, none⟩ (by have := hL2.le; simp; omega) hneA).trans (hL2.f o))))
      all_goals
        have HN : Hid _ := LD.app0 hL2 hbl (by omega) ho4 hgA (by rcases hat4 with h | h; exact .inl h; exact .inr (by first | omega | (simp at h; omega)))
        obtain ⟨k2, rfl⟩ : ∃ k2, k = k2 + 1 := ⟨k - 1, by omega⟩
        clear hL2 hst2 hg2 hd2 ho4 hgA hneA hg4 hat4 P2 P3 P4 F4 HL hst d0
        go_wp2
        refine ⟨⟨k2, _, ss ++ [s], ?_, by simp; omega, by simpa using HN⟩, by simp [intOf]⟩
        go_num
    · obtain rfl : k = 0 := by omega
      go_wp2_with fail
      refine (pick_any b a n c p1 6 wr hst (by omega) (by omega) (by omega) (by omega)).mono ?_
      rintro e w3 ⟨k3, rfl, k30, k31, h3, g3⟩
      have HL3 : Hid (LD w w3 b a n c p 60 v (.slice none 0 0) ss []) := LD.text HL.out hbl g3 ⟨_, h3, by omega, by omega⟩
      clear g3 h3 HL hst d0 hp1 hp1' p1
      go_wp2
      go_loopw [5] (fun i wr => ∃ (k : Nat) (u : Value) (tt : List ByteArray), i = .int .i64 k ∧ tt.length + k ≤ 5 ∧ Hid (LD w wr b a n c p (60 + 10 * tt.length) v u ss tt)) (fun i _ => (intOf i).toNat)
      case atStart => exact ⟨k3.toNat, _, [], by congr 1; omega, by simp; omega, by simpa using HL3⟩
      case round =>
        clear HL3
        obtain ⟨k, u, tt, rfl, hk', HL⟩ := hrel
        obtain ⟨p1, hst, hp1, hp1'⟩ := HL.out.rd
        have d0 := HL.out.c1
        by_cases hk0 : 0 < k
        · have hd : decide ((0 : Int) < (k : Int)) = true := by simp; omega
          go_wp2
          go_region_law
            (first
              | (refine step_call (by rfl) 93 #[.pointer (some ⟨b, 0, none⟩)] (by first | rfl | kernel_rfl) (l1Text_any b a n c p1 wr.drew hst.drew (by omega) (by omega)) ?_; rintro e w2 ⟨s, rfl, hs, hd2⟩; refine ⟨_, rfl, ?_⟩; have hg2 : wr.grownBy w2 (some b) := ⟨hd2.gr.os, hd2.gr.tape, hd2.gr.output, hd2.gr.size, hd2.gr.block⟩; have hst2 : ∃ p', RdSt w2 b a n c p' ∧ p ≤ p' ∧ p' ≤ p + (60 + 10 * ((tt.length : Int) + 1)) := (by obtain ⟨p2, h2, h3, h4⟩ := hd2.st; exact ⟨p2, h2, by omega, by omega⟩); have hL2 : LD w w2 b a n c p (60 + 10 * ((tt.length : Int) + 1)) v u ss tt := LD.text HL.out hbl hg2 hst2; have P2 := hL2.c1; have P3 := (hL2.alloc (.cells #[.string s] 9)).c1)
              | (refine step_append_lies (w2.alloc (.cells #[.string s] 9)) (by rfl) (.tmp 29) (.tmp 32) 24 (by rfl) (w.heap.size + 2) 9 i0 (.string ⟨#[]⟩) 1 16 Try.underlying24 hi hz0 hz1 hz2 rfl (by decide) u tt.length (tt.map Value.string) (by rfl) (hL2.alloc _).ou ⟨w2.heap.size, 0, none⟩ 1 1 [.string s] (by rfl) rfl (cell_one_new w2 _ 9) (fun u hu => by simp at hu; subst hu; rfl) (by omega) (by unfold maxLen; omega) (by omega) (by simp; have := hL2.le; omega) _ rfl ?_; intro g4 cap4 w4 ho4 hg4 hat4 hlt4; have hgA : w2.grownBy w4 u.ownBlock := grown_trans (grown_below _ ((Below.refl w2.heap.size w2).alloc (Nat.le_refl _) _)) hg4; have hneA : some (w.heap.size + 1) ≠ u.ownBlock := (fun e => by have := (hL2.ou.lt _ e.symm).1; omega); have P4 := hgA.cell hL2.c1 hneA; have F4 : ∀ o, w4.frozen? ⟨w.heap.size + 1, o, none⟩ = false := (fun o => (hgA.frozen_far ⟨w.heap.size + 1, o, none⟩ (by have := hL2.le; simp; omega) hneA).trans (hL2.f o))))
          all_goals
            have HN : Hid _ := LD.app1 hL2 hbl (by omega) ho4 hgA (by rcases hat4 with h | h; exact .inl h; exact .inr (by first | omega | (simp at h; omega)))
            obtain ⟨k2, rfl⟩ : ∃ k2, k = k2 + 1 := ⟨k - 1, by omega⟩
            clear hL2 hst2 hg2 hd2 ho4 hgA hneA hg4 hat4 P2 P3 P4 F4 HL hst d0
            go_wp2
            refine ⟨⟨k2, _, tt ++ [s], ?_, by simp; omega, by simpa using HN⟩, by simp [intOf]⟩
            go_num
        · obtain rfl : k = 0 := by omega
          go_wp2_with fail
          refine (pick_any b a n c p1 14 wr hst (by omega) (by omega) (by omega) (by omega)).mono ?_
          rintro e w5 ⟨k6, rfl, k60, k61, h5, g5⟩
          have HL5 : Hid (LD w w5 b a n c p 120 v u ss tt) := LD.text HL.out hbl g5 ⟨_, h5, by omega, by omega⟩
          clear g5 h5 HL hst d0 hp1 hp1' p1
          by_cases q0 : k6 = 0
          · have q0' : (k6 == 0) = true := by simpa using q0
            have q1' : (k6 == 1) = false := beq_eq_false_iff_ne.2 (by omega)
            clear q0
            obtain ⟨p1, hst, hp1, hp1'⟩ := HL5.out.rd
            have d0 := HL5.out.c1
            go_wp2
            go_region_law
              (first
                | (refine step_call (by rfl) 91 #[.pointer (some ⟨b, 0, none⟩), .int .i64 2] (by first | rfl | kernel_rfl) (pick_any b a n c p1 2 w5.drew hst.drew (by omega) (by omega) (by omega) (by omega)) ?_; rintro e w2 ⟨r, rfl, r0, r1, hst1, hgp⟩; refine ⟨_, rfl, ?_⟩; have hg2 : w5.grownBy w2 (some b) := ⟨hgp.os, hgp.tape, hgp.output, hgp.size, hgp.block⟩; have hst2 : ∃ p', RdSt w2 b a n c p' ∧ p ≤ p' ∧ p' ≤ p + 130 := ⟨_, hst1, by omega, by omega⟩; have hL2 : LD w w2 b a n c p 130 v u ss tt := LD.text HL5.out hbl hg2 hst2; have P2 := hL2.c1; obtain ⟨m, rfl⟩ : ∃ m : Nat, r = m := ⟨r.toNat, by omega⟩; have hwm : IntKind.i64.wrap (5000 + (m : Int)) = 5000 + (m : Int) := dr_wrap (by omega) (by omega); have hMany : Calls Try.prog 92 #[.string ⟨#[101]⟩, .int .i64 (5000 + (m : Int))] w2 fun e w' => ∃ T : ByteArray, e = .returned (.string T) ∧ T.size = 1 * (5000 + m) ∧ w' = w2 := (by have h9 := l1Many_any ⟨#[101]⟩ (5000 + m) w2 (by decide) (by show 1 * (5000 + m) ≤ 100000; omega); rw [show ((5000 + m : Nat) : Int) = 5000 + (m : Int) by omega] at h9; exact h9))
                | (refine step_call (by rfl) 92 #[.string ⟨#[101]⟩, .int .i64 (5000 + (m : Int))] (by first | rfl | kernel_rfl) hMany ?_; rintro e w9 ⟨s, rfl, hs, hw9⟩; refine ⟨_, rfl, ?_⟩; rw [hw9]; have P3 := (hL2.alloc (.cells #[.string s] 9)).c1)
                | (refine step_append_lies (w2.alloc (.cells #[.string s] 9)) (by rfl) (.tmp 40) (.tmp 45) 24 (by rfl) (w.heap.size + 2) 9 i0 (.string ⟨#[]⟩) 1 16 Try.underlying24 hi hz0 hz1 hz2 rfl (by decide) u tt.length (tt.map Value.string) (by rfl) (hL2.alloc _).ou ⟨w2.heap.size, 0, none⟩ 1 1 [.string s] (by rfl) rfl (cell_one_new w2 _ 9) (fun u hu => by simp at hu; subst hu; rfl) (by omega) (by unfold maxLen; omega) (by omega) (by simp; have := hL2.le; omega) _ rfl ?_; intro g4 cap4 w4 ho4 hg4 hat4 hlt4; have hgA : w2.grownBy w4 u.ownBlock := grown_trans (grown_below _ ((Below.refl w2.heap.size w2).alloc (Nat.le_refl _) _)) hg4; have hneA : some (w.heap.size + 1) ≠ u.ownBlock := (fun e => by have := (hL2.ou.lt _ e.symm).1; omega); have P4 := hgA.cell hL2.c1 hneA; have F4 : ∀ o, w4.frozen? ⟨w.heap.size + 1, o, none⟩ = false := (fun o => (hgA.frozen_far ⟨w.heap.size + 1, o, none⟩ (by have := hL2.le; simp; omega) hneA).trans (hL2.f o))))
            all_goals
              have HN : Hid _ := LD.app1 hL2 hbl (by omega) ho4 hgA (by rcases hat4 with h | h; exact .inl h; exact .inr (by first | omega | (simp at h; omega)))
              clear hL2 hst2 hg2 ho4 hgA hneA hg4 hat4 P2 P3 P4 F4 HL5 hst d0 hMany
              obtain ⟨av, cv, rfl, _⟩ := own_slice HN.out.ov
              have c0 := HN.out.c0
              have c1 := HN.out.c1
              have r0 := HN.out.r0
              have r1 := HN.out.r1
              have rf := HN.out.rf
              go_wp2
              refine bodyPost_ret (v := .agg #[.slice av ss.length cv, .slice (some ⟨g4, 0, none⟩) (tt.length + 1) cap4]) (by simp [results, Try.results90, go_sem, r0, r1]) rfl (LogDrawn.mk ⟨_, _, ss, (tt ++ [s]), rfl, ?_, ?_, by simp; omega, HN.out.sz, ?_⟩)
              · exact (ownsRow_setCell_below (ownsRow_setCell_below HN.out.ov (a := ⟨w.heap.size, 0, none⟩) (by simp) _) (a := ⟨w.heap.size, 1, none⟩) (by simp) _).mono (by omega)
              · exact (ownsRow_setCell_below (ownsRow_setCell_below HN.out.ou (a := ⟨w.heap.size, 0, none⟩) (by simp) _) (a := ⟨w.heap.size, 1, none⟩) (by simp) _).mono (by omega)
              · exact LD.ends HN.out hbl
          have q0' : (k6 == 0) = false := by simpa using q0
          by_cases q1 : k6 = 1
          · have q1' : (k6 == 1) = true := by simpa using q1
            clear q0 q1
            obtain ⟨p1, hst, hp1, hp1'⟩ := HL5.out.rd
            go_wp2_with fail
            refine (pick_any b a n c p1 3 w5 hst (by omega) (by omega) (by omega) (by omega)).mono ?_
            rintro e w6 ⟨r, rfl, r0, r1, h6, g6⟩
            have HL6 : Hid (LD w w6 b a n c p 130 v u ss tt) := LD.text HL5.out hbl g6 ⟨_, h6, by omega, by omega⟩
            have hw1 : IntKind.i64.wrap (4000 + r) = 4000 + r := dr_wrap (by omega) (by omega)
            have hw2 : IntKind.i64.wrap (4000 + r - 1) = 4000 + r - 1 := dr_wrap (by omega) (by omega)
            clear g6 h6 HL5 hst hp1 hp1' p1
            go_wp2
            go_loopw [] (fun wr => ∃ (v : Value) (ss : List ByteArray), ss.length + tt.length ≤ 4010 ∧ Hid (LD w wr b a n c p 130 v u ss tt)) (fun wr => 5000 - lenAt wr (w.heap.size + 1))
            case atStart => exact ⟨v, ss, by omega, HL6⟩
            case round =>
              clear HL6
              obtain ⟨v, ss, hss, HL⟩ := hrel
              obtain ⟨av, cv, rfl, _⟩ := own_slice HL.out.ov
              obtain ⟨au, cu, rfl, _⟩ := own_slice HL.out.ou
              have d0 := HL.out.c0
              have d1 := HL.out.c1
              by_cases hlt : (ss.length : Int) + tt.length < 4000 + r - 1
              · have hd : decide ((ss.length : Int) + tt.length < 4000 + r - 1) = true := by simpa using hlt
                have hle := HL.out.le
                go_wp2_with (first
                  | (at_builtin; refine wpList_append_lies _ rfl _ _ 24 rfl (w.heap.size + 2) 9 i0 (.string ⟨#[]⟩) 1 16 Try.underlying24 hi hz0 hz1 hz2 rfl (by decide) _ ss.length (ss.map Value.string) rfl ?d0 ⟨wr.heap.size, 0, none⟩ 1 1 [.string ⟨#[102]⟩] rfl rfl ?d1 ?d2 (by decide) ?d3 ?d4 ?d5 _ rfl ?_)
                  | go_in)
                case d0 => exact HL.out.ov.alloc _
                case d1 => exact cell_one_new wr _ 9
                case d2 => intro u hu; simp at hu; subst hu; rfl
                case d3 => unfold maxLen; omega
                case d4 => omega
                case d5 => simp; omega
                intro g4 cap4 w4 ho4 hg4 hat4 hlt4
                have hgA : wr.grownBy w4 (Value.slice av ss.length cv).ownBlock := grown_trans (grown_below _ ((Below.refl wr.heap.size wr).alloc (Nat.le_refl _) _)) hg4
                have HN : Hid _ := LD.app0 HL.out hbl (s := ⟨#[102]⟩) (by decide) ho4 hgA (by rcases hat4 with h | h; exact .inl h; exact .inr (by first | omega | (simp at h; omega)))
                have hneA : some (w.heap.size + 1) ≠ (Value.slice av ss.length cv).ownBlock := fun e => by have := (HL.out.ov.lt _ e.symm).1; omega
                have P4 := hgA.cell HL.out.c0 hneA
                have F4 : ∀ o, w4.frozen? ⟨w.heap.size + 1, o, none⟩ = false := fun o => (hgA.frozen_far ⟨w.heap.size + 1, o, none⟩ (by simp; omega) hneA).trans (HL.out.f o)
                have hm0 : lenAt wr (w.heap.size + 1) = ss.length := by unfold lenAt; rw [d0]
                have hm1 : lenAt (w4.setCell ⟨w.heap.size + 1, 0, none⟩ (.slice (some ⟨g4, 0, none⟩) (ss.length + 1) cap4)) (w.heap.size + 1) = ss.length + 1 := by unfold lenAt; rw [HN.out.c0]
                clear ho4 hgA hneA hg4 hat4 HL d0 d1
                go_wp2
                refine ⟨⟨_, ss ++ [⟨#[102]⟩], by simp; omega, HN⟩, ?_⟩
                rw [hm0, hm1]
                omega
              · have hd : decide ((ss.length : Int) + tt.length < 4000 + r - 1) = false := by simpa using hlt
                have c0 := HL.out.c0
                have c1 := HL.out.c1
                have r0 := HL.out.r0
                have r1 := HL.out.r1
                have rf := HL.out.rf
                go_wp2
                refine bodyPost_ret (v := .agg #[.slice av ss.length cv, .slice au tt.length cu]) (by simp [results, Try.results90, go_sem, r0, r1]) rfl (LogDrawn.mk ⟨_, _, ss, tt, rfl, ?_, ?_, by omega, HL.out.sz, ?_⟩)
                · exact (ownsRow_setCell_below (ownsRow_setCell_below HL.out.ov (a := ⟨w.heap.size, 0, none⟩) (by simp) _) (a := ⟨w.heap.size, 1, none⟩) (by simp) _).mono (by omega)
                · exact (ownsRow_setCell_below (ownsRow_setCell_below HL.out.ou (a := ⟨w.heap.size, 0, none⟩) (by simp) _) (a := ⟨w.heap.size, 1, none⟩) (by simp) _).mono (by omega)
                · exact LD.ends HL.out hbl
          have q1' : (k6 == 1) = false := by simpa using q1
          obtain ⟨av, cv, rfl, _⟩ := own_slice HL5.out.ov
          obtain ⟨au, cu, rfl, _⟩ := own_slice HL5.out.ou
          have c0 := HL5.out.c0
          have c1 := HL5.out.c1
          have r0 := HL5.out.r0
          have r1 := HL5.out.r1
          have rf := HL5.out.rf
          go_wp2
          refine bodyPost_ret (v := .agg #[.slice av ss.length cv, .slice au tt.length cu]) (by simp [results, Try.results90, go_sem, r0, r1]) rfl (LogDrawn.mk ⟨_, _, ss, tt, rfl, ?_, ?_, by omega, HL5.out.sz, ?_⟩)
          · exact (ownsRow_setCell_below (ownsRow_setCell_below HL5.out.ov (a := ⟨w.heap.size, 0, none⟩) (by simp) _) (a := ⟨w.heap.size, 1, none⟩) (by simp) _).mono (by omega)
          · exact (ownsRow_setCell_below (ownsRow_setCell_below HL5.out.ou (a := ⟨w.heap.size, 0, none⟩) (by simp) _) (a := ⟨w.heap.size, 1, none⟩) (by simp) _).mono (by omega)
          · exact LD.ends HL5.out hbl

end Go.Proofs.Ytdecihmplkgfkaa
