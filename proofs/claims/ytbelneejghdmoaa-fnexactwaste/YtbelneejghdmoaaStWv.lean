/-
  impl.walkLive.
-/
import Derived.Test.YtbelneejghdmoaaStVj
import Derived.Test.YtbelneejghdmoaaStBel
namespace Go.Proofs.Ytbelneejghdmoaa
open Go.ChangeShapes Go.WideShapes Go.ChangeAt Go.RowKit
attribute [local go_sem ↓] Go.wp_at_zero Go.wp_at_succ

theorem mem_dn {ks : List Kd} {y x : ByteArray} : x ∈ linkL (dnE ks) y ↔ ∃ u ∈ ks, u.sum = y ∧ x ∈ u.refs := by
  unfold linkL dnE
  rw [List.mem_filterMap]
  constructor
  · rintro ⟨p, hp, e⟩
    rw [List.mem_flatMap] at hp
    obtain ⟨u, hu, hp⟩ := hp
    obtain ⟨r, hr, rfl⟩ := List.mem_map.1 hp
    split at e
    · rename_i h
      cases e
      exact ⟨u, hu, h, hr⟩
    · cases e
  · rintro ⟨u, hu, rfl, hx⟩
    exact ⟨(u.sum, x), List.mem_flatMap.2 ⟨u, hu, List.mem_map.2 ⟨x, hx, rfl⟩⟩, by simp⟩

theorem reach_dn {ks : List Kd} {fr : List ByteArray} {s : ByteArray} : ReachE (dnE ks) fr s ↔ Reach ks fr s := by
  constructor
  · intro h
    induction h with
    | here hx => exact .here hx
    | step _ hx ih =>
      obtain ⟨u, hu, hs, hx⟩ := mem_dn.1 hx
      exact .step ih hu hs hx
  · intro h
    induction h with
    | here hx => exact .here hx
    | step _ hu hs hx ih => exact .step ih (mem_dn.2 ⟨_, hu, hs, hx⟩)

theorem reach_same {ks : List Kd} {fr fr' : List ByteArray} (h : ∀ x, x ∈ fr ↔ x ∈ fr') {s : ByteArray} : Reach ks fr s ↔ Reach ks fr' s := by
  have go : ∀ {a b : List ByteArray}, (∀ x, x ∈ a → x ∈ b) → ∀ {s : ByteArray}, Reach ks a s → Reach ks b s := fun {a b} hab {s} hr => by
    induction hr with
    | here hx => exact .here (hab _ hx)
    | step _ hu hs hx ih => exact .step ih hu hs hx
  exact ⟨go (fun x => (h x).1), go (fun x => (h x).2)⟩

/-- What the walks want of a state. -/
structure WalkOk (wd : Int) (ks : List Kd) (ps : List Pd) (ls : List Ld) : Prop where
  w8 : wd ≤ 8
  nk : ks.length ≤ 600
  np : ps.length ≤ 100
  nl : ls.length ≤ 200
  r30 : ∀ k ∈ ks, k.refs.length ≤ 30
  sum : ∀ k ∈ ks, (k.sum.size : Int) = wd
  rsz : ∀ k ∈ ks, ∀ r ∈ k.refs, (r.size : Int) = wd
  ref : ∀ k ∈ ks, ∀ r ∈ k.refs, There ks r
  pin : ∀ p ∈ ps, There ks p.sum
  lease : ∀ l ∈ ls, There ks l.sum
  uniq : ∀ u ∈ ks, ∀ v ∈ ks, u.sum = v.sum → u = v

theorem WalkOk.sz {wd : Int} {ks : List Kd} {ps : List Pd} {ls : List Ld} (h : WalkOk wd ks ps ls) {s : ByteArray} (hs : There ks s) : (s.size : Int) = wd := by
  obtain ⟨u, hu, rfl⟩ := hs
  exact h.sum u hu

theorem WalkOk.roots {wd : Int} {ks : List Kd} {ps : List Pd} {ls : List Ld} (h : WalkOk wd ks ps ls) {s : ByteArray} (hs : s ∈ ps.map (·.sum) ++ ls.map (·.sum)) : There ks s := by
  rcases List.mem_append.1 hs with hs | hs
  · obtain ⟨p, hp, rfl⟩ := List.mem_map.1 hs
    exact h.pin p hp
  · obtain ⟨p, hp, rfl⟩ := List.mem_map.1 hs
    exact h.lease p hp

theorem WalkOk.dn {wd : Int} {ks : List Kd} {ps : List Pd} {ls : List Ld} (h : WalkOk wd ks ps ls) {p : ByteArray × ByteArray} (hp : p ∈ dnE ks) : There ks p.2 := by
  unfold dnE at hp
  obtain ⟨u, hu, hp⟩ := List.mem_flatMap.1 hp
  obtain ⟨r, hr, rfl⟩ := List.mem_map.1 hp
  exact h.ref u hu r hr

theorem WalkOk.dnLen {wd : Int} {ks : List Kd} {ps : List Pd} {ls : List Ld} (h : WalkOk wd ks ps ls) : (dnE ks).length ≤ 18000 := by
  have h1 := flat_len (ks := ks) (fun u => u.refs.map (fun r => (u.sum, r))) (fun u hu => by simpa using h.r30 u hu)
  have h2 := h.nk
  unfold dnE
  omega

/-- What walkLive has done. -/
structure Lived (ks : List Kd) (fr : List ByteArray) (J : List ByteArray → World → Prop) (V : List Nat) (w : World) (e : Ending) (w' : World) : Prop where
  ex : ∃ vs, (∃ v, e = .returned v) ∧ J vs w' ∧ vs.Nodup ∧ (∀ s, s ∈ vs ↔ Reach ks fr s) ∧ Vis w.heap.size V w w'

theorem sb7 {w : World} {b : Nat} {wd now given births : Int} {T P L : Value} (h : SBox w b wd now given births T P L) : w.cell? ⟨b, 0, none⟩ = some (.int .i64 wd) ∧ w.cell? ⟨b, 1, none⟩ = some (.int .i64 now) ∧ w.cell? ⟨b, 2, none⟩ = some (.int .i64 given) ∧ w.cell? ⟨b, 3, none⟩ = some (.int .i64 births) ∧ w.cell? ⟨b, 4, none⟩ = some T ∧ w.cell? ⟨b, 5, none⟩ = some P ∧ w.cell? ⟨b, 6, none⟩ = some L :=
  ⟨h.1, h.2.1, h.2.2.1, h.2.2.2.1, h.2.2.2.2.1, h.2.2.2.2.2.1, h.2.2.2.2.2.2.1⟩

theorem vis_all {V : List Nat} {w X Y : World} (hb : Below w.heap.size w X) (h : Vis X.heap.size V X Y) : Vis w.heap.size V w Y :=
  ⟨h.os.trans hb.os, h.tape.trans hb.tape, h.output.trans hb.output, Nat.le_trans hb.size h.size, fun q hq hv => (h.old q (Nat.lt_of_lt_of_le hq hb.size) hv).trans (hb.block q hq), fun q o hq ho _ => by have := (Array.getElem?_eq_some_iff.1 ho).1; omega⟩

theorem SBox.same {w w' : World} {b : Nat} {wd now given births : Int} {T P L : Value} (h : SBox w b wd now given births T P L) (hb : w'.heap[b]? = w.heap[b]?) : SBox w' b wd now given births T P L := by
  obtain ⟨h0, h1, h2, h3, h4, h5, h6, h7⟩ := h
  have c := fun j => World.cell?_of_block (a := ⟨b, j, none⟩) hb
  refine ⟨(c 0).trans h0, (c 1).trans h1, (c 2).trans h2, (c 3).trans h3, (c 4).trans h4, (c 5).trans h5, (c 6).trans h6, ?_⟩
  exact World.block_lt_of_cell? w' _ ((c 0).trans h0)

set_option maxRecDepth 20000 in
set_option maxHeartbeats 8000000 in
theorem walkLive_any (vf : FuncId) (cv : Value) (eg : ∀ args w, (callFunc vf args).run Try.prog w = .ok (.enter vf args) w) (wd now given births : Int) (a p l : Option Addr) (ac pc lc : Nat) (ks : List Kd) (ps : List Pd) (ls : List Ld) (V : List Nat) (J : List ByteArray → World → Prop) (w : World)
    (hk : KRow w w.heap.size a ks) (hp : PRow w w.heap.size p ps) (hq : LRow w w.heap.size l ls) (hok : WalkOk wd ks ps ls) (hV : ∀ q ∈ V, q < w.heap.size) (hJ0 : J [] w) (hA : ∀ n0, w.heap.size ≤ n0 → Abides n0 J)
    (hv : ∀ n0 vs W u ra rc, w.heap.size ≤ n0 → vs.length < 600 → u ∈ ks → J vs W → n0 ≤ W.heap.size → Calls Try.prog vf #[keptV u ra rc, cv] W fun e W' => (∃ v, e = .returned v) ∧ J (vs ++ [u.sum]) W' ∧ Vis n0 V W W') :
    Calls Try.prog 69 #[.agg #[.int .i64 wd, .int .i64 now, .int .i64 given, .int .i64 births, .slice a ks.length ac, .slice p ps.length pc, .slice l ls.length lc], .func (.func vf) #[] #[cv]] w fun e w' => Lived ks (ps.map (·.sum) ++ ls.map (·.sum)) J V w e w' := by
  obtain ⟨W1, hW1⟩ : ∃ W1, W1 = w.alloc (.cells #[.int .i64 wd, .int .i64 now, .int .i64 given, .int .i64 births, .slice a ks.length ac, .slice p ps.length pc, .slice l ls.length lc] 33) := ⟨_, rfl⟩
  have b1 : Below w.heap.size w W1 := by rw [hW1]; exact (Below.refl _ _).alloc (Nat.le_refl _) _
  have z1 : W1.heap.size = w.heap.size + 1 := by rw [hW1]; simp
  have X1 : SBox W1 w.heap.size wd now given births (.slice a ks.length ac) (.slice p ps.length pc) (.slice l ls.length lc) := by rw [hW1]; exact SBox.new w wd now given births _ _ _ 33
  have bD : Below w.heap.size w W1.drew := b1.drew
  have kD : Below W1.heap.size W1 W1.drew := (Below.refl _ _).drew
  have hS0 := sb7 (X1.keep kD (by omega))
  have HW1 : Hid _ := hW1
  have HR : Hid _ := And.intro hk (And.intro hp hq)
  have HO : Hid _ := hok
  have HJ : Hid _ := And.intro hJ0 (And.intro hA hv)
  have HX : Hid _ := X1
  have hnk := hok.nk
  have hnp := hok.np
  have hnl := hok.nl
  have h8 := hok.w8
  have hdl := hok.dnLen
  clear hW1 hk hp hq hok hJ0 hA hv X1
  go_enter Try.func69, Try.ntmps69
  go_upto_region 1 with fail
  rw [← HW1.out]
  clear HW1
  go_region_held3 (fun w' => w'.cell? ⟨w.heap.size, 0, none⟩ = some (.int .i64 wd) ∧ w'.cell? ⟨w.heap.size, 1, none⟩ = some (.int .i64 now) ∧ w'.cell? ⟨w.heap.size, 2, none⟩ = some (.int .i64 given) ∧ w'.cell? ⟨w.heap.size, 3, none⟩ = some (.int .i64 births) ∧ w'.cell? ⟨w.heap.size, 4, none⟩ = some (.slice a ks.length ac) ∧ w'.cell? ⟨w.heap.size, 5, none⟩ = some (.slice p ps.length pc) ∧ w'.cell? ⟨w.heap.size, 6, none⟩ = some (.slice l ls.length lc))
    (first | exact hS0 | exact hS2 | exact hS3 | exact hS4 | exact hS5)
    (first
      | (go_at_call 49; refine (shelfOf_any wd now given births a ac _ _ ks W1.drew (KRow.mono (KRow.below HR.out.1 bD) bD.size) (by omega) HO.out.sum h8).mono ?_; rintro e w2 ⟨m, fm, rfl, hmge, hM, hH, hb2⟩; have k2 : Below W1.heap.size W1 w2 := kD.trans (hb2.mono (Nat.le_refl _)); have hS2 := sb7 (SBox.keep HX.out k2 (by omega)); have B2 : Below w.heap.size w w2 := b1.trans (k2.mono b1.size))
      | (go_at_call 103; refine (roots_any wd now given births _ p l pc lc ps ls w2 (PRow.mono (PRow.below HR.out.2.1 B2) B2.size) (LRow.mono (LRow.below HR.out.2.2 B2) B2.size) hnp hnl).mono ?_; rintro e w3 ⟨fv, rfl, hq3, hb3⟩; have k3 : Below W1.heap.size W1 w3 := k2.trans (hb3.mono k2.size); have hS3 := sb7 (SBox.keep HX.out k3 (by omega)); have B3 : Below w.heap.size w w3 := b1.trans (k3.mono b1.size))
      | (go_at_call 104; refine (linksDown_any wd now given births a ac _ _ ks w3 (KRow.mono (KRow.below HR.out.1 B3) B3.size) hnk HO.out.r30 HO.out.sum HO.out.rsz h8).mono ?_; rintro e w4 ⟨lb, ln, fl, rfl, hlb, hL, hb4⟩; have k4 : Below W1.heap.size W1 w4 := k3.trans (hb4.mono k3.size); have hS4 := sb7 (SBox.keep HX.out k4 (by omega)); have B4 : Below w.heap.size w w4 := b1.trans (k4.mono b1.size))
      | (go_at_call 75; refine (walk_any vf cv eg wd m ks.length fm ks W1.drew W1.drew.heap.size fv (ps.map (·.sum) ++ ls.map (·.sum)) (lb + 1) lb ln (dnE ks) fl V J w4 ((hM.keep hb3 hM.lt).keep hb4 (Nat.lt_of_lt_of_le hM.lt hb3.size)) hH (R8.mono (R8.below hq3.read hb4) hb4.size) hL (fun h => by have := hV m h; have := bD.size; omega) (fun h => by have := hV lb h; have := B3.size; omega) (fun t ht g hg h => by have := hV g h; have := ((hL.row t ht).blk hg).1; have := B3.size; omega) hnk (by simp; omega) hdl h8 (fun s hs => HO.out.sz (HO.out.roots hs)) (fun p hp => HO.out.sz (HO.out.dn hp)) (fun s hs => HO.out.roots hs) (fun p hp => HO.out.dn hp) ((HJ.out.2.1 w.heap.size (Nat.le_refl _)).below HJ.out.1 B4 (Nat.le_refl _)) (HJ.out.2.1 w4.heap.size B4.size) (fun vs W u ra rc h1 h2 h3 h4 => HJ.out.2.2 w4.heap.size vs W u ra rc B4.size h1 h2 h3 h4)).mono ?_; rintro e w5 ⟨vs, ⟨rv, rfl⟩, hJ5, hnd, hiff, hV5⟩; have V5 : Vis w.heap.size V w w5 := (vis_all B4 hV5); have HF : Hid _ := (And.intro hJ5 (And.intro hnd (And.intro hiff V5))); have hS5 := sb7 (SBox.same HX.out ((hV5.old w.heap.size (by have := k4.size; omega) (fun h => by have := hV _ h; omega)).trans (k4.block _ (by omega))))))
  all_goals
    clear hM hH hL hb2 hb3 hb4 k2 k3 k4 B2 B3 B4 hS2 hS3 hS4 hS5 hJ5 hiff hV5 V5
    go_wp2
    go_end0
    exact ⟨vs, ⟨_, rfl⟩, HF.out.1, HF.out.2.1, fun s => (HF.out.2.2.1 s).trans reach_dn, HF.out.2.2.2⟩

end Go.Proofs.Ytbelneejghdmoaa
