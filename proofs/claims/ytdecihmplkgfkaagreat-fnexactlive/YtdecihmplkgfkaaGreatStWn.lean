/-
  impl.walkLive, with a visitor whose word speaks of where the walk began.
-/
import Derived.Test.YtdecihmplkgfkaaGreatStWv
namespace Go.Proofs.YtdecihmplkgfkaaGreat
open Go.ChangeShapes Go.WideShapes Go.ChangeAt Go.RowKit
attribute [local go_sem ↓] Go.wp_at_zero Go.wp_at_succ

structure LivedN (ks : List Kd) (fr : List ByteArray) (J : Nat → List ByteArray → World → Prop) (V : List Nat) (w : World) (e : Ending) (w' : World) : Prop where
  ex : ∃ n0 vs, w.heap.size ≤ n0 ∧ n0 ≤ w'.heap.size ∧ (∃ v, e = .returned v) ∧ J n0 vs w' ∧ vs.Nodup ∧ (∀ s, s ∈ vs ↔ Reach ks fr s) ∧ Vis w.heap.size V w w'

set_option maxRecDepth 20000 in
set_option maxHeartbeats 8000000 in
theorem walkLiveN_any (vf : FuncId) (cv : Value) (eg : ∀ args w, (callFunc vf args).run Tryz.prog w = .ok (.enter vf args) w) (wd now given births : Int) (a p l : Option Addr) (ac pc lc : Nat) (ks : List Kd) (ps : List Pd) (ls : List Ld) (V : List Nat) (J : Nat → List ByteArray → World → Prop) (w : World)
    (hk : KRow w w.heap.size a ks) (hp : PRow w w.heap.size p ps) (hq : LRow w w.heap.size l ls) (hok : WalkOk wd ks ps ls) (hV : ∀ q ∈ V, q < w.heap.size) (hJ0 : ∀ W, Below w.heap.size w W → J W.heap.size [] W) (hA : ∀ n0, w.heap.size ≤ n0 → Abides n0 (J n0))
    (hv : ∀ n0 vs W u ra rc, w.heap.size ≤ n0 → vs.length < 600 → u ∈ ks → J n0 vs W → n0 ≤ W.heap.size → Calls Tryz.prog vf #[keptV u ra rc, cv] W fun e W' => (∃ v, e = .returned v) ∧ J n0 (vs ++ [u.sum]) W' ∧ Vis n0 V W W') :
    Calls Tryz.prog 24 #[.agg #[.int .i64 wd, .int .i64 now, .int .i64 given, .int .i64 births, .slice a ks.length ac, .slice p ps.length pc, .slice l ls.length lc], .func (.func vf) #[] #[cv]] w fun e w' => LivedN ks (ps.map (·.sum) ++ ls.map (·.sum)) J V w e w' := by
  obtain ⟨W1, hW1⟩ : ∃ W1, W1 = w.alloc (.cells #[.int .i64 wd, .int .i64 now, .int .i64 given, .int .i64 births, .slice a ks.length ac, .slice p ps.length pc, .slice l ls.length lc] 34) := ⟨_, rfl⟩
  have b1 : Below w.heap.size w W1 := by rw [hW1]; exact (Below.refl _ _).alloc (Nat.le_refl _) _
  have z1 : W1.heap.size = w.heap.size + 1 := by rw [hW1]; simp
  have X1 : SBox W1 w.heap.size wd now given births (.slice a ks.length ac) (.slice p ps.length pc) (.slice l ls.length lc) := by rw [hW1]; exact SBox.new w wd now given births _ _ _ 34
  have bD : Below w.heap.size w W1.drew := b1.drew
  have kD : Below W1.heap.size W1 W1.drew := (Below.refl _ _).drew
  have hS0 := sb7 (X1.keep kD (by omega))
  have HW1 : Hid _ := hW1
  have HR : Hid _ := And.intro hk (And.intro hp hq)
  have HO : Hid _ := hok
  have HJ : Hid _ := And.intro hJ0 (And.intro hA hv)
  have HX : Hid _ := X1
  have hnk := hok.nk
  have hnp := hok.np
  have hnl := hok.nl
  have h8 := hok.w8
  have hdl := hok.dnLen
  clear hW1 hk hp hq hok hJ0 hA hv X1
  go_enter Tryz.func24, Tryz.ntmps24
  go_upto_region 1 with fail
  rw [← HW1.out]
  clear HW1
  go_region_held3 (fun w' => w'.cell? ⟨w.heap.size, 0, none⟩ = some (.int .i64 wd) ∧ w'.cell? ⟨w.heap.size, 1, none⟩ = some (.int .i64 now) ∧ w'.cell? ⟨w.heap.size, 2, none⟩ = some (.int .i64 given) ∧ w'.cell? ⟨w.heap.size, 3, none⟩ = some (.int .i64 births) ∧ w'.cell? ⟨w.heap.size, 4, none⟩ = some (.slice a ks.length ac) ∧ w'.cell? ⟨w.heap.size, 5, none⟩ = some (.slice p ps.length pc) ∧ w'.cell? ⟨w.heap.size, 6, none⟩ = some (.slice l ls.length lc))
    (first | exact hS0 | exact hS2 | exact hS3 | exact hS4 | exact hS5)
    (first
      | (go_at_call 48; refine (shelfOf_any wd now given births a ac _ _ ks W1.drew (KRow.mono (KRow.below HR.out.1 bD) bD.size) (by omega) HO.out.sum h8).mono ?_; rintro e w2 ⟨m, fm, rfl, hmge, hM, hH, hb2⟩; have k2 : Below W1.heap.size W1 w2 := kD.trans (hb2.mono (Nat.le_refl _)); have hS2 := sb7 (SBox.keep HX.out k2 (by omega)); have B2 : Below w.heap.size w w2 := b1.trans (k2.mono b1.size))
      | (go_at_call 53; refine (roots_any wd now given births _ p l pc lc ps ls w2 (PRow.mono (PRow.below HR.out.2.1 B2) B2.size) (LRow.mono (LRow.below HR.out.2.2 B2) B2.size) hnp hnl).mono ?_; rintro e w3 ⟨fv, rfl, hq3, hb3⟩; have k3 : Below W1.heap.size W1 w3 := k2.trans (hb3.mono k2.size); have hS3 := sb7 (SBox.keep HX.out k3 (by omega)); have B3 : Below w.heap.size w w3 := b1.trans (k3.mono b1.size))
      | (go_at_call 54; refine (linksDown_any wd now given births a ac _ _ ks w3 (KRow.mono (KRow.below HR.out.1 B3) B3.size) hnk HO.out.r30 HO.out.sum HO.out.rsz h8).mono ?_; rintro e w4 ⟨lb, ln, fl, rfl, hlb, hL, hb4⟩; have k4 : Below W1.heap.size W1 w4 := k3.trans (hb4.mono k3.size); have hS4 := sb7 (SBox.keep HX.out k4 (by omega)); have B4 : Below w.heap.size w w4 := b1.trans (k4.mono b1.size))
      | (go_at_call 52; refine (walk_any vf cv eg wd m ks.length fm ks W1.drew W1.drew.heap.size fv (ps.map (·.sum) ++ ls.map (·.sum)) (lb + 1) lb ln (dnE ks) fl V (J w4.heap.size) w4 ((hM.keep hb3 hM.lt).keep hb4 (Nat.lt_of_lt_of_le hM.lt hb3.size)) hH (R8.mono (R8.below hq3.read hb4) hb4.size) hL (fun h => by have := hV m h; have := bD.size; omega) (fun h => by have := hV lb h; have := B3.size; omega) (fun t ht g hg h => by have := hV g h; have := ((hL.row t ht).blk hg).1; have := B3.size; omega) hnk (by simp; omega) hdl h8 (fun s hs => HO.out.sz (HO.out.roots hs)) (fun p hp => HO.out.sz (HO.out.dn hp)) (fun s hs => HO.out.roots hs) (fun p hp => HO.out.dn hp) (HJ.out.1 w4 B4) (HJ.out.2.1 w4.heap.size B4.size) (fun vs W u ra rc h1 h2 h3 h4 => HJ.out.2.2 w4.heap.size vs W u ra rc B4.size h1 h2 h3 h4)).mono ?_; rintro e w5 ⟨vs, ⟨rv, rfl⟩, hJ5, hnd, hiff, hV5⟩; have V5 : Vis w.heap.size V w w5 := (vis_all B4 hV5); have HF : Hid _ := (And.intro hJ5 (And.intro hnd (And.intro hiff (And.intro V5 (And.intro B4.size hV5.size))))); have hS5 := sb7 (SBox.same HX.out ((hV5.old w.heap.size (by have := k4.size; omega) (fun h => by have := hV _ h; omega)).trans (k4.block _ (by omega))))))
  all_goals
    clear hM hH hL hb2 hb3 hb4 k2 k3 k4 B2 B3 B4 hS2 hS3 hS4 hS5 hJ5 hiff hV5 V5
    go_wp2
    go_end0
    exact ⟨_, vs, HF.out.2.2.2.2.1, HF.out.2.2.2.2.2, ⟨_, rfl⟩, HF.out.1, HF.out.2.1, fun s => (HF.out.2.2.1 s).trans reach_dn, HF.out.2.2.2.1⟩

end Go.Proofs.YtdecihmplkgfkaaGreat
