/-
  impl.Holders.
-/
import Derived.Test.YtbelneejghdmoaaStHv
import Derived.Test.YtbelneejghdmoaaStWa
import Derived.Test.YtbelneejghdmoaaStST
namespace Go.Proofs.Ytbelneejghdmoaa
open Go.ChangeShapes Go.WideShapes Go.ChangeAt Go.RowKit
attribute [local go_sem ↓] Go.wp_at_zero Go.wp_at_succ

open Classical in
/-- The names of the pins that hold a thing; the numbers of the leases that do. -/
noncomputable def holdP (ks : List Kd) (ps : List Pd) (s : ByteArray) : List ByteArray := (ps.filter (fun p => decide (Reach ks [p.sum] s))).map (·.name)
open Classical in
noncomputable def holdL (ks : List Kd) (ls : List Ld) (s : ByteArray) : List Int := (ls.filter (fun p => decide (Reach ks [p.sum] s))).map (·.num)

theorem holdP_yes {ks : List Kd} {ps : List Pd} {s : ByteArray} {k : Nat} {x : Pd} (h : ps[k]? = some x) (hr : Reach ks [x.sum] s) : holdP ks (ps.take (k + 1)) s = holdP ks (ps.take k) s ++ [x.name] := by
  obtain ⟨hlt, rfl⟩ := List.getElem?_eq_some_iff.1 h
  unfold holdP
  rw [List.take_succ_eq_append_getElem hlt, List.filter_append, List.map_append]
  simp [hr]
theorem holdP_no {ks : List Kd} {ps : List Pd} {s : ByteArray} {k : Nat} {x : Pd} (h : ps[k]? = some x) (hr : ¬ Reach ks [x.sum] s) : holdP ks (ps.take (k + 1)) s = holdP ks (ps.take k) s := by
  obtain ⟨hlt, rfl⟩ := List.getElem?_eq_some_iff.1 h
  unfold holdP
  rw [List.take_succ_eq_append_getElem hlt, List.filter_append, List.map_append]
  simp [hr]
theorem holdL_yes {ks : List Kd} {ps : List Ld} {s : ByteArray} {k : Nat} {x : Ld} (h : ps[k]? = some x) (hr : Reach ks [x.sum] s) : holdL ks (ps.take (k + 1)) s = holdL ks (ps.take k) s ++ [x.num] := by
  obtain ⟨hlt, rfl⟩ := List.getElem?_eq_some_iff.1 h
  unfold holdL
  rw [List.take_succ_eq_append_getElem hlt, List.filter_append, List.map_append]
  simp [hr]
theorem holdL_no {ks : List Kd} {ps : List Ld} {s : ByteArray} {k : Nat} {x : Ld} (h : ps[k]? = some x) (hr : ¬ Reach ks [x.sum] s) : holdL ks (ps.take (k + 1)) s = holdL ks (ps.take k) s := by
  obtain ⟨hlt, rfl⟩ := List.getElem?_eq_some_iff.1 h
  unfold holdL
  rw [List.take_succ_eq_append_getElem hlt, List.filter_append, List.map_append]
  simp [hr]
theorem holdP_len (ks : List Kd) (ps : List Pd) (s : ByteArray) : (holdP ks ps s).length ≤ ps.length := by
  unfold holdP
  rw [List.length_map]
  exact List.length_filter_le _ _
theorem holdL_len (ks : List Kd) (ps : List Ld) (s : ByteArray) : (holdL ks ps s).length ≤ ps.length := by
  unfold holdL
  rw [List.length_map]
  exact List.length_filter_le _ _

def HoldOk (wd now given births : Int) (ks : List Kd) (ps : List Pd) (ls : List Ld) (s : ByteArray) : Prop := StateOk wd now given births ks ps ls ∧ There ks s
open Classical in
noncomputable def holdPA (wd now given births : Int) (ks : List Kd) (ps : List Pd) (ls : List Ld) (s : ByteArray) : List ByteArray := if HoldOk wd now given births ks ps ls s then holdP ks ps s else []
open Classical in
noncomputable def holdLA (wd now given births : Int) (ks : List Kd) (ps : List Pd) (ls : List Ld) (s : ByteArray) : List Int := if HoldOk wd now given births ks ps ls s then holdL ks ls s else []

set_option maxRecDepth 100000 in
theorem egHold : ∀ args w, (callFunc 77 args).run Try.prog w = .ok (.enter 77 args) w := fun _ _ => rfl

/-- What Holders answers. -/
structure Held (w : World) (P : List ByteArray) (L : List Int) (e : Ending) (w' : World) : Prop where
  ex : ∃ v1 v2 B2, e = .returned (.tuple #[v1, v2]) ∧ w'.ownsRow w.heap.size 9 1 v1 P.length (P.map Value.string) ∧ w'.ownsRow B2 3 1 v2 L.length (L.map (Value.int .i64)) ∧ (∀ g, v1.ownBlock = some g → g < B2) ∧ w.heap.size ≤ B2 ∧ Below w.heap.size w w'

set_option maxRecDepth 20000 in
set_option maxHeartbeats 16000000 in
theorem iHolders_any (wd now given births : Int) (a p l : Option Addr) (ac pc lc : Nat) (ks : List Kd) (ps : List Pd) (ls : List Ld) (sum : ByteArray) (w : World) (hrow : SRows w w.heap.size a p l ks ps ls) (hk : KMem ks) (hp : PMem ps) (hl : LMem ls) (hf : SFit ks ps ls) (hbw : ∀ k ∈ ks, (Lit.int .i64 k.born).wf = true) :
    Calls Try.prog 32 #[.agg #[.int .i64 wd, .int .i64 now, .int .i64 given, .int .i64 births, .slice a ks.length ac, .slice p ps.length pc, .slice l ls.length lc], .string sum] w fun e w' => Held w (holdPA wd now given births ks ps ls sum) (holdLA wd now given births ks ps ls sum) e w' := by
  obtain ⟨i0, hi, hz0, hz1, hz2⟩ := info_parts Try.infoStr
  obtain ⟨i1, hi', hy0, hy1, hy2⟩ := info_parts Try.infoInt
  have hmm := @run_makeMap Try.prog
  have hmf : ∀ (fn : Fn) (first cap : Array Value) (w : World), (Instr.makeFunc fn first cap).run Try.prog w = .ok (.func fn first cap) w := fun _ _ _ _ => rfl
  obtain ⟨W1, hW1⟩ : ∃ W1, W1 = w.alloc (.cells #[.int .i64 wd, .int .i64 now, .int .i64 given, .int .i64 births, .slice a ks.length ac, .slice p ps.length pc, .slice l ls.length lc] 33) := ⟨_, rfl⟩
  have b1 : Below w.heap.size w W1 := by rw [hW1]; exact (Below.refl _ _).alloc (Nat.le_refl _) _
  have z1 : W1.heap.size = w.heap.size + 1 := by rw [hW1]; simp
  have X1 : SBox W1 w.heap.size wd now given births (.slice a ks.length ac) (.slice p ps.length pc) (.slice l ls.length lc) := by rw [hW1]; exact SBox.new w wd now given births _ _ _ 33
  have HW1 : Hid _ := hW1
  have HR : Hid _ := hrow
  have HM : Hid _ := And.intro hk (And.intro hp (And.intro hl (And.intro hf hbw)))
  have HX : Hid _ := X1
  obtain ⟨x0, x1, x2, x3, x4, x5, x6, x7⟩ := X1
  have hfk := hf.k
  clear hW1 hrow hk hp hl hf hbw
  go_enter Try.func32, Try.ntmps32
  go_upto_region 1 with fail
  rw [← HW1.out]
  clear HW1
  go_wp2_with fail
  refine (iValidState_any wd now given births a p l ac pc lc ks ps ls W1 (SRows.below' HR.out b1) HM.out.1 HM.out.2.1 HM.out.2.2.1 HM.out.2.2.2.1 HM.out.2.2.2.2).mono ?_
  rintro e wA ⟨b2, rfl, hs2, hb2⟩
  have XA : SBox wA w.heap.size wd now given births (.slice a ks.length ac) (.slice p ps.length pc) (.slice l ls.length lc) := SBox.keep HX.out hb2 (by omega)
  have BA : Below w.heap.size w wA := b1.trans (hb2.mono b1.size)
  have zA := hb2.size
  clear x0 x1 x2 x3 x4 x5 x6 x7
  cases b2 with
  | false =>
    have HN : Hid (¬ HoldOk wd now given births ks ps ls sum) := fun h => by have := hs2.2 h.1; cases this
    clear hs2 XA hb2 HX
    go_wp2
    go_ret2
    refine ⟨_, _, w.heap.size, rfl, ?_, ?_, (fun g hg => by cases hg), Nat.le_refl _, BA⟩
    · unfold holdPA
      rw [if_neg HN.out]
      exact World.ownsRow_nil _ _ _ _
    · unfold holdLA
      rw [if_neg HN.out]
      exact World.ownsRow_nil _ _ _ _
  | true =>
    have hP := hs2.1 rfl
    have HP : Hid _ := hP
    have HO : Hid _ := walkOk_of hP
    have hnk := hP.nth
    have hnp := hP.np
    have hnl := hP.nl
    have h8 := HO.out.w8
    have hdl := HO.out.upLen
    have HXA : Hid _ := XA
    obtain ⟨x0, x1, x2, x3, x4, x5, x6, x7⟩ := XA
    clear hs2 hP hb2 HX
    go_wp2_with fail
    refine (shelfOf_any wd now given births a ac _ _ ks wA (KRow.mono (KRow.below HR.out.k BA) BA.size) (by omega) HO.out.sum h8).mono ?_
    rintro e wB ⟨mB, fB, rfl, hmB, hMB, hHB, hbB⟩
    obtain ⟨ok, hok, hcall⟩ := shelf_has wd mB _ fB ks _ _ sum wB hMB hHB HO.out.sum
    have HC : Hid _ := hcall wB (Below.refl _ _)
    have zB := hbB.size
    have BB : Below w.heap.size w wB := BA.trans (hbB.mono BA.size)
    have HXB : Hid (SBox wB w.heap.size wd now given births (.slice a ks.length ac) (.slice p ps.length pc) (.slice l ls.length lc)) := SBox.keep HXA.out hbB (by omega)
    clear x0 x1 x2 x3 x4 x5 x6 x7 hMB hHB hcall hbB
    go_wp2_with fail
    refine Calls.mono HC.out ?_
    rintro e w2 ⟨rfl, hb2⟩
    have z2 := hb2.size
    have B2 : Below w.heap.size w w2 := BB.trans (hb2.mono BB.size)
    have X2 : SBox w2 w.heap.size wd now given births (.slice a ks.length ac) (.slice p ps.length pc) (.slice l ls.length lc) := SBox.keep HXB.out hb2 (by omega)
    clear HC hb2 HXB HXA
    cases ok with
    | false =>
      have HN : Hid (¬ HoldOk wd now given births ks ps ls sum) := fun h => by have := hok.2 h.2; cases this
      clear hok X2
      go_wp2
      go_ret2
      refine ⟨_, _, w.heap.size, rfl, ?_, ?_, (fun g hg => by cases hg), Nat.le_refl _, B2⟩
      · unfold holdPA
        rw [if_neg HN.out]
        exact World.ownsRow_nil _ _ _ _
      · unfold holdLA
        rw [if_neg HN.out]
        exact World.ownsRow_nil _ _ _ _
    | true =>
    have HT : Hid (There ks sum) := hok.1 rfl
    have hss := HO.out.sz HT.out
    clear hok
    obtain ⟨W3, hW3⟩ : ∃ W3, W3 = (w2.alloc (.map #[] 0)).alloc (.cells #[.map (some w2.heap.size)] 93) := ⟨_, rfl⟩
    have b3 : Below w2.heap.size w2 W3 := by rw [hW3]; exact ((Below.refl _ _).alloc (Nat.le_refl _) _).alloc (by simp) _
    have z3 : W3.heap.size = w2.heap.size + 2 := by rw [hW3]; simp
    have M3 : KMapC W3 96 w2.heap.size 0 0 (fun _ => none) := by
      rw [hW3]
      exact (KMapC.new w2 96).keep ((Below.refl _ _).alloc (Nat.le_refl _) _) (by simp)
    have c3 : W3.cell? ⟨w2.heap.size + 1, 0, none⟩ = some (.map (some w2.heap.size)) := by rw [hW3]; simp [go_sem]
    have J3 : JCnt w2.heap.size (w2.heap.size + 1) [] W3 := ⟨0, 0, _, M3, Nat.le_refl _, MK.nil, c3, by omega⟩
    have X3 := X2.keep b3 (by omega)
    have B3 : Below w.heap.size w W3 := B2.trans (b3.mono B2.size)
    have HW3 : Hid _ := hW3
    have HX3 : Hid (SBox W3 w.heap.size wd now given births (.slice a ks.length ac) (.slice p ps.length pc) (.slice l ls.length lc)) := X3
    have HJ3 : Hid (JCnt w2.heap.size (w2.heap.size + 1) [] W3) := J3
    have bD : Below w.heap.size w W3.drew := B3.drew
    have kD : Below W3.heap.size W3 W3.drew := (Below.refl _ _).drew
    have hS0 := sb7 (X3.keep kD (by omega))
    obtain ⟨y0, y1, y2, y3, y4, y5, y6, y7⟩ := X2
    clear hW3 M3 c3 J3 X3
    go_upto_region 4 with fail
    rw [← HW3.out]
    clear HW3 y0 y1 y2 y3 y4 y5 y6 y7
    go_cut [32] (fun v wx => ∃ vs : List ByteArray, Hid (JCnt w2.heap.size (w2.heap.size + 1) vs wx ∧ (∀ s, s ∈ vs ↔ ReachE (upE ks) [sum] s) ∧ Vis W3.heap.size [w2.heap.size] W3 wx))
    case first =>
      go_region_held3 (fun w' => w'.cell? ⟨w.heap.size, 0, none⟩ = some (.int .i64 wd) ∧ w'.cell? ⟨w.heap.size, 1, none⟩ = some (.int .i64 now) ∧ w'.cell? ⟨w.heap.size, 2, none⟩ = some (.int .i64 given) ∧ w'.cell? ⟨w.heap.size, 3, none⟩ = some (.int .i64 births) ∧ w'.cell? ⟨w.heap.size, 4, none⟩ = some (.slice a ks.length ac) ∧ w'.cell? ⟨w.heap.size, 5, none⟩ = some (.slice p ps.length pc) ∧ w'.cell? ⟨w.heap.size, 6, none⟩ = some (.slice l ls.length lc))
        (first | exact hS0 | exact hS4 | exact hS5 | exact hS6 | exact hS7 | exact hS8 | exact hS9)
        (first
          | (go_at_call 49; refine (shelfOf_any wd now given births a ac _ _ ks W3.drew (KRow.mono (KRow.below HR.out.k bD) bD.size) (by omega) HO.out.sum h8).mono ?_; rintro e w4 ⟨m, fm, rfl, hmge, hM, hH, hb4⟩; have k4 : Below W3.heap.size W3 w4 := kD.trans (hb4.mono (Nat.le_refl _)); have hS4 := sb7 (SBox.keep HX3.out k4 (by omega)))
          | (go_at_call 71; refine (key_out sum w4).mono ?_; rintro e w5 ⟨rfl, hb5⟩; have k5 : Below W3.heap.size W3 w5 := k4.trans (hb5.mono k4.size); have hS5 := sb7 (SBox.keep HX3.out k5 (by omega)); have k6 : Below W3.heap.size W3 (w5.alloc (oneK sum)) := k5.alloc k5.size _; have hS6 := sb7 (SBox.keep HX3.out k6 (by omega)); have q6 : Below w4.heap.size w4 (w5.alloc (oneK sum)) := hb5.alloc hb5.size _; have z45 := k5.size)
          | (go_at_call 76; refine (linksUp_any wd now given births a ac _ _ ks (w5.alloc (oneK sum)) (KRow.mono (KRow.below HR.out.k (B3.trans (k6.mono B3.size))) (B3.trans (k6.mono B3.size)).size) hnk HO.out.r30 HO.out.sum HO.out.rsz h8).mono ?_; rintro e w7 ⟨lb, ln, fl, rfl, hlb, hL, hb7⟩; have k7 : Below W3.heap.size W3 w7 := k6.trans (hb7.mono k6.size); have hS7 := sb7 (SBox.keep HX3.out k7 (by omega)); have q7 := q6.trans (hb7.mono q6.size); have hlb' : W3.heap.size < lb := (by simp at hlb; omega))
          | (go_at_call 76; refine (linksUp_any wd now given births a ac _ _ ks w5 (KRow.mono (KRow.below HR.out.k (B3.trans (k5.mono B3.size))) (B3.trans (k5.mono B3.size)).size) hnk HO.out.r30 HO.out.sum HO.out.rsz h8).mono ?_; rintro e w7 ⟨lb, ln, fl, rfl, hlb, hL, hb7⟩; have k7 : Below W3.heap.size W3 w7 := k5.trans (hb7.mono k5.size); have hS7 := sb7 (SBox.keep HX3.out k7 (by omega)); have q8 : Below w4.heap.size w4 (w7.alloc (oneK sum)) := (hb5.trans (hb7.mono hb5.size)).alloc (hb5.trans (hb7.mono hb5.size)).size _; have k8 : Below W3.heap.size W3 (w7.alloc (oneK sum)) := k7.alloc k7.size _; have hS9 := sb7 (SBox.keep HX3.out k8 (by omega)); have hL8 : Lk (w7.alloc (oneK sum)) (lb + 1) lb ln wd (upE ks) [] fl := hL.keep ((Below.refl _ _).alloc (Nat.le_refl _) _); have hlb' : W3.heap.size < lb := (by omega))
          | (go_at_call 75; refine (walk_any 77 (.pointer (some ⟨w2.heap.size + 1, 0, none⟩)) egHold wd m ks.length fm ks W3.drew W3.drew.heap.size (.slice (some ⟨w5.heap.size, 0, none⟩) 1 1) [sum] (lb + 1) lb ln (upE ks) fl [w2.heap.size] (JCnt w2.heap.size (w2.heap.size + 1)) w7 (hM.keep q7 hM.lt) hH (R8.mono (R8.below (R8.one w5 sum) (hb7.mono (by simp))) (by have := hb7.size; simp at this; omega)) hL (fun h => by simp at h; have := kD.size; omega) (fun h => by simp at h; omega) (fun t ht g hg h => by simp at h; have := ((hL.row t ht).blk hg).1; omega) hnk (by simp) hdl h8 (fun s hs => by simp at hs; rw [hs]; exact hss) (fun p hp => HO.out.sz (HO.out.up hp)) (fun s hs => by simp at hs; rw [hs]; exact HT.out) (fun p hp => HO.out.up hp) (jcnt_keep HJ3.out k7) (jcnt_abides _ _ _ (by have := k7.size; omega) (by have := k7.size; omega)) (fun vs W u ra rc h1 h2 h3 h4 => visitHold_any _ _ _ vs W u ra rc (by have := k7.size; omega) (by have := k7.size; omega) h4 h1 h3)).mono ?_; rintro e w8 ⟨vs, ⟨rv, rfl⟩, hJ8, hnd, hiff, hV8⟩; have V8 : Vis W3.heap.size [w2.heap.size] W3 w8 := vis_all k7 hV8; have HF : Hid _ := And.intro hJ8 (And.intro hiff V8); have hS8 := sb7 (SBox.same HX3.out (V8.old w.heap.size (by omega) (by simp; omega))))
          | (go_at_call 75; refine (walk_any 77 (.pointer (some ⟨w2.heap.size + 1, 0, none⟩)) egHold wd m ks.length fm ks W3.drew W3.drew.heap.size (.slice (some ⟨w7.heap.size, 0, none⟩) 1 1) [sum] (lb + 1) lb ln (upE ks) fl [w2.heap.size] (JCnt w2.heap.size (w2.heap.size + 1)) (w7.alloc (oneK sum)) (hM.keep q8 hM.lt) hH (R8.mono (R8.one w7 sum) (by simp)) hL8 (fun h => by simp at h; have := kD.size; omega) (fun h => by simp at h; omega) (fun t ht g hg h => by simp at h; have := ((hL8.row t ht).blk hg).1; omega) hnk (by simp) hdl h8 (fun s hs => by simp at hs; rw [hs]; exact hss) (fun p hp => HO.out.sz (HO.out.up hp)) (fun s hs => by simp at hs; rw [hs]; exact HT.out) (fun p hp => HO.out.up hp) (jcnt_keep HJ3.out k8) (jcnt_abides _ _ _ (by have := k8.size; omega) (by have := k8.size; omega)) (fun vs W u ra rc h1 h2 h3 h4 => visitHold_any _ _ _ vs W u ra rc (by have := k8.size; omega) (by have := k8.size; omega) h4 h1 h3)).mono ?_; rintro e w8 ⟨vs, ⟨rv, rfl⟩, hJ8, hnd, hiff, hV8⟩; have V8 : Vis W3.heap.size [w2.heap.size] W3 w8 := vis_all k8 hV8; have HF : Hid _ := And.intro hJ8 (And.intro hiff V8); have hS8 := sb7 (SBox.same HX3.out (V8.old w.heap.size (by omega) (by simp; omega)))))
      all_goals
        clear hM hH hL hb4 hb5 hb7 k4 k5 k6 k7 q6 hS4 hS5 hS6 hS7 hS8 hJ8 hiff hV8 V8
        go_wp2_with fail
        go_meet
        exact ⟨vs, HF⟩
    case rest =>
    revert wc
    intro w5 hcut
    obtain ⟨vs, HV⟩ := hcut
    clear hS0 kD bD HJ3
    have hV5 := HV.out.2.2
    have z5 := hV5.size
    have X5 : SBox w5 w.heap.size wd now given births (.slice a ks.length ac) (.slice p ps.length pc) (.slice l ls.length lc) := SBox.same HX3.out (hV5.old _ (by omega) (by simp; omega))
    have B5 : Below w.heap.size w w5 := ⟨hV5.os.trans B3.os, hV5.tape.trans B3.tape, hV5.output.trans B3.output, Nat.le_trans B3.size hV5.size, fun q hq => (hV5.old q (by omega) (by simp; omega)).trans (B3.block q hq)⟩
    obtain ⟨mn, mc, mf, m1, m2, m3, m4, m5⟩ := HV.out.1
    have HMK : Hid _ := And.intro m1 (And.intro m3 m4)
    have hcl : w2.heap.size + 1 < w5.heap.size := by omega
    have hll : w2.heap.size < w5.heap.size := by omega
    have HLK : Hid (∀ x : ByteArray, There ks x → ∃ nn : Int, 0 ≤ nn ∧ (0 < nn ↔ Reach ks [x] sum) ∧ ∀ w8 : World, Below w5.heap.size w5 w8 → (Instr.lookup 93 (.map (some w2.heap.size)) (keyV x) false).run Try.prog w8 = .ok (.int .i64 nn) w8) := by
      intro x hx
      obtain ⟨nn, hn, hn0, hn1, hn2⟩ := HMK.out.2.1.get (keyL x)
      refine ⟨nn, hn0, ?_, fun w8 k58 => ?_⟩
      · rw [hn2, ← reach_up, ← HV.out.2.1]
        have hxs := HO.out.sz hx
        constructor
        · intro h
          obtain ⟨y, hy, e⟩ := List.mem_map.1 h
          have hyr := (HV.out.2.1 y).1 hy
          have hys := HO.out.sz (reach_there (ks := ks) (fun s hs => by simp at hs; rw [hs]; exact HT.out) (fun p hp => HO.out.up hp) hyr)
          exact key_inj e (by omega) (by omega) ▸ hy
        · intro h
          exact List.mem_map.2 ⟨x, h, rfl⟩
      · have hl8 := (HMK.out.1.map.keep k58 hll).look keyed Try.underlying93 (zeroInt w8) (key_lit x)
        rw [hn] at hl8
        exact hl8
    have HX5 : Hid (SBox w5 w.heap.size wd now given births (.slice a ks.length ac) (.slice p ps.length pc) (.slice l ls.length lc)) := X5
    have HC5 : Hid (w5.cell? ⟨w2.heap.size + 1, 0, none⟩ = some (.map (some w2.heap.size))) := m4
    obtain ⟨x0, x1, x2, x3, x4, x5, x6, x7⟩ := X5
    clear hV5 m1 m2 m3 m4 m5 HMK HX3 HV
    go_wp2
    go_loopw [7, 36] (fun v i wr => ∃ (k : Nat), k ≤ ps.length ∧ i = .int .i64 k ∧ Hid (wr.ownsRow w5.heap.size 9 1 v (holdP ks (ps.take k) sum).length ((holdP ks (ps.take k) sum).map Value.string)) ∧ Below w5.heap.size w5 wr) (fun _ i _ => ps.length - (intOf i).toNat)
    case atStart => exact ⟨0, Nat.zero_le _, rfl, World.ownsRow_nil _ _ _ _, Below.refl _ _⟩
    case round =>
      rename World => w6
      clear x0 x1 x2 x3 x4 x5 x6 x7
      obtain ⟨k, hkk, rfl, HOw, hbel⟩ := hrel
      have hB56 : Below w5.heap.size w5 w6 := hbel
      have B6 : Below w.heap.size w w6 := B5.trans (hB56.mono B5.size)
      have z6 := hB56.size
      have z6' := hbel.size
      by_cases hlt : k < ps.length
      · obtain ⟨b, off, ha, hb, hc⟩ := (PRow.below HR.out.p B6).at hlt
        subst ha
        have HG : Hid (ps[k]? = some ps[k]) := List.getElem?_eq_getElem hlt
        obtain ⟨c0, c1⟩ := hc k _ HG.out
        have HTh : Hid (There ks ps[k].sum) := HO.out.pin _ (List.getElem_mem hlt)
        have hbr : b < w6.heap.size := by have := B6.size; omega
        clear hc
        generalize ps[k] = x at *
        obtain ⟨nn, hn0, hnn, hlook⟩ := HLK.out x.sum HTh.out
        have HNN : Hid _ := hnn
        have HLo : Hid _ := hlook
        have hwl := holdP_len ks (ps.take k) sum
        have hwl2 : (ps.take k).length ≤ 600 := by simp; omega
        obtain ⟨W7, hW7⟩ : ∃ W7, W7 = w6.alloc (.cells #[.string x.name, .string x.sum] 67) := ⟨_, rfl⟩
        have b7 : Below w6.heap.size w6 W7 := by rw [hW7]; exact (Below.refl _ _).alloc (Nat.le_refl _) _
        have n7 : W7.cell? ⟨w6.heap.size, 0, none⟩ = some (.string x.name) := by rw [hW7]; simp [go_sem]
        have s7 : W7.cell? ⟨w6.heap.size, 1, none⟩ = some (.string x.sum) := by rw [hW7]; simp [go_sem]
        have z7 : W7.heap.size = w6.heap.size + 1 := by rw [hW7]; simp
        have k57 : Below w5.heap.size w5 W7 := hB56.trans (b7.mono hB56.size)
        have kb7 : Below w5.heap.size w5 W7 := hbel.trans (b7.mono hbel.size)
        have m7 : W7.cell? ⟨w2.heap.size + 1, 0, none⟩ = some (.map (some w2.heap.size)) := (k57.cell (p := ⟨w2.heap.size + 1, 0, none⟩) hcl).trans HC5.out
        have HW7 : Hid _ := hW7
        have hS0 : W7.drew.cell? ⟨w2.heap.size + 1, 0, none⟩ = some (.map (some w2.heap.size)) ∧ W7.drew.cell? ⟨w6.heap.size, 1, none⟩ = some (.string x.sum) := ⟨m7, s7⟩
        have O7 : Hid (W7.ownsRow w5.heap.size 9 1 u7 (holdP ks (ps.take k) sum).length ((holdP ks (ps.take k) sum).map Value.string)) := World.ownsRow.kept HOw.out (grown_below none b7) (Classical.em _)
        obtain ⟨x0, x1, x2, x3, x4, x5, x6, x7⟩ := SBox.keep HX5.out hB56 (by omega)
        clear hW7 hlook hnn
        go_upto_region 9 with fail
        rw [← HW7.out]
        clear HW7 c0 c1 x0 x1 x2 x3 x4 x5 x6 x7
        go_cut [45] (fun v wx => v = .bool (decide (0 < nn)) ∧ Hid (Below W7.heap.size W7 wx))
        case first =>
          go_region_held3 (fun w' => w'.cell? ⟨w2.heap.size + 1, 0, none⟩ = some (.map (some w2.heap.size)) ∧ w'.cell? ⟨w6.heap.size, 1, none⟩ = some (.string x.sum))
            (first | exact hS0 | exact hS8)
            (first
              | (go_at_call 71; refine (key_any x.sum W7.drew).mono ?_; rintro e w8 ⟨rfl, hb8⟩; have k8 : Below W7.heap.size W7 w8 := (Below.refl _ _).drew.trans (hb8.mono (Nat.le_refl _)); have hl8 := HLo.out w8 (k57.trans (k8.mono k57.size)); have hS8 : w8.cell? ⟨w2.heap.size + 1, 0, none⟩ = some (.map (some w2.heap.size)) ∧ w8.cell? ⟨w6.heap.size, 1, none⟩ = some (.string x.sum) := ⟨(k8.cell (p := ⟨w2.heap.size + 1, 0, none⟩) (by simp; omega)).trans m7, (k8.cell (p := ⟨w6.heap.size, 1, none⟩) (by simp; omega)).trans s7⟩))
          all_goals
            go_wp2_with fail
            go_meet
            exact ⟨rfl, k8⟩
        case rest =>
        revert wc
        intro w8 hcut
        obtain ⟨rfl, K8⟩ := hcut
        have k8 := K8.out
        have n8 : w8.cell? ⟨w6.heap.size, 0, none⟩ = some (.string x.name) := (k8.cell (p := ⟨w6.heap.size, 0, none⟩) (by simp; omega)).trans n7
        have O8 : w8.ownsRow w5.heap.size 9 1 u7 (holdP ks (ps.take k) sum).length ((holdP ks (ps.take k) sum).map Value.string) := World.ownsRow.kept O7.out (grown_below none k8) (Classical.em _)
        have B8 : Below w5.heap.size w5 w8 := kb7.trans (k8.mono kb7.size)
        have z8 := k8.size
        clear hS0 O7 K8 k57 kb7 b7 s7 n7 m7
        by_cases h0 : 0 < nn
        · have hd : decide (0 < nn) = true := by simpa using h0
          have HE : Hid _ := holdP_yes (ks := ks) (s := sum) HG.out (HNN.out.1 h0)
          have HO8 : Hid _ := O8
          clear O8
          go_wp2_with (first
            | (at_builtin; refine wpList_append_own _ rfl _ _ 38 rfl w5.heap.size 9 i0 (.string ⟨#[]⟩) 1 16 Try.underlying38 hi hz0 hz1 hz2 rfl (by decide) _ (holdP ks (ps.take k) sum).length ((holdP ks (ps.take k) sum).map Value.string) rfl ?d0 ⟨w8.heap.size, 0, none⟩ 1 1 [.string x.name] rfl rfl ?d1 ?d2 ?d3 ?d4 ?d5 ?_)
            | go_in)
          case d0 => exact World.ownsRow.alloc HO8.out _
          case d1 => exact cell_one_new _ _ _
          case d2 => intro u hu; simp at hu; subst hu; rfl
          case d3 => unfold maxLen; omega
          case d4 => omega
          case d5 => simp; omega
          intro v' w9 hown' hgrow _
          have hb9 : Below w5.heap.size w5 w9 := (B8.alloc B8.size _).grown hgrow (by simp; omega) (fun q hq => (World.ownsRow.lt HO8.out q hq).1)
          have HN9 : Hid (w9.ownsRow w5.heap.size 9 1 v' (holdP ks (ps.take (k + 1)) sum).length ((holdP ks (ps.take (k + 1)) sum).map Value.string)) := by
            rw [HE.out, List.length_append, List.map_append]
            exact hown'
          clear hown' hgrow
          go_wp2
          exact ⟨⟨k + 1, by omega, by go_num, HN9, hb9⟩, by simp [intOf]; omega⟩
        · have hd : decide (0 < nn) = false := by simpa using h0
          have HE : Hid _ := holdP_no (ks := ks) (s := sum) HG.out (fun h => h0 (HNN.out.2 h))
          have HN9 : Hid (w8.ownsRow w5.heap.size 9 1 u7 (holdP ks (ps.take (k + 1)) sum).length ((holdP ks (ps.take (k + 1)) sum).map Value.string)) := by
            rw [HE.out]
            exact O8
          clear O8
          go_wp2
          exact ⟨⟨k + 1, by omega, by go_num, HN9, B8⟩, by simp [intOf]; omega⟩
      · rw [List.take_of_length_le (by omega)] at HOw
        have HOp : Hid (w6.ownsRow w5.heap.size 9 1 u7 (holdP ks ps sum).length ((holdP ks ps sum).map Value.string)) := HOw
        have hpb : ∀ g, u7.ownBlock = some g → g < w6.heap.size := fun g hg => (World.ownsRow.lt HOw.out g hg).2
        obtain ⟨x0, x1, x2, x3, x4, x5, x6, x7⟩ := SBox.keep HX5.out hB56 (by omega)
        clear HOw hbel z6'
        go_wp2
        go_loopw [10, 55] (fun v i wr => ∃ (k : Nat), k ≤ ls.length ∧ i = .int .i64 k ∧ Hid (wr.ownsRow w6.heap.size 3 1 v (holdL ks (ls.take k) sum).length ((holdL ks (ls.take k) sum).map (Value.int .i64))) ∧ Below w6.heap.size w6 wr) (fun _ i _ => ls.length - (intOf i).toNat)
        case atStart => exact ⟨0, Nat.zero_le _, rfl, World.ownsRow_nil _ _ _ _, Below.refl _ _⟩
        case round =>
          rename World => wl
          clear x0 x1 x2 x3 x4 x5 x6 x7
          obtain ⟨k, hkk, rfl, HOl, hbel⟩ := hrel
          have hB5l : Below w5.heap.size w5 wl := hB56.trans (hbel.mono hB56.size)
          have B6l : Below w.heap.size w wl := B5.trans (hB5l.mono B5.size)
          have z6l := hB5l.size
          have z6' := hbel.size
          by_cases hlt : k < ls.length
          · obtain ⟨b, off, ha, hb, hc⟩ := (LRow.below HR.out.l B6l).at hlt
            subst ha
            have HG : Hid (ls[k]? = some ls[k]) := List.getElem?_eq_getElem hlt
            obtain ⟨c0, c1, c2⟩ := hc k _ HG.out
            have HTh : Hid (There ks ls[k].sum) := HO.out.lease _ (List.getElem_mem hlt)
            have hbr : b < wl.heap.size := by have := B6l.size; omega
            clear hc
            generalize ls[k] = x at *
            obtain ⟨nn, hn0, hnn, hlook⟩ := HLK.out x.sum HTh.out
            have HNN : Hid _ := hnn
            have HLo : Hid _ := hlook
            have hwl := holdL_len ks (ls.take k) sum
            have hwl2 : (ls.take k).length ≤ 600 := by simp; omega
            obtain ⟨W7, hW7⟩ : ∃ W7, W7 = wl.alloc (.cells #[.int .i64 x.num, .string x.sum, .int .i64 x.til] 70) := ⟨_, rfl⟩
            have b7 : Below wl.heap.size wl W7 := by rw [hW7]; exact (Below.refl _ _).alloc (Nat.le_refl _) _
            have n7 : W7.cell? ⟨wl.heap.size, 0, none⟩ = some (.int .i64 x.num) := by rw [hW7]; simp [go_sem]
            have s7 : W7.cell? ⟨wl.heap.size, 1, none⟩ = some (.string x.sum) := by rw [hW7]; simp [go_sem]
            have z7 : W7.heap.size = wl.heap.size + 1 := by rw [hW7]; simp
            have k57 : Below w5.heap.size w5 W7 := hB5l.trans (b7.mono hB5l.size)
            have kb7 : Below w6.heap.size w6 W7 := hbel.trans (b7.mono hbel.size)
            have m7 : W7.cell? ⟨w2.heap.size + 1, 0, none⟩ = some (.map (some w2.heap.size)) := (k57.cell (p := ⟨w2.heap.size + 1, 0, none⟩) hcl).trans HC5.out
            have HW7 : Hid _ := hW7
            have hS0 : W7.drew.cell? ⟨w2.heap.size + 1, 0, none⟩ = some (.map (some w2.heap.size)) ∧ W7.drew.cell? ⟨wl.heap.size, 1, none⟩ = some (.string x.sum) := ⟨m7, s7⟩
            have O7 : Hid (W7.ownsRow w6.heap.size 3 1 u10 (holdL ks (ls.take k) sum).length ((holdL ks (ls.take k) sum).map (Value.int .i64))) := World.ownsRow.kept HOl.out (grown_below none b7) (Classical.em _)
            obtain ⟨x0, x1, x2, x3, x4, x5, x6, x7⟩ := SBox.keep HX5.out hB5l (by omega)
            clear hW7 hlook hnn
            go_upto_region 16 with fail
            rw [← HW7.out]
            clear HW7 c0 c1 c2 x0 x1 x2 x3 x4 x5 x6 x7
            go_cut [64] (fun v wx => v = .bool (decide (0 < nn)) ∧ Hid (Below W7.heap.size W7 wx))
            case first =>
              go_region_held3 (fun w' => w'.cell? ⟨w2.heap.size + 1, 0, none⟩ = some (.map (some w2.heap.size)) ∧ w'.cell? ⟨wl.heap.size, 1, none⟩ = some (.string x.sum))
                (first | exact hS0 | exact hS8)
                (first
                  | (go_at_call 71; refine (key_any x.sum W7.drew).mono ?_; rintro e w8 ⟨rfl, hb8⟩; have k8 : Below W7.heap.size W7 w8 := (Below.refl _ _).drew.trans (hb8.mono (Nat.le_refl _)); have hl8 := HLo.out w8 (k57.trans (k8.mono k57.size)); have hS8 : w8.cell? ⟨w2.heap.size + 1, 0, none⟩ = some (.map (some w2.heap.size)) ∧ w8.cell? ⟨wl.heap.size, 1, none⟩ = some (.string x.sum) := ⟨(k8.cell (p := ⟨w2.heap.size + 1, 0, none⟩) (by simp; omega)).trans m7, (k8.cell (p := ⟨wl.heap.size, 1, none⟩) (by simp; omega)).trans s7⟩))
              all_goals
                go_wp2_with fail
                go_meet
                exact ⟨rfl, k8⟩
            case rest =>
            revert wc
            intro w8 hcut
            obtain ⟨rfl, K8⟩ := hcut
            have k8 := K8.out
            have n8 : w8.cell? ⟨wl.heap.size, 0, none⟩ = some (.int .i64 x.num) := (k8.cell (p := ⟨wl.heap.size, 0, none⟩) (by simp; omega)).trans n7
            have O8 : w8.ownsRow w6.heap.size 3 1 u10 (holdL ks (ls.take k) sum).length ((holdL ks (ls.take k) sum).map (Value.int .i64)) := World.ownsRow.kept O7.out (grown_below none k8) (Classical.em _)
            have B8 : Below w6.heap.size w6 w8 := kb7.trans (k8.mono kb7.size)
            have z8 := k8.size
            clear hS0 O7 K8 k57 kb7 b7 s7 n7 m7
            by_cases h0 : 0 < nn
            · have hd : decide (0 < nn) = true := by simpa using h0
              have HE : Hid _ := holdL_yes (ks := ks) (s := sum) HG.out (HNN.out.1 h0)
              have HO8 : Hid _ := O8
              clear O8
              go_wp2_with (first
                | (at_builtin; refine wpList_append_own _ rfl _ _ 54 rfl w6.heap.size 3 i1 (.int .i64 0) 1 8 Try.underlying54 hi' hy0 hy1 hy2 rfl (by decide) _ (holdL ks (ls.take k) sum).length ((holdL ks (ls.take k) sum).map (Value.int .i64)) rfl ?d0 ⟨w8.heap.size, 0, none⟩ 1 1 [.int .i64 x.num] rfl rfl ?d1 ?d2 ?d3 ?d4 ?d5 ?_)
                | go_in)
              case d0 => exact World.ownsRow.alloc HO8.out _
              case d1 => exact cell_one_new _ _ _
              case d2 => intro u hu; simp at hu; subst hu; rfl
              case d3 => unfold maxLen; omega
              case d4 => omega
              case d5 => simp; omega
              intro v' w9 hown' hgrow _
              have hb9 : Below w6.heap.size w6 w9 := (B8.alloc B8.size _).grown hgrow (by simp; omega) (fun q hq => (World.ownsRow.lt HO8.out q hq).1)
              have HN9 : Hid (w9.ownsRow w6.heap.size 3 1 v' (holdL ks (ls.take (k + 1)) sum).length ((holdL ks (ls.take (k + 1)) sum).map (Value.int .i64))) := by
                rw [HE.out, List.length_append, List.map_append]
                exact hown'
              clear hown' hgrow
              go_wp2
              exact ⟨⟨k + 1, by omega, by go_num, HN9, hb9⟩, by simp [intOf]; omega⟩
            · have hd : decide (0 < nn) = false := by simpa using h0
              have HE : Hid _ := holdL_no (ks := ks) (s := sum) HG.out (fun h => h0 (HNN.out.2 h))
              have HN9 : Hid (w8.ownsRow w6.heap.size 3 1 u10 (holdL ks (ls.take (k + 1)) sum).length ((holdL ks (ls.take (k + 1)) sum).map (Value.int .i64))) := by
                rw [HE.out]
                exact O8
              clear O8
              go_wp2
              exact ⟨⟨k + 1, by omega, by go_num, HN9, B8⟩, by simp [intOf]; omega⟩
          · rw [List.take_of_length_le (by omega)] at HOl
            go_wp2
            go_ret2
            refine ⟨_, _, w6.heap.size, rfl, ?_, ?_, hpb, by omega, B6l⟩
            · unfold holdPA
              rw [if_pos ⟨HP.out, HT.out⟩]
              exact World.ownsRow.mono (World.ownsRow.kept HOp.out (grown_below none hbel) (Classical.em _)) (by omega)
            · unfold holdLA
              rw [if_pos ⟨HP.out, HT.out⟩]
              exact HOl.out

end Go.Proofs.Ytbelneejghdmoaa
