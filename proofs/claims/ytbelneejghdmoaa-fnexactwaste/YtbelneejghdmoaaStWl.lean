/-
  impl.walk: the loop.
-/
import Derived.Test.YtbelneejghdmoaaStWk
import Derived.RegionTactic
namespace Go.Proofs.Ytbelneejghdmoaa
open Go.ChangeShapes Go.WideShapes Go.ChangeAt Go.RowKit
attribute [local go_sem ↓] Go.wp_at_zero Go.wp_at_succ

theorem QRow.nil0 (w : World) (base : Nat) (h : base ≤ w.heap.size) : QRow (w.alloc (.cells #[] 96)) base (.slice (some ⟨w.heap.size, 0, none⟩) 0 0) [] :=
  .inr ⟨w.heap.size, 0, 0, rfl, h, ⟨_, _, heap_alloc_new w _⟩, Nat.le_refl _, Nat.zero_le _, fun j hj => by omega, fun i s hs => by simp at hs⟩

theorem QRow.tail1 {w : World} {base g off : Nat} {s : ByteArray} {Q : List ByteArray} (h : QRow w base (.slice (some ⟨g, off, none⟩) (s :: Q).length 1) (s :: Q)) : Q = [] ∧ QRow w base (.slice (some ⟨g, off, none⟩) 0 0) [] := by
  rcases h with ⟨hv, _⟩ | ⟨g', off', cap', hv, h1, hg, h2, h3, h4, hc⟩
  · cases hv
  · cases hv
    simp at h2
    refine ⟨by simpa using h2, .inr ⟨g, off, 0, rfl, h1, hg, Nat.le_refl _, Nat.zero_le _, fun j hj => by omega, fun i s hs => by simp at hs⟩⟩

theorem QRow.tail {w : World} {base g off cap : Nat} {s : ByteArray} {Q : List ByteArray} (h : QRow w base (.slice (some ⟨g, off, none⟩) (s :: Q).length cap) (s :: Q)) : QRow w base (.slice (some ⟨g, off + 8, none⟩) Q.length (cap - 1)) Q := by
  rcases h with ⟨hv, _⟩ | ⟨g', off', cap', hv, h1, hg, h2, h3, h4, hc⟩
  · cases hv
  · cases hv
    simp at h2
    refine .inr ⟨g, off + 8, cap - 1, rfl, h1, hg, by omega, by omega, fun j hj => ?_, fun i t ht j hj => ?_⟩
    · have := h4 (8 + j) (by omega)
      rw [← Nat.add_assoc] at this
      exact this
    · have := hc (i + 1) t (by simpa using ht) j hj
      rw [show off + 8 + (i * 8 + j) = off + ((i + 1) * 8 + j) by omega]
      exact this

set_option maxRecDepth 20000 in
set_option maxHeartbeats 2000000 in
theorem clone8_any (v : Value) (fr : List ByteArray) (w : World) (hF : R8 w w.heap.size v fr) (hfl : fr.length ≤ 1000) :
    Calls Try.prog 105 #[v] w fun e w' => ∃ v', e = .returned v' ∧ QRow w' w.heap.size v' fr ∧ Below w.heap.size w w' := by
  have h0 := hF
  rcases hF with ⟨rfl, rfl⟩ | ⟨g, off, cap, rfl, hg, hc⟩
  · have hnil : ∀ u : World, (binOp .eql 102 (.slice none 0 0) (.slice none 0 0)).run Try.prog u = .ok (.bool true) u := fun _ => by first | rfl | kernel_rfl
    go_enter Try.func105, Try.ntmps105
    go_wp2
    go_ret
    exact ⟨_, rfl, .inl ⟨rfl, rfl⟩, Below.refl _ _⟩
  · have hA : Below w.heap.size w (w.alloc (.cells #[] 96)) := (Below.refl _ _).alloc (Nat.le_refl _) _
    have hnil : ∀ u : World, (binOp .eql 102 (.slice (some ⟨g, off, none⟩) fr.length cap) (.slice none 0 0)).run Try.prog u = .ok (.bool false) u := fun _ => by first | rfl | kernel_rfl
    obtain ⟨v', w2, hr, hq, hg2, _⟩ := qappend (w.alloc (.cells #[] 96)) w.heap.size _ [] (QRow.nil0 w _ (Nat.le_refl _)) _ fr _ (h0.below hA) (by simp; omega) (by simp) 102
    have hB : Below w.heap.size w w2 := hA.grown hg2 (by simp) (fun k hk => by cases hk; exact Nat.le_refl _)
    have HF : Hid _ := And.intro hq hB
    clear hq hg2 hB hA h0 hc
    go_enter Try.func105, Try.ntmps105
    go_wp2_with (first
      | (at_builtin; refine wpList_append_run rfl _ _ _ _ rfl rfl rfl hr ?_)
      | go_in)
    go_ret
    exact ⟨_, rfl, by simpa using HF.out.1, HF.out.2⟩

theorem map_obj {w : World} {K : TypeId} {b n c : Nat} {f : Lit → Option Value} (h : KMapC w K b n c f) : ∃ o, w.heap[b]? = some o ∧ notStr o = true := by
  obtain ⟨D, ⟨es, clock, h1, _⟩, _⟩ := h
  exact ⟨_, h1, rfl⟩

theorem KMapC.same {w w' : World} {K : TypeId} {b n c : Nat} {f : Lit → Option Value} (h : KMapC w K b n c f) (hb : w'.heap[b]? = w.heap[b]?) : KMapC w' K b n c f := by
  obtain ⟨D, ⟨es, clock, h1, h2⟩, h3⟩ := h
  exact ⟨D, ⟨es, clock, hb.trans h1, h2⟩, h3⟩

theorem KBlk.not {w : World} {g : Nat} (h : KBlk w g) : ∃ o, w.heap[g]? = some o ∧ notStr o = true := by
  obtain ⟨c, f, h⟩ := h
  exact ⟨_, h, rfl⟩

theorem QRow.kblk {w : World} {base : Nat} {v : Value} {ss : List ByteArray} (h : QRow w base v ss) {g : Nat} (hg : sBlk v = some g) : KBlk w g := by
  rcases h with ⟨rfl, _⟩ | ⟨g', off, cap, rfl, _, h2, _⟩
  · cases hg
  · cases hg; exact h2

theorem QRow.vis {w w' : World} {n0 base : Nat} {V : List Nat} {v : Value} {ss : List ByteArray} (h : QRow w base v ss) (hv : Vis n0 V w w') (hb : n0 ≤ base) : QRow w' base v ss :=
  h.stays hv.size (fun g hg => by
    obtain ⟨o, ho, hn⟩ := (h.kblk hg).not
    rw [hv.own g o (by have := (h.blk hg).1; omega) ho hn, ho])

theorem vis_below {n0 : Nat} {V : List Nat} {W W' : World} (h : Below W.heap.size W W') (hn : n0 ≤ W.heap.size) : Vis n0 V W W' :=
  ⟨h.os, h.tape, h.output, h.size, fun q hq _ => h.block q (by omega), fun q o _ ho _ => (h.block q (Array.getElem?_eq_some_iff.1 ho).1).trans ho⟩

theorem reach_size {E : List (ByteArray × ByteArray)} {fr : List ByteArray} {wd : Int} (hf : ∀ s ∈ fr, (s.size : Int) = wd) (hE : ∀ p ∈ E, (p.2.size : Int) = wd) {s : ByteArray} (h : ReachE E fr s) : (s.size : Int) = wd := by
  cases h with
  | here hx => exact hf _ hx
  | step _ hx =>
    unfold linkL at hx
    rw [List.mem_filterMap] at hx
    obtain ⟨p, hp, e⟩ := hx
    split at e
    · cases e; exact hE p hp
    · cases e

theorem Vis.after {V : List Nat} {w X Y : World} (h : Vis w.heap.size V w X) (hb : Below w.heap.size X Y) : Vis w.heap.size V w Y :=
  ⟨hb.os.trans h.os, hb.tape.trans h.tape, hb.output.trans h.output, Nat.le_trans h.size hb.size, fun q hq hv => (hb.block q hq).trans (h.old q hq hv), fun q o hq ho _ => by have := (Array.getElem?_eq_some_iff.1 ho).1; omega⟩

theorem Abides.grownO {n0 : Nat} {J : List ByteArray → World → Prop} (h : Abides n0 J) {vs : List ByteArray} {W W' : World} {row : Option Nat} (hj : J vs W) (hg : W.grownBy W' row) (hn : n0 ≤ W.heap.size) (hb : ∀ b, row = some b → n0 ≤ b ∧ ∃ o, W.heap[b]? = some o ∧ notStr o = true) : J vs W' :=
  h vs W W' hj hg.os hg.tape hg.output hg.size (fun q hq => hg.block q (by omega) (fun e => by have := (hb q e.symm).1; omega)) (fun q o _ hq hs => by
    refine (hg.block q (Array.getElem?_eq_some_iff.1 hq).1 (fun e => ?_)).trans hq
    obtain ⟨_, o', ho', hn'⟩ := hb q e.symm
    rw [hq] at ho'
    cases ho'
    rw [hn'] at hs
    cases hs)

/-- What a walk has done. -/
structure Walked (E : List (ByteArray × ByteArray)) (fr : List ByteArray) (J : List ByteArray → World → Prop) (V : List Nat) (w : World) (e : Ending) (w' : World) : Prop where
  ex : ∃ vs, (∃ v, e = .returned v) ∧ J vs w' ∧ vs.Nodup ∧ (∀ s, s ∈ vs ↔ ReachE E fr s) ∧ Vis w.heap.size V w w'

set_option maxRecDepth 20000 in
set_option maxHeartbeats 16000000 in
theorem walk_any (vf : FuncId) (cv : Value) (eg : ∀ args w, (callFunc vf args).run Try.prog w = .ok (.enter vf args) w) (wd : Int) (m nm : Nat) (fm : Lit → Option Value) (ks : List Kd) (W0 : World) (B0 : Nat) (fv : Value) (fr : List ByteArray) (base b n : Nat) (E : List (ByteArray × ByteArray)) (fl : Lit → Option Value) (V : List Nat) (J : List ByteArray → World → Prop) (w : World)
    (hM : KMap w 96 m nm fm) (hH : Holds W0 B0 wd ks fm) (hF : R8 w w.heap.size fv fr) (hL : Lk w base b n wd E [] fl)
    (hmV : m ∉ V) (hbV : b ∉ V) (hrV : ∀ t : ByteArray, (t.size : Int) = wd → ∀ g, sBlk (rowV fl t) = some g → g ∉ V)
    (hkl : ks.length ≤ 600) (hfl : fr.length ≤ 300) (hEl : E.length ≤ 18000) (h8 : wd ≤ 8) (hfs : ∀ s ∈ fr, (s.size : Int) = wd) (hEs : ∀ p ∈ E, (p.2.size : Int) = wd) (hft : ∀ s ∈ fr, There ks s) (hEt : ∀ p ∈ E, There ks p.2)
    (hJ0 : J [] w) (hA : Abides w.heap.size J)
    (hv : ∀ vs W u ra rc, vs.length < 600 → u ∈ ks → J vs W → w.heap.size ≤ W.heap.size → Calls Try.prog vf #[keptV u ra rc, cv] W fun e W' => (∃ v, e = .returned v) ∧ J (vs ++ [u.sum]) W' ∧ Vis w.heap.size V W W') :
    Calls Try.prog 75 #[.agg #[.int .i64 wd, .map (some m)], fv, .map (some b), .func (.func vf) #[] #[cv]] w fun e w' => Walked E fr J V w e w' := by
  have hmm := @run_makeMap Try.prog
  obtain ⟨W1, hW1⟩ : ∃ W, W = (w.alloc (.cells #[.int .i64 wd, .map (some m)] 76)).alloc (.map #[] 0) := ⟨_, rfl⟩
  have hz1 : W1.heap.size = w.heap.size + 2 := by rw [hW1]; simp
  have hB1 : Below w.heap.size w W1 := by rw [hW1]; exact ((Below.refl _ _).alloc (Nat.le_refl _) _).alloc (by simp) _
  have hM1 : KMapC W1 96 (w.heap.size + 1) 0 0 (fun _ => none) := by
    have := KMapC.new (w.alloc (.cells #[.int .i64 wd, .map (some m)] 76)) 96
    rw [World.size_alloc] at this
    rw [hW1]
    exact this
  have hX1 : W1.heap[w.heap.size]? = some (.cells #[.int .i64 wd, .map (some m)] 76) := by
    rw [hW1]
    exact (Below.heap_alloc _ _ _ (by simp)).trans (heap_alloc_new w _)
  have hF1 : R8 W1 w.heap.size fv fr := hF.below hB1
  have hJ1 : J [] W1 := hA.below hJ0 hB1 (Nat.le_refl _)
  have HP : Hid _ := And.intro hM (And.intro hH (And.intro hL (And.intro hmV (And.intro hbV hrV))))
  have HQ : Hid _ := And.intro hfs (And.intro hEs (And.intro hft hEt))
  have HV : Hid _ := And.intro hA hv
  have HI : Hid _ := And.intro hM1 (And.intro hX1 (And.intro hJ1 (And.intro hB1 hF1)))
  have HW1 : Hid _ := hW1
  clear hM hH hL hmV hbV hrV hfs hEs hft hEt hA hv hM1 hX1 hJ1 hB1 hF1 hJ0 hF hW1
  go_enter Try.func75, Try.ntmps75
  go_upto_region 2 with fail
  rw [← HW1.out]
  clear hmm HW1
  go_wp2_with fail
  refine (clone8_any fv fr W1 (HI.out.2.2.2.2.mono (by omega)) (by omega)).mono ?_
  rintro e w2 ⟨v2, rfl, hq2, hb2⟩
  have hz2 := hb2.size
  have C2 : KMapC w2 96 (w.heap.size + 1) 0 0 (fun _ => none) := HI.out.1.keep hb2 (by omega)
  have X2 : w2.heap[w.heap.size]? = some (.cells #[.int .i64 wd, .map (some m)] 76) := (hb2.block _ (by omega)).trans HI.out.2.1
  have J2 : J [] w2 := HV.out.1.below HI.out.2.2.1 hb2 (by omega)
  have B2 : Below w.heap.size w w2 := HI.out.2.2.2.1.trans (hb2.mono (by omega))
  have V2 : Vis w.heap.size V w w2 := ⟨B2.os, B2.tape, B2.output, B2.size, fun q hq _ => B2.block q hq, fun q o hq ho _ => by have := (Array.getElem?_eq_some_iff.1 ho).1; omega⟩
  have K2 : Wk ks E fr [] fr := ⟨List.nodup_nil, fun s hs => (by cases hs), fun s hs => .here hs, fun s hs => .inr hs, fun s hs => (by cases hs), fun s hs => (by cases hs)⟩
  have Q2 : QRow w2 (w.heap.size + 2) v2 fr := by
    rw [hz1] at hq2
    exact hq2
  have HS : Hid _ := And.intro C2 (And.intro X2 (And.intro J2 (And.intro V2 (And.intro K2 Q2))))
  clear C2 X2 J2 B2 V2 K2 Q2 hq2 hb2 HI hz2 hz1
  go_wp2
  go_loopg [9] 20000000 (fun k v wr => ∃ (vs Q : List ByteArray) (c cn : Nat) (g : Lit → Option Value), (601 - vs.length) * 20000 + Q.length ≤ k ∧ Q.length ≤ 300 + vs.length * 18000 ∧ vs.length ≤ 600 ∧ Hid (KMapC wr 96 (w.heap.size + 1) cn c g ∧ cn ≤ vs.length ∧ MK vs g c) ∧ Hid (wr.heap[w.heap.size]? = some (.cells #[.int .i64 wd, .map (some m)] 76)) ∧ Hid (J vs wr) ∧ Hid (Vis w.heap.size V w wr) ∧ Hid (Wk ks E fr vs Q) ∧ Hid (QRow wr (w.heap.size + 2) v Q) ∧ w.heap.size + 2 ≤ wr.heap.size)
  case atStart => exact ⟨[], fr, 0, 0, _, by simp; omega, by simp; omega, by simp, ⟨HS.out.1, Nat.le_refl _, MK.nil⟩, HS.out.2.1, HS.out.2.2.1, HS.out.2.2.2.1, HS.out.2.2.2.2.1, HS.out.2.2.2.2.2, by have := (Array.getElem?_eq_some_iff.1 HS.out.2.1).1; have := HS.out.1.lt; omega⟩
  case round =>
    clear HS
    obtain ⟨vs, Q, c, cn, g, hk, hQl, hvl, HC, HX, HJ, HVs, HK, HR, hzr⟩ := hrel
    cases Q with
    | nil =>
      have HF : Hid _ := And.intro HJ.out (And.intro HK.out.nd (And.intro (fun s => HK.out.done (s := s)) HVs.out))
      rcases HR.out with ⟨rfl, _⟩ | ⟨gq, off, cap, rfl, _⟩
      · go_wp2
        go_end0
        exact ⟨vs, ⟨_, rfl⟩, HF.out⟩
      · go_wp2
        go_end0
        exact ⟨vs, ⟨_, rfl⟩, HF.out⟩
    | cons s Q =>
      have HSZ : Hid (∀ {x : ByteArray}, ReachE E fr x → (x.size : Int) = wd) := fun {x} h => reach_size HQ.out.1 HQ.out.2.1 h
      have hsr : ReachE E fr s := HK.out.qr s (by simp)
      have hssz := HSZ.out hsr
      have hst : There ks s := reach_there HQ.out.2.2.1 HQ.out.2.2.2 hsr
      have HR0 := HR.out
      rcases HR0 with ⟨_, h⟩ | ⟨gq, off, cap, rfl, hbq, hkb, hlq, hcap, hth, hcs⟩
      · cases h
      have hgl := hkb.lt
      have d0 : wr.cell? ⟨gq, off, none⟩ = some (.int .u8 (kB s 0)) := by simpa using hcs 0 s rfl 0 (by omega)
      have d1 : wr.cell? ⟨gq, off + 1, none⟩ = some (.int .u8 (kB s 1)) := by simpa using hcs 0 s rfl 1 (by omega)
      have d2 : wr.cell? ⟨gq, off + 2, none⟩ = some (.int .u8 (kB s 2)) := by simpa using hcs 0 s rfl 2 (by omega)
      have d3 : wr.cell? ⟨gq, off + 3, none⟩ = some (.int .u8 (kB s 3)) := by simpa using hcs 0 s rfl 3 (by omega)
      have d4 : wr.cell? ⟨gq, off + 4, none⟩ = some (.int .u8 (kB s 4)) := by simpa using hcs 0 s rfl 4 (by omega)
      have d5 : wr.cell? ⟨gq, off + 5, none⟩ = some (.int .u8 (kB s 5)) := by simpa using hcs 0 s rfl 5 (by omega)
      have d6 : wr.cell? ⟨gq, off + 6, none⟩ = some (.int .u8 (kB s 6)) := by simpa using hcs 0 s rfl 6 (by omega)
      have d7 : wr.cell? ⟨gq, off + 7, none⟩ = some (.int .u8 (kB s 7)) := by simpa using hcs 0 s rfl 7 (by omega)
      have hcap1 : 1 ≤ cap := by simp at hlq; omega
      rw [List.length_cons]
      obtain ⟨W1, hW1⟩ : ∃ W1, W1 = wr.alloc (oneK s) := ⟨_, rfl⟩
      have h11 : Below wr.heap.size wr W1 := by rw [hW1]; exact (Below.refl _ _).alloc (Nat.le_refl _) _
      have Y1 : CellsAt W1 wr.heap.size [.int .u8 (kB s 0), .int .u8 (kB s 1), .int .u8 (kB s 2), .int .u8 (kB s 3), .int .u8 (kB s 4), .int .u8 (kB s 5), .int .u8 (kB s 6), .int .u8 (kB s 7)] := by rw [hW1]; exact CellsAt.new wr _ _
      have hz1 : W1.heap.size = wr.heap.size + 1 := by rw [hW1]; simp
      have O1 : W1.heap[wr.heap.size]? = some (oneK s) := by rw [hW1]; exact heap_alloc_new wr _
      have C1 : KMapC W1 96 (w.heap.size + 1) cn c g := HC.out.1.keep h11 HC.out.1.lt
      have J1 : J vs W1 := HV.out.1.below HJ.out h11 (by omega)
      have V1 : Vis w.heap.size V w W1 := HVs.out.trans (vis_below h11 (by omega))
      have X1 : W1.heap[w.heap.size]? = some (.cells #[.int .i64 wd, .map (some m)] 76) := (h11.block _ (by omega)).trans HX.out
      have T1 : ∃ tv, (tv = .slice (if cap = 1 then some ⟨gq, off, none⟩ else some ⟨gq, off + 8, none⟩) Q.length (cap - 1)) ∧ QRow W1 (w.heap.size + 2) tv Q := by
        refine ⟨_, rfl, ?_⟩
        by_cases hc1 : cap = 1
        · subst hc1
          obtain ⟨rfl, h⟩ := HR.out.tail1
          rw [if_pos rfl]
          exact h.below h11
        · rw [if_neg hc1]
          exact HR.out.tail.below h11
      obtain ⟨nn, hn, hn0, hn1, hn2⟩ := HC.out.2.2.get (keyL s)
      have hl1 := C1.map.look keyed Try.underlying93 (zeroInt W1) (key_lit s)
      rw [hn] at hl1
      have hwr : IntKind.i64.wrap (nn + 1) = nn + 1 := cnt_wrap (by omega) (by omega)
      obtain ⟨tv, htv, hq1⟩ := T1
      have HT : Hid (QRow W1 (w.heap.size + 2) tv Q) := hq1
      have HS : Hid _ := And.intro C1 (And.intro J1 (And.intro V1 (And.intro X1 (And.intro Y1 O1))))
      have HW1 : Hid _ := hW1
      unfold oneK at HW1
      have hmem : (0 < nn) ↔ s ∈ vs := by
        rw [hn2]
        constructor
        · intro h
          obtain ⟨y, hy, e⟩ := List.mem_map.1 h
          have hys := HSZ.out (HK.out.vr y hy)
          exact key_inj e (by omega) (by omega) ▸ hy
        · intro h
          exact List.mem_map.2 ⟨s, h, rfl⟩
      clear hW1 C1 J1 V1 X1 O1 hq1 hcs hth HR hn2 h11
      unfold keyV keyA at hl1
      go_upto_region 5 with fail
      rw [← HW1.out]
      clear HW1 d0 d1 d2 d3 d4 d5 d6 d7
      obtain ⟨B, hB⟩ : ∃ B, B = wr.heap.size := ⟨_, rfl⟩
      rw [← hB] at HS Y1 ⊢
      have HBe : Hid _ := hB
      clear hB
      obtain ⟨y0, _⟩ := Y1 0 _ rfl
      obtain ⟨y1, _⟩ := Y1 1 _ rfl
      obtain ⟨y2, _⟩ := Y1 2 _ rfl
      obtain ⟨y3, _⟩ := Y1 3 _ rfl
      obtain ⟨y4, _⟩ := Y1 4 _ rfl
      obtain ⟨y5, _⟩ := Y1 5 _ rfl
      obtain ⟨y6, _⟩ := Y1 6 _ rfl
      obtain ⟨y7, _⟩ := Y1 7 _ rfl
      clear Y1
      go_upto_region 6 with fail
      rw [← htv]
      clear htv
      by_cases hpos : 0 < nn
      · have hin := hmem.1 hpos
        go_wp2
        go_roundg ((601 - vs.length) * 20000 + Q.length)
        case measure => simp at hk; omega
        case rel => exact ⟨vs, Q, c, cn, g, Nat.le_refl _, by simp at hQl; omega, hvl, ⟨HS.out.1, HC.out.2.1, HC.out.2.2⟩, HS.out.2.2.2.1, HS.out.2.1, HS.out.2.2.1, HK.out.skip hin, HT, by omega⟩
      · have hnin : s ∉ vs := fun h => hpos (hmem.2 h)
        have hposd : decide (0 < nn) = false := by simpa using hpos
        have hvl2 : (vs ++ [s]).length ≤ 600 := by
          have := visited_le (HK.out.visit hnin hst).nd (HK.out.visit hnin hst).there
          omega
        have hcn := HC.out.2.1
        have kD : Below W1.heap.size W1 W1.drew := (Below.refl _ _).drew
        obtain ⟨st, w3, w4, he, hlD, hl3, hs4, hm4, hg3, hg4⟩ := (HS.out.1.keep kD (by omega)).bump keyed Try.underlying93 (by unfold maxLen; omega) zeroInt (key_lit s) (.int .i64 (nn + 1))
        rw [hn] at he hlD hl3
        unfold goInt at he hs4
        unfold keyV keyA at he hlD hl3
        go_upto_region 7 with fail
        go_cut [] (fun wx => ∃ c', Hid (KMapC wx 96 (w.heap.size + 1) (cn + 1) c' (upd g (keyL s) (.int .i64 (nn + 1))) ∧ MK (vs ++ [s]) (upd g (keyL s) (.int .i64 (nn + 1))) c') ∧ W1.grownBy wx (some (w.heap.size + 1)))
        case first =>
          have g4 : W1.grownBy w4 (some (w.heap.size + 1)) := (grown_below _ kD).trans hg4
          have mk4 := HC.out.2.2.snoc s hn0 hn1
          have HF : Hid _ := And.intro hm4 (And.intro mk4 g4)
          clear hm4 mk4 g4 hg3 hg4 hl1
          go_region
          all_goals
            go_wp2_with fail
            go_meet
            exact ⟨_, ⟨HF.out.1, HF.out.2.1⟩, HF.out.2.2⟩
        case rest =>
        revert wc
        intro w5 hcut
        obtain ⟨c', HC5, hg5⟩ := hcut
        clear he hlD hl3 hs4 hm4 hg3 hg4 hl1 y0 y1 y2 y3 y4 y5 y6 y7 w3 w4 kD
        have hBw : w.heap.size + 2 ≤ B := by have := HBe.out; omega
        have hBl : B < W1.heap.size := by have := HBe.out; omega
        have hz5 := hg5.size
        have O5 : w5.heap[B]? = some (oneK s) := (hg5.block B hBl (fun e => by have := Option.some.inj e; omega)).trans HS.out.2.2.2.2.2
        have X5 : w5.heap[w.heap.size]? = some (.cells #[.int .i64 wd, .map (some m)] 76) := (hg5.block _ (by omega) (fun e => by have := Option.some.inj e; omega)).trans HS.out.2.2.2.1
        have J5 : J vs w5 := HV.out.1.grownO HS.out.2.1 hg5 (by omega) (fun q e => by cases e; exact ⟨by omega, map_obj HS.out.1⟩)
        have V5 : Vis w.heap.size V w w5 := HS.out.2.2.1.after ((Below.refl _ _).grown hg5 (by omega) (fun q e => by cases e; omega))
        have Y5 : CellsAt w5 B [.int .u8 (kB s 0), .int .u8 (kB s 1), .int .u8 (kB s 2), .int .u8 (kB s 3), .int .u8 (kB s 4), .int .u8 (kB s 5), .int .u8 (kB s 6), .int .u8 (kB s 7)] := CellsAt.same HS.out.2.2.2.2.1 (O5.trans HS.out.2.2.2.2.2.symm)
        have Q5 : QRow w5 (w.heap.size + 2) tv Q := QRow.stays HT.out hz5 (fun q hq => hg5.block q (QRow.blk HT.out hq).2 (fun e => by have := Option.some.inj e; have := (QRow.blk HT.out hq).1; omega))
        have M5 : KMap w5 96 m nm fm := HP.out.1.block (V5.old m HP.out.1.lt HP.out.2.2.2.1)
        obtain ⟨u, ra, rc, hu, hus, hfu⟩ := HP.out.2.1.get hssz hst
        have hlt := M5.look keyed Try.underlying74 (zeroKept w5) (key_lit s)
        rw [hfu] at hlt
        have x51 : w5.cell? ⟨w.heap.size, 1, none⟩ = some (.map (some m)) := by unfold World.cell?; simp [X5]
        have HG5 : Hid _ := And.intro O5 (And.intro X5 (And.intro J5 (And.intro V5 Q5)))
        obtain ⟨y0, _⟩ := Y5 0 _ rfl
        obtain ⟨y1, _⟩ := Y5 1 _ rfl
        obtain ⟨y2, _⟩ := Y5 2 _ rfl
        obtain ⟨y3, _⟩ := Y5 3 _ rfl
        obtain ⟨y4, _⟩ := Y5 4 _ rfl
        obtain ⟨y5, _⟩ := Y5 5 _ rfl
        obtain ⟨y6, _⟩ := Y5 6 _ rfl
        obtain ⟨y7, _⟩ := Y5 7 _ rfl
        have HY5 : Hid _ := Y5
        have HFU : Hid _ := And.intro hu (And.intro hus hfu)
        clear O5 X5 J5 V5 Q5 M5 Y5 hg5 hu hus hfu
        unfold keyV keyA keptV at hlt
        simp only [Option.getD_some] at hlt
        have HVC : Hid (Calls Try.prog vf #[.agg #[.string u.sum, .int .i64 u.born, .string u.text, .slice ra u.refs.length rc], cv] w5 fun e W' => (∃ v, e = .returned v) ∧ J (vs ++ [u.sum]) W' ∧ Vis w.heap.size V w5 W') := HV.out.2 vs w5 u ra rc (by simp at hvl2; omega) HFU.out.1 HG5.out.2.2.1 (by omega)
        go_wp2_with fail
        refine Calls.mono HVC.out ?_
        rintro e w6 ⟨⟨rv, rfl⟩, hJ6, hV6⟩
        rw [HFU.out.2.1] at hJ6
        have hz6 := hV6.size
        have O6 : w6.heap[B]? = some (oneK s) := hV6.own B _ (by omega) HG5.out.1 rfl
        have X6 : w6.heap[w.heap.size]? = some (.cells #[.int .i64 wd, .map (some m)] 76) := hV6.own _ _ (Nat.le_refl _) HG5.out.2.1 rfl
        have C6 : KMapC w6 96 (w.heap.size + 1) (cn + 1) c' (upd g (keyL s) (.int .i64 (nn + 1))) := HC5.out.1.same (by
          obtain ⟨o, ho, hn'⟩ := map_obj HC5.out.1
          rw [hV6.own _ o (by omega) ho hn', ho])
        have V6 : Vis w.heap.size V w w6 := HG5.out.2.2.2.1.trans hV6
        have Q6 : QRow w6 (w.heap.size + 2) tv Q := HG5.out.2.2.2.2.vis hV6 (by omega)
        have Y6 : CellsAt w6 B [.int .u8 (kB s 0), .int .u8 (kB s 1), .int .u8 (kB s 2), .int .u8 (kB s 3), .int .u8 (kB s 4), .int .u8 (kB s 5), .int .u8 (kB s 6), .int .u8 (kB s 7)] := CellsAt.same HY5.out (O6.trans HG5.out.1.symm)
        have L6 : KMap w6 96 b n fl := HP.out.2.2.1.map.block (V6.old b HP.out.2.2.1.map.lt HP.out.2.2.2.2.1)
        have R6 : R8 w6 w6.heap.size (rowV fl s) (linkL E s) := by
          have hr := HP.out.2.2.1.row s hssz
          refine (hr.read.stays (fun q hq => ?_)).mono V6.size
          exact V6.old q (hr.blk hq).2 (HP.out.2.2.2.2.2 s hssz q hq)
        have hln := linkL_len E s
        obtain ⟨tv7, w7, hr7, hq7, hg7, _⟩ := qappend w6 (w.heap.size + 2) tv Q Q6 (rowV fl s) (linkL E s) _ R6 (by simp at hQl; omega) (by omega) 102
        have hlk := L6.look keyed Try.underlying104 (zeroRow8 w6) (key_lit s)
        have hlk2 : (Instr.lookup 104 (.map (some b)) (keyV s) false).run Try.prog w6 = .ok (rowV fl s) w6 := hlk
        unfold keyV keyA at hlk2
        have hrow7 : ∀ q, sBlk tv = some q → w.heap.size ≤ q ∧ ∃ o, w6.heap[q]? = some o ∧ notStr o = true := fun q hq => ⟨by have := (Q6.blk hq).1; omega, (Q6.kblk hq).not⟩
        have hne7 : ∀ q, sBlk tv = some q → w.heap.size + 2 ≤ q := fun q hq => (Q6.blk hq).1
        have J7 : J (vs ++ [s]) w7 := HV.out.1.grownO hJ6 hg7 (by omega) hrow7
        have V7 : Vis w.heap.size V w w7 := V6.after ((Below.refl _ _).grown hg7 (by omega) (fun q e => (hrow7 q e).1))
        have X7 : w7.heap[w.heap.size]? = some (.cells #[.int .i64 wd, .map (some m)] 76) := (hg7.block _ (by omega) (fun e => by have := hne7 _ e.symm; omega)).trans X6
        have C7 : KMapC w7 96 (w.heap.size + 1) (cn + 1) c' (upd g (keyL s) (.int .i64 (nn + 1))) := C6.same (hg7.block _ (by omega) (fun e => by have := hne7 _ e.symm; omega))
        have hz7 := hg7.size
        have HF : Hid _ := And.intro C7 (And.intro X7 (And.intro J7 (And.intro V7 hq7)))
        clear y0 y1 y2 y3 y4 y5 y6 y7 hlt x51 hlk
        obtain ⟨y0, _⟩ := Y6 0 _ rfl
        obtain ⟨y1, _⟩ := Y6 1 _ rfl
        obtain ⟨y2, _⟩ := Y6 2 _ rfl
        obtain ⟨y3, _⟩ := Y6 3 _ rfl
        obtain ⟨y4, _⟩ := Y6 4 _ rfl
        obtain ⟨y5, _⟩ := Y6 5 _ rfl
        obtain ⟨y6, _⟩ := Y6 6 _ rfl
        obtain ⟨y7, _⟩ := Y6 7 _ rfl
        clear O6 X6 C6 V6 Q6 Y6 L6 R6 hg7 hrow7 hne7 J7 V7 X7 C7 hq7 hJ6 hV6
        go_wp2_with (at_builtin; refine wpList_append_run rfl _ _ _ _ rfl rfl rfl hr7 ?_)
        go_roundg ((601 - (vs.length + 1)) * 20000 + (Q ++ linkL E s).length)
        case measure =>
          simp at hk hvl2 ⊢
          omega
        case rel =>
          refine ⟨vs ++ [s], Q ++ linkL E s, c', cn + 1, _, by simp, ?_, hvl2, ⟨HF.out.1, by simp; omega, HC5.out.2⟩, HF.out.2.1, HF.out.2.2.1, HF.out.2.2.2.1, HK.out.visit hnin hst, HF.out.2.2.2.2, by omega⟩
          simp at hQl ⊢
          omega

end Go.Proofs.Ytbelneejghdmoaa
