import Derived.Test.YthkmpihfhkmaoaaGreatU10
import Derived.Test.YthkmpihfhkmaoaaGreatU08
import Derived.Test.YthkmpihfhkmaoaaGreatU04
import Derived.Deep.Upon
import Derived.Test.YthkmpihfhkmaoaaGreatU07
import Derived.Test.YthkmpihfhkmaoaaGreatU05
/-
  (*impl.draft).drop.
-/
namespace Go.Proofs.YthkmpihfhkmaoaaGreat
open Go.ChangeShapes Go.WideShapes Go.ChangeAt Go.RowKit

/-- Nothing but the blocks V has turned. -/
structure Tn (V : List Nat) (w w' : World) : Prop where
  os : w'.os = w.os
  tape : w'.tape = w.tape
  output : w'.output = w.output
  size : w.heap.size ≤ w'.heap.size
  block : ∀ b, b < w.heap.size → b ∉ V → w'.heap[b]? = w.heap[b]?

theorem Tn.of {V : List Nat} {w w' : World} (h : Below w.heap.size w w') : Tn V w w' := ⟨h.os, h.tape, h.output, h.size, fun b hb _ => h.block b hb⟩

theorem Tn.grown {V : List Nat} {w w' : World} {g : Nat} (h : w.grownBy w' (some g)) (hg : g ∈ V) : Tn V w w' := ⟨h.os, h.tape, h.output, h.size, fun b hb hv => h.block b hb (fun e => hv (Option.some.inj e ▸ hg))⟩

theorem Tn.set {V : List Nat} (w : World) (g j : Nat) (v : Value) (hg : g ∈ V) : Tn V w (w.setCell ⟨g, j, none⟩ v) := Tn.grown (rd_grown w g j v) hg

theorem Tn.trans {V : List Nat} {a b c : World} (h : Tn V a b) (k : Tn V b c) : Tn V a c :=
  ⟨k.os.trans h.os, k.tape.trans h.tape, k.output.trans h.output, Nat.le_trans h.size k.size, fun q hq hv => (k.block q (Nat.lt_of_lt_of_le hq h.size) hv).trans (h.block q hq hv)⟩

theorem Tn.below {V : List Nat} {w w' : World} (h : Tn V w w') {B : Nat} (hB : B ≤ w.heap.size) (hV : ∀ b ∈ V, B ≤ b) : Below B w w' := ⟨h.os, h.tape, h.output, h.size, fun b hb => h.block b (by omega) (fun hv => by have := hV b hv; omega)⟩

theorem Tn.mono {V V' : List Nat} {w w' : World} (h : Tn V w w') (hV : ∀ b ∈ V, b ∈ V') : Tn V' w w' := ⟨h.os, h.tape, h.output, h.size, fun b hb hv => h.block b hb (fun e => hv (hV b e))⟩

theorem KMap.same {w w' : World} {K : TypeId} {b n : Nat} {f : Lit → Option Value} (h : KMap w K b n f) (hb : w'.heap[b]? = w.heap[b]?) : KMap w' K b n f := by
  obtain ⟨D, ⟨es, clock, h1, h2⟩, h3⟩ := h
  exact ⟨D, ⟨es, clock, hb.trans h1, h2⟩, h3⟩

theorem RefV.turn {w w' : World} {base : Nat} {V : List Nat} {a : Option Addr} {ss : List ByteArray} (h : RefV w base V a ss) (ht : Tn V w w') : RefV w' base V a ss := by
  rcases h with h | ⟨b, off, ha, hb, hv, hx, hc⟩
  · exact .inl h
  · exact .inr ⟨b, off, ha, Nat.lt_of_lt_of_le hb ht.size, hv, (by rw [ht.block b hb hv]; exact hx), fun i s hs => (World.cell?_of_block (a := ⟨b, off + i, none⟩) (ht.block b hb hv)).trans (hc i s hs)⟩

theorem step_delete_run {P : Program} {w : World} {ops : Array Oper} {o : Oper} {a : Act} {K : Act → World → Prop} {Q : Exit → Act → World → Prop} {E : Prop} (hgd : o.guard = none) (s x : Operand) (t u : TypeId)
    (ho : o.op = .call { callee := .builtin .delete, args := #[s, x], argTypes := #[t, u] }) {v xv : Value} {w' : World} (hs : a.eval s = v) (hx : a.eval x = xv)
    (hr : (Builtin.delete_ #[t, u] o.type #[v, xv]).run P w = .ok (.tuple #[]) w') (h : K (a.put o.dst (.tuple #[])) w') :
    if Region.wanted o (yielded ops a.tmps) = true then Oper.wp P o a w K Q else E := by
  have hw : Region.wanted o (yielded ops a.tmps) = true := by simp [Region.wanted, hgd]
  rw [if_pos hw]
  unfold Oper.wp execOp
  simp only [ho, resolve, invoke, builtin, Sem.run_bind, Sem.run_pure, Result.andThen_ok, List.map_toArray, List.map_cons, List.map_nil, hs, hx, hr]
  exact h

/-- The things without one. -/
def dropK (ks : List Kd) (s : ByteArray) : List Kd := ks.filter (fun k => !decide (k.sum = s))

theorem dropK_erase {ks : List Kd} (hnd : (ks.map (·.sum)).Nodup) {i : Nat} {k : Kd} (hk : ks[i]? = some k) : dropK ks k.sum = ks.eraseIdx i := by
  induction ks generalizing i with
  | nil => simp at hk
  | cons x xs ih =>
    simp only [List.map_cons, List.nodup_cons, List.mem_map, not_exists, not_and] at hnd
    cases i with
    | zero =>
      simp at hk
      subst hk
      unfold dropK
      simp only [List.filter_cons, decide_true, Bool.not_true, Bool.false_eq_true, if_false, List.eraseIdx_zero, List.tail_cons]
      exact List.filter_eq_self.2 (fun y hy => by simpa using hnd.1 y hy)
    | succ i =>
      have hk' : xs[i]? = some k := by simpa using hk
      have hm := List.mem_of_getElem? hk'
      have hne : ¬ x.sum = k.sum := fun e => hnd.1 k hm e.symm
      have := ih hnd.2 hk'
      unfold dropK at *
      simp [hne, this]

theorem place_hit {ss : List ByteArray} {s : ByteArray} {i : Nat} (h : PlaceAt ss s i) (hs : s ∈ ss) (hsort : ss.Pairwise (fun a b => less a b = true)) : ss[i]? = some s := by
  obtain ⟨j, hj⟩ := List.getElem?_of_mem hs
  have hjl := (List.getElem?_eq_some_iff.1 hj).1
  rcases Nat.lt_or_ge j i with h' | h'
  · have := h.lo j s h' hj
    rw [less_irrefl] at this
    cases this
  · rcases Nat.lt_or_ge i j with h'' | h''
    · have h1 := List.pairwise_iff_getElem.1 hsort i j (by omega) hjl h''
      have h2 := h.hi i _ (Nat.le_refl _) (List.getElem?_eq_getElem (by omega))
      obtain ⟨_, e⟩ := List.getElem?_eq_some_iff.1 hj
      rw [e] at h1
      rw [h1] at h2
      cases h2
    · obtain rfl : j = i := by omega
      exact hj

/-- What is asked of the things of a draft. -/
structure KsOk (wd : Int) (ks : List Kd) : Prop where
  nd : (ks.map (·.sum)).Nodup
  sorted : (ks.map (·.sum)).Pairwise (fun a b => less a b = true)
  sz : ∀ k ∈ ks, (k.sum.size : Int) = wd
  refs : RefsOk ks
  len : ks.length ≤ 600
  w8 : wd ≤ 8

theorem HoldsV.drop {w w' : World} {base : Nat} {V : List Nat} {wd : Int} {ks : List Kd} {f : Lit → Option Value} (h : HoldsV w base V wd ks f) (ht : Tn V w w') {s : ByteArray} (hs : (s.size : Int) = wd) (h8 : wd ≤ 8) : HoldsV w' base V wd (dropK ks s) (ers f (keyL s)) := by
  intro t htz
  by_cases hts : t = s
  · subst hts
    exact .inl ⟨by simp [ers], fun ⟨u, hu, hus⟩ => by simp [dropK, hus] at hu⟩
  · have hne : keyL t ≠ keyL s := fun e => hts (key_inj e (by omega) (by omega))
    have he : ers f (keyL s) (keyL t) = f (keyL t) := by simp [ers, hne]
    rw [he]
    rcases h t htz with ⟨h1, h2⟩ | ⟨u, ra, rc, hu, hus, hf, hr⟩
    · exact .inl ⟨h1, fun ⟨u, hu, hus⟩ => h2 ⟨u, (List.mem_filter.1 hu).1, hus⟩⟩
    · exact .inr ⟨u, ra, rc, List.mem_filter.2 ⟨hu, by simp [hus, hts]⟩, hus, hf, hr.turn ht⟩

/-- A block that is neither the draft's nor one of strings, turned: the draft is as it was. -/
theorem Dr.apart {w w' : World} {base d m : Nat} {O P L : Value} {wd now given births : Int} {ks : List Kd} {ps : List Pd} {ls : List Ld} (h : Dr w base d m O P L wd now given births ks ps ls) {R : Nat} (ht : Tn [R] w w') (hR : base ≤ R) (hV : R ∉ vB d m O P L) (hs : ∀ cur fz, w.heap[R]? ≠ some (.cells cur 9 fz)) : Dr w' base d m O P L wd now given births ks ps ls := by
  obtain ⟨n, f, h1, h2, h3⟩ := h.map
  have hst : ∀ b, b < w.heap.size → b ∈ vB d m O P L → w'.heap[b]? = w.heap[b]? := fun b hb hv => ht.block b hb (fun e => hV (by simp at e; exact e ▸ hv))
  refine ⟨CellsAt.same h.box (hst d h.box.lt (by simp [vB])), ⟨n, f, h1, KMap.same h2 (hst m h2.lt (by simp [vB])), ?_⟩, own_same h.ord (fun g hg => hst g (own_lt h.ord hg).2 (by simp [vB, hg])), own_same h.pin (fun g hg => hst g (own_lt h.pin hg).2 (by simp [vB, hg])), own_same h.lea (fun g hg => hst g (own_lt h.lea hg).2 (by simp [vB, hg])), h.bd, h.bm, h.ap⟩
  intro s hsz
  rcases h3 s hsz with h' | ⟨u, ra, rc, q1, q2, q3, q4⟩
  · exact .inl h'
  · refine .inr ⟨u, ra, rc, q1, q2, q3, ?_⟩
    rcases q4 with q4 | ⟨b, off, ha, hb, hv, hx, hc⟩
    · exact .inl q4
    · have hne : b ≠ R := by
        rcases hx with hx | ⟨cur, fz, hx⟩
        · omega
        · exact fun e => hs cur fz (e ▸ hx)
      have hbb : w'.heap[b]? = w.heap[b]? := ht.block b hb (by simpa using hne)
      exact .inr ⟨b, off, ha, Nat.lt_of_lt_of_le hb ht.size, hv, (by rw [hbb]; exact hx), fun i s hs => (World.cell?_of_block (a := ⟨b, off + i, none⟩) hbb).trans (hc i s hs)⟩

set_option maxRecDepth 20000 in
set_option maxHeartbeats 4000000 in
theorem drop_yes (base d m : Nat) (O P L : Value) (wd now given births : Int) (ks : List Kd) (ps : List Pd) (ls : List Ld) (s : ByteArray) (w : World) (hd : Dr w base d m O P L wd now given births ks ps ls) (hok : KsOk wd ks) (hp : ps.length ≤ 100) (hl : ls.length ≤ 200) (hth : There ks s) (hfree : ¬ (((∃ p ∈ ps, p.sum = s) ∨ ∃ l ∈ ls, l.sum = s) ∨ ∃ k ∈ ks, s ∈ k.refs)) :
    Calls Tryz.prog 198 #[.pointer (some ⟨d, 0, none⟩), .string s] w fun e w' => e = .returned (.tuple #[]) ∧ ∃ O', Dr w' base d m O' P L wd now given births (dropK ks s) ps ls ∧ O'.ownBlock = O.ownBlock ∧ Tn (vB d m O P L) w w' := by
  obtain ⟨k0, hk0, hks⟩ := hth
  have hth : There ks s := ⟨k0, hk0, hks⟩
  have hsw : (s.size : Int) = wd := hks ▸ hok.sz k0 hk0
  have hlen : 0 < ks.length := List.length_pos_of_mem hk0
  obtain ⟨g, cap, rfl, hgb, hgl⟩ := own_form hd.ord (fun e => by have := own_val hd.ord; obtain ⟨a, c, e'⟩ := this; rw [e'] at e; injection e with _ h2 _; omega)
  have HD : Hid _ := hd
  clear hd
  go_enter Tryz.func198, Tryz.ntmps198
  go_wp2_with fail
  refine (need_yes base d m _ P L wd now given births ks ps ls s w HD.out hok.sz hth).mono ?_
  rintro e w1 ⟨rfl, hb1⟩
  have HD1 : Hid _ := Dr.below HD.out hb1
  go_wp2_with fail
  refine (isInUse_any base d m _ P L wd now given births ks ps ls s w1 HD1.out hok.nd hok.sz hok.refs hok.len hp hl).mono ?_
  rintro e w2 ⟨ok, rfl, hok2, hb2⟩
  obtain rfl : ok = false := by
    cases ok with
    | false => rfl
    | true => exact absurd (hok2.1 rfl) hfree
  have HD2 : Hid _ := Dr.below HD1.out hb2
  clear hok2 HD1
  go_wp2_with fail
  refine (key_out s w2).mono ?_
  rintro e w3 ⟨rfl, hb3⟩
  obtain ⟨W4, hW4⟩ : ∃ W, W = w3.alloc (.cells #[.int .u8 (kB s 0), .int .u8 (kB s 1), .int .u8 (kB s 2), .int .u8 (kB s 3), .int .u8 (kB s 4), .int .u8 (kB s 5), .int .u8 (kB s 6), .int .u8 (kB s 7)] 98) := ⟨_, rfl⟩
  have b34 : Below w3.heap.size w3 W4 := by rw [hW4]; exact (Below.refl _ _).alloc (Nat.le_refl _) _
  have k4 : CellsAt W4 w3.heap.size (kCells s) := by rw [hW4]; exact CellsAt.new w3 (kCells s) 98
  have B4 : Below w.heap.size w W4 := ((hb1.trans (hb2.mono hb1.size)).trans (hb3.mono (Nat.le_trans hb1.size hb2.size))).trans (b34.mono (Nat.le_trans (Nat.le_trans hb1.size hb2.size) hb3.size))
  have HD4 : Hid _ := Dr.below (Dr.below HD2.out hb3) b34
  have HW4 : Hid _ := hW4
  clear hW4 HD2
  go_upto_region 4 with fail
  rw [← HW4.out]
  clear HW4
  obtain ⟨n, f, hn, hM, hH⟩ := HD4.out.map
  obtain ⟨w5, hr5, hM5, hg5⟩ := (hM.keep (Below.refl W4.heap.size W4).drew hM.lt).del keyed Tryz.underlying108 (key_lit s) 0
  have hdl := HD4.out.box.lt
  have hap := HD4.out.ap
  have hdm : d ≠ m := by
    intro e
    unfold vB at hap
    simp [e] at hap
  have hdg : d ≠ g ∧ m ≠ g := by
    unfold vB at hap
    simp [Value.ownBlock] at hap
    omega
  have hml : m < w.heap.size := (HD.out.map.choose_spec.choose_spec.2.1).lt
  have hz4 : w.heap.size ≤ w3.heap.size := Nat.le_trans (Nat.le_trans hb1.size hb2.size) hb3.size
  have hg5' : W4.grownBy w5 (some m) := grown_undrew hg5
  have k5 : CellsAt w5 w3.heap.size (kCells s) := CellsAt.far' (v := .int .u8 (kB s 0)) k4 hg5' (by omega)
  have x5 := CellsAt.far' HD4.out.box hg5' (fun e => hdm e.symm)
  have P4 : W4.drew.cell? ⟨d, 1, none⟩ = some (.map (some m)) ∧ _ := ⟨(HD4.out.box 1 _ rfl).1, box8 (w := W4.drew) k4⟩
  have P5 : w5.cell? ⟨d, 1, none⟩ = some (.map (some m)) ∧ _ := ⟨(x5 1 _ rfl).1, box8 k5⟩
  unfold keyV keyA at hr5
  go_region_held3 (fun X => X.cell? ⟨d, 1, none⟩ = some (.map (some m)) ∧ (X.cell? ⟨w3.heap.size, 0, none⟩ = some (.int .u8 (kB s 0)) ∧ X.cell? ⟨w3.heap.size, 1, none⟩ = some (.int .u8 (kB s 1)) ∧ X.cell? ⟨w3.heap.size, 2, none⟩ = some (.int .u8 (kB s 2)) ∧ X.cell? ⟨w3.heap.size, 3, none⟩ = some (.int .u8 (kB s 3)) ∧ X.cell? ⟨w3.heap.size, 4, none⟩ = some (.int .u8 (kB s 4)) ∧ X.cell? ⟨w3.heap.size, 5, none⟩ = some (.int .u8 (kB s 5)) ∧ X.cell? ⟨w3.heap.size, 6, none⟩ = some (.int .u8 (kB s 6)) ∧ X.cell? ⟨w3.heap.size, 7, none⟩ = some (.int .u8 (kB s 7))))
    (first | with_reducible exact P4 | with_reducible exact P5)
    (first | (refine step_delete_run (by rfl) (.tmp 21) (.tmp 22) 108 98 (by rfl) (by rfl) (by rfl) hr5 ?_))
  have ho5 : w5.ownsRow base 98 8 (.slice (some ⟨g, 0, none⟩) ks.length cap) ks.length (cells8 (ks.map (·.sum))) := World.ownsRow.kept HD4.out.ord hg5' (.inr (fun e => hdg.2 (Option.some.inj e).symm))
  have HP := place_any base d m g cap P L wd now given births ks s w5 x5 ho5 hok.len (by have := hok.w8; omega) (fun x hx => by have := hok.sz x hx; omega) hok.sorted
  obtain ⟨q0, q1, q2, q3, q4, q5, q6, q7⟩ := box8 k5
  have HQ : Hid _ := HP
  unfold keyV keyA at HQ
  have HX5 : Hid _ := And.intro x5 ho5
  have H5 : Hid _ := And.intro hM5 (And.intro hg5' hH)
  clear HP P4 P5 hr5 hM5 hg5 hg5' x5 ho5 k4 k5 hM
  go_wp2_with fail
  refine Calls.mono HQ.out ?_
  rintro e w6 ⟨i, rfl, hpl, hb6⟩
  have hgi := place_hit hpl (List.mem_map.2 ⟨k0, hk0, hks⟩) hok.sorted
  have hkl := hok.len
  have hil : i < ks.length := by have := (List.getElem?_eq_some_iff.1 hgi).1; simpa using this
  have x6 := CellsAt.below HX5.out.1 hb6
  obtain ⟨y5, f5⟩ := x6 5 _ rfl
  have ho6 : w6.ownsRow base 98 8 (.slice (some ⟨g, 0, none⟩) (ks.map (·.sum)).length cap) (ks.map (·.sum)).length (cells8 (ks.map (·.sum))) := by
    rw [List.length_map]
    exact own_below HX5.out.2 hb6
  have HDel := deleteKey_any g cap i (ks.map (·.sum)) w6 base ho6 (by rw [List.length_map]; exact hok.len) (by rw [List.length_map]; exact hil)
  rw [List.length_map] at HDel
  have HDl : Hid _ := HDel
  have H6 : Hid _ := And.intro hgi (And.intro x6 hb6)
  clear hpl hgi x6 HDel ho6 HQ q0 q1 q2 q3 q4 q5 q6 q7
  go_wp2_with fail
  refine Calls.mono HDl.out ?_
  rintro e w7 ⟨rfl, ho7, hg7⟩
  have x7 := CellsAt.far' H6.out.2.1 hg7 (fun e => hdg.1 e.symm)
  obtain ⟨y7, f7⟩ := x7 5 _ rfl
  have H7 : Hid _ := And.intro x7 (And.intro ho7 hg7)
  clear x7 ho7 hg7 y5 f5 HDl
  go_wp2
  go_end0
  have T3 : Tn [d, m, g] W4 (w7.setCell ⟨d, 5, none⟩ (.slice (some ⟨g, 0, none⟩) (ks.length - 1) cap)) :=
    (((Tn.grown H5.out.2.1 (by simp)).trans (Tn.of H6.out.2.2)).trans (Tn.grown H7.out.2.2 (by simp))).trans (Tn.set w7 d 5 _ (by simp))
  have hsub : ∀ b ∈ [d, m, g], b ∈ vB d m (.slice (some ⟨g, 0, none⟩) ks.length cap) P L := by
    intro b hb
    simp at hb
    unfold vB
    rcases hb with rfl | rfl | rfl <;> simp [Value.ownBlock]
  have hni : ∀ v : Value, (v = P ∨ v = L) → ∀ b, v.ownBlock = some b → b ∉ [d, m, g] := by
    intro v hv b hb hin
    unfold vB at hap
    rcases hv with rfl | rfl
    · simp only [List.nodup_cons, List.mem_cons, List.mem_append, Option.mem_toList, hb] at hap
      simp [Value.ownBlock] at hap hin
      grind
    · simp only [List.nodup_cons, List.mem_cons, List.mem_append, Option.mem_toList, hb] at hap
      simp [Value.ownBlock] at hap hin
      grind
  have hgk : ∃ k, ks[i]? = some k ∧ k.sum = s := by
    have := H6.out.1
    rw [List.getElem?_map] at this
    cases hk : ks[i]? with
    | none => rw [hk] at this; cases this
    | some k => rw [hk] at this; exact ⟨k, rfl, by simpa using this⟩
  obtain ⟨ki, hki, hkis⟩ := hgk
  have hdk : dropK ks s = ks.eraseIdx i := hkis ▸ dropK_erase hok.nd hki
  refine ⟨rfl, .slice (some ⟨g, 0, none⟩) (ks.length - 1) cap, ⟨CellsAt.set H7.out.1 5 _, ⟨n, ers f (keyL s), hn, ?_, ?_⟩, ?_, ?_, ?_, HD4.out.bd, HD4.out.bm, hap⟩, rfl, (Tn.of B4).trans (T3.mono hsub)⟩
  · refine KMap.same (KMap.same (H5.out.1.keep H6.out.2.2 H5.out.1.lt) (H7.out.2.2.block m (Nat.lt_of_lt_of_le H5.out.1.lt H6.out.2.2.size) (fun e => hdg.2 (Option.some.inj e)))) ?_
    exact Below.heap_setCell _ _ _ _ (fun e => hdm e.symm)
  · exact HoldsV.drop H5.out.2.2 (T3.mono hsub) hsw hok.w8
  · rw [hdk]
    have h1 : (ks.eraseIdx i).length = ks.length - 1 := by rw [List.length_eraseIdx, if_pos hil]
    rw [h1]
    have h2 : (ks.eraseIdx i).map (·.sum) = (ks.map (·.sum)).eraseIdx i := by simp [List.eraseIdx_eq_take_drop_succ]
    rw [h2]
    exact own_set H7.out.2.1 (fun b hb => by simp [Value.ownBlock] at hb; omega) 5 _
  · exact own_same HD4.out.pin (fun b hb => T3.block b (own_lt HD4.out.pin hb).2 (hni P (.inl rfl) b hb))
  · exact own_same HD4.out.lea (fun b hb => T3.block b (own_lt HD4.out.lea hb).2 (hni L (.inr rfl) b hb))

end Go.Proofs.YthkmpihfhkmaoaaGreat

/-
  Rows of strings of the call's own that may begin within their block.
-/
namespace Go.Proofs.YthkmpihfhkmaoaaGreat
open Go.ChangeShapes Go.WideShapes Go.ChangeAt Go.RowKit

/-- A row of strings of the call's own, from a place in its block on. -/
def ORow (w : World) (base : Nat) (v : Value) (ss : List ByteArray) : Prop :=
  (v = .slice none 0 0 ∧ ss = []) ∨ ∃ g off cap, v = .slice (some ⟨g, off, none⟩) ss.length cap ∧ base ≤ g ∧ g < w.heap.size ∧ ss.length ≤ cap ∧ cap ≤ maxLen ∧
    (∀ j, j < cap → (w.cell? ⟨g, off + j, none⟩).isSome = true ∧ w.frozen? ⟨g, off + j, none⟩ = false) ∧
    ∀ i s, ss[i]? = some s → w.cell? ⟨g, off + i, none⟩ = some (.string s)

theorem ORow.nil (w : World) (base : Nat) : ORow w base (.slice none 0 0) [] := .inl ⟨rfl, rfl⟩

theorem ORow.own {w : World} {base : Nat} {v : Value} {ss : List ByteArray} (h : w.ownsRow base 9 1 v ss.length (ss.map Value.string)) : ORow w base v ss := by
  rcases h.2 with ⟨rfl, hn⟩ | ⟨g, cap, cur, rfl, hb, hg, hc, hm, hs, ht⟩
  · exact .inl ⟨rfl, List.eq_nil_of_length_eq_zero hn⟩
  · have hl : g < w.heap.size := (Array.getElem?_eq_some_iff.1 hg).1
    have hcell : ∀ j, w.cell? ⟨g, 0 + j, none⟩ = cur[j]? := fun j => by
      rw [Nat.zero_add]
      simp [World.cell?, hg]
    refine .inr ⟨g, 0, cap, rfl, hb, hl, hc, hm, fun j hj => ⟨?_, ?_⟩, fun i s hs => ?_⟩
    · rw [hcell, Array.getElem?_eq_getElem (by omega)]
      rfl
    · simp [World.frozen?, hg]
    · have hi := (List.getElem?_eq_some_iff.1 hs).1
      rw [hcell]
      have h1 : (cur.toList.take (ss.length * 1))[i]? = some (.string s) := by rw [ht]; simp [hs]
      rw [List.getElem?_take_of_lt (by omega)] at h1
      simpa using h1

theorem ORow.row {w : World} {base : Nat} {v : Value} {ss : List ByteArray} (h : ORow w base v ss) : ∃ a cap, v = .slice a ss.length cap ∧ SRow w w.heap.size a ss := by
  rcases h with ⟨rfl, rfl⟩ | ⟨g, off, cap, rfl, h1, h2, _, _, _, hc⟩
  · exact ⟨none, 0, rfl, .inl rfl⟩
  · exact ⟨_, cap, rfl, .inr ⟨g, off, rfl, h2, hc⟩⟩

theorem ORow.stays {w w' : World} {base : Nat} {v : Value} {ss : List ByteArray} (h : ORow w base v ss) (hz : w.heap.size ≤ w'.heap.size) (hb : ∀ g, sBlk v = some g → w'.heap[g]? = w.heap[g]?) : ORow w' base v ss := by
  rcases h with h | ⟨g, off, cap, rfl, h1, hg, h2, h3, h4, hc⟩
  · exact .inl h
  · exact .inr ⟨g, off, cap, rfl, h1, by omega, h2, h3, fun j hj => ⟨by rw [World.cell?_of_block (hb g rfl)]; exact (h4 j hj).1, by rw [World.frozen?_of_block (hb g rfl)]; exact (h4 j hj).2⟩, fun i s hs => (World.cell?_of_block (hb g rfl)).trans (hc i s hs)⟩

theorem ORow.blk {w : World} {base : Nat} {v : Value} {ss : List ByteArray} (h : ORow w base v ss) {g : Nat} (hg : sBlk v = some g) : base ≤ g ∧ g < w.heap.size := by
  rcases h with ⟨rfl, _⟩ | ⟨g', off, cap, rfl, h1, h2, _⟩
  · cases hg
  · cases hg; exact ⟨h1, h2⟩

theorem ORow.below {w w' : World} {base : Nat} {v : Value} {ss : List ByteArray} (h : ORow w base v ss) (hb : Below w.heap.size w w') : ORow w' base v ss :=
  h.stays hb.size (fun g e => hb.block g (h.blk e).2)

theorem ORow.turn {w w' : World} {V : List Nat} {base : Nat} {v : Value} {ss : List ByteArray} (h : ORow w base v ss) (hb : Tn V w w') (hV : ∀ g, sBlk v = some g → g ∉ V) : ORow w' base v ss :=
  h.stays hb.size (fun g e => hb.block g (h.blk e).2 (hV g e))

theorem ORow.mono {w : World} {base base' : Nat} {v : Value} {ss : List ByteArray} (h : ORow w base v ss) (hb : base' ≤ base) : ORow w base' v ss := by
  rcases h with h | ⟨g, off, cap, rfl, h1, rest⟩
  · exact .inl h
  · exact .inr ⟨g, off, cap, rfl, by omega, rest⟩

/-- The row behind its first. -/
theorem ORow.tail {w : World} {base g off n cap : Nat} {s : ByteArray} {ss : List ByteArray} (h : ORow w base (.slice (some ⟨g, off, none⟩) n cap) (s :: ss)) : ORow w base (.slice (some ⟨g, off + 1, none⟩) ss.length (cap - 1)) ss ∧ n = ss.length + 1 ∧ n ≤ cap ∧ w.cell? ⟨g, off, none⟩ = some (.string s) := by
  rcases h with ⟨h, _⟩ | ⟨g', off', cap', h0, h1, hg, h2, h3, h4, hc⟩
  · cases h
  · simp only [List.length_cons] at h0 h2
    cases h0
    refine ⟨.inr ⟨g, off + 1, cap - 1, rfl, h1, hg, by omega, by omega, fun j hj => ?_, fun i s hs => ?_⟩, rfl, h2, by simpa using hc 0 s rfl⟩
    · have := h4 (j + 1) (by omega)
      rw [show off + (j + 1) = off + 1 + j by omega] at this
      exact this
    · have := hc (i + 1) s (by simpa using hs)
      rw [show off + (i + 1) = off + 1 + i by omega] at this
      exact this

theorem ORow.fresh (w : World) (base : Nat) (ss : List ByteArray) (cap : Nat) (z : Array Value) (hb : base ≤ w.heap.size) (h1 : ss.length ≤ cap) (h2 : cap ≤ maxLen) (hz : z.size = cap - ss.length) :
    ORow (w.drew.alloc (.cells ((ss.map Value.string).toArray ++ z) 9)) base (.slice (some ⟨w.heap.size, 0, none⟩) ss.length cap) ss := by
  have hcell : ∀ j, (w.drew.alloc (.cells ((ss.map Value.string).toArray ++ z) 9)).cell? ⟨w.heap.size, 0 + j, none⟩ = ((ss.map Value.string).toArray ++ z)[j]? := fun j => by
    rw [Nat.zero_add]
    show (w.drew.alloc (.cells ((ss.map Value.string).toArray ++ z) 9)).cell? ⟨w.drew.heap.size, j, none⟩ = _
    rw [World.cell?_alloc_at _ _ _ _ rfl]
  refine .inr ⟨w.heap.size, 0, cap, rfl, hb, by simp, h1, h2, fun j hj => ⟨?_, ?_⟩, fun i s hs => ?_⟩
  · rw [hcell, Array.getElem?_eq_getElem (by simp [hz]; omega)]
    rfl
  · simp [go_sem]
  · have hi := (List.getElem?_eq_some_iff.1 hs).1
    rw [hcell, Array.getElem?_append_left (by simpa using hi)]
    simp [hs]

theorem oappend (w : World) (base : Nat) (v : Value) (ss : List ByteArray) (hq : ORow w base v ss) (p : Addr) (cp : Nat) (t : ByteArray) (hc : w.cell? p = some (.string t)) (hn : ss.length ≤ 100000000) (hbase : base ≤ w.heap.size) (ty : TypeId) :
    ∃ v' w', (Builtin.append_ #[27, 27] ty #[v, .slice (some p) 1 cp]).run Tryz.prog w = .ok v' w' ∧ ORow w' base v' (ss ++ [t]) ∧ w.grownBy w' (sBlk v) ∧ (sBlk v' = sBlk v ∨ sBlk v' = some w.heap.size) := by
  obtain ⟨i, hi, hz0, hz1, hz2⟩ := info_parts Tryz.infoStr
  have hsrc : Src Tryz.prog i.size 27 (.slice (some p) 1 cp) 1 [.string t] w := by
    rw [hz1]
    exact Src.ofSlice w Tryz.underlying27 p 1 cp [.string t] rfl (fun j u hu => by
      match j, hu with
      | 0, hu => cases hu; rw [show p.add 0 = p from by cases p; simp [Addr.add]]; exact hc) (by simp [Value.oneCell'])
  have grow : ∀ (bs : Option Addr) (cap : Nat), cap < ss.length + 1 → (Builtin.firstCells i.size ss.length (.slice bs ss.length cap)).run Tryz.prog w.drew = .ok (ss.map Value.string).toArray w.drew →
      ∃ v' w', (Builtin.append_ #[27, 27] ty #[.slice bs ss.length cap, .slice (some p) 1 cp]).run Tryz.prog w = .ok v' w' ∧ ORow w' base v' (ss ++ [t]) ∧ (∀ row, w.grownBy w' row) ∧ sBlk v' = some w.heap.size := by
    intro bs cap hlt hold
    have hr := run_append_grow_src w _ _ ty _ i _ Tryz.underlying27 hi hz0 bs ss.length cap (ss.map Value.string) hold _ 1 [.string t] hsrc hlt (by omega) (by
      have := nextslicecap_le hlt
      rw [hz2]
      omega)
    rw [show ss.map Value.string ++ [.string t] = (ss ++ [t]).map Value.string by simp] at hr
    have hge := grownCap_ge w (ss.length + 1) cap 9
    have hmx := grownCap_le_maxLen w (ss.length + 1) cap 9 (by unfold maxLen; omega)
    have hfr := ORow.fresh w base (ss ++ [t]) (grownCap w (ss.length + 1) cap 9) (Builtin.zeroCells (Value.string ⟨#[]⟩).cells (grownCap w (ss.length + 1) cap 9 - (ss.length + 1))) hbase (by simpa using hge) hmx (by rw [size_zeroCells, List.length_append]; simp [Value.cells])
    rw [List.length_append] at hfr
    exact ⟨_, _, hr, hfr, fun row => ⟨rfl, rfl, rfl, by simp, fun k hk _ => heap_alloc_old w.drew _ hk⟩, rfl⟩
  rcases hq with ⟨rfl, rfl⟩ | ⟨g, off, cap, rfl, h1, hg, h2, h3, h4, hc⟩
  · obtain ⟨v', w', hr, h5, h6, h7⟩ := grow none 0 (by simp) (run_firstCells_none w.drew _ _ _ _)
    exact ⟨v', w', hr, h5, h6 _, .inr h7⟩
  · by_cases hroom : ss.length + 1 ≤ cap
    · have hle : ∀ j, j < [Value.string t].length → (ss.length * 1 + j) < cap := fun j hj => by simp at hj; omega
      have hr := run_append_room_src w _ _ ty _ i Tryz.underlying27 hi g off ss.length cap _ 1 [.string t] hsrc hroom (fun j hj => by rw [hz1, Nat.add_assoc]; exact (h4 _ (hle j hj)).1) (fun j hj => by rw [hz1, Nat.add_assoc]; exact (h4 _ (hle j hj)).2)
      rw [hz1] at hr
      refine ⟨_, _, hr, .inr ⟨g, off, cap, by rw [List.length_append]; rfl, h1, by rw [size_setC]; exact hg, by rw [List.length_append]; exact hroom, h3, fun j hj => ⟨?_, ?_⟩, fun k s hs => ?_⟩, ⟨World.os_setCells _ _ _ _, tape_setC _ _ _ _, World.output_setCells _ _ _ _, by rw [size_setC]; exact Nat.le_refl _, fun k hk hne => World.heap_setCells_other _ _ _ _ hk (fun e => hne (by rw [e]; rfl))⟩, .inl rfl⟩
      · exact isSome_setC _ _ _ _ _ (h4 j hj).1
      · rw [World.frozen?_setCells]; exact (h4 j hj).2
      · rcases Nat.lt_or_ge k ss.length with h' | h'
        · rw [List.getElem?_append_left h'] at hs
          rw [World.cell?_setCells_out _ _ _ _ _ (fun _ _ => .inl (by simp; omega))]
          exact hc k s hs
        · rw [List.getElem?_append_right h'] at hs
          have hk0 : k = ss.length := by
            have := (List.getElem?_eq_some_iff.1 hs).1
            simp at this
            omega
          subst hk0
          simp at hs
          subst hs
          have hin := World.cell?_setCells_in g [.string t] (off + ss.length * 1) w (fun j hj => by rw [Nat.add_assoc]; exact (h4 _ (hle j hj)).1) 0 (by simp)
          simpa using hin
    · obtain ⟨v', w', hr, h5, h6, h7⟩ := grow (some ⟨g, off, none⟩) cap (by omega) (run_firstCells_some w.drew _ _ _ _ _ _ (by rw [hz1]; simp) (by
        intro j u hu
        obtain ⟨s, hs, rfl⟩ : ∃ s, ss[j]? = some s ∧ u = .string s := by
          rw [List.getElem?_map] at hu
          cases e : ss[j]? with
          | none => rw [e] at hu; cases hu
          | some s => rw [e] at hu; cases hu; exact ⟨s, rfl, rfl⟩
        rw [Go.WideShapes.add_plain]
        exact hc j s hs))
      exact ⟨v', w', hr, h5, h6 _, .inr h7⟩

end Go.Proofs.YthkmpihfhkmaoaaGreat

/-
  (*impl.clearing).isMarked, rest.
-/
namespace Go.Proofs.YthkmpihfhkmaoaaGreat
open Go.ChangeShapes Go.WideShapes Go.ChangeAt Go.RowKit

theorem mark_mem {wd : Int} {ms : List ByteArray} {s : ByteArray} (hms : ∀ x ∈ ms, (x.size : Int) = wd) (hs : (s.size : Int) = wd) (h8 : wd ≤ 8) : keyL s ∈ ms.map keyL ↔ s ∈ ms := by
  constructor
  · intro h
    obtain ⟨x, hx, e⟩ := List.mem_map.1 h
    have := hms x hx
    have := key_inj e (by omega) (by omega)
    exact this ▸ hx
  · exact fun h => List.mem_map.2 ⟨s, h, rfl⟩

set_option maxRecDepth 20000 in
set_option maxHeartbeats 4000000 in
theorem isMarked_any (c d : Nat) (ph top at_ ro : Int) (Q M D : Value) (mm n cc : Nat) (f : Lit → Option Value) (wd : Int) (ms : List ByteArray) (s : ByteArray) (w : World) (hbox : CellsAt w c (clC d ph Q M top at_ ro mm D)) (hM : KMapC w 98 mm n cc f) (hF : MK ms f cc) (hms : ∀ x ∈ ms, (x.size : Int) = wd) (hs : (s.size : Int) = wd) (h8 : wd ≤ 8) :
    Calls Tryz.prog 134 #[.pointer (some ⟨c, 0, none⟩), .string s] w fun e w' => Says (s ∈ ms) w w' e := by
  obtain ⟨k, hk, hk0, _, hki⟩ := hF.get (keyL s)
  have HK : Hid (0 < k ↔ s ∈ ms) := hki.trans (mark_mem hms hs h8)
  have HS : Hid (∀ X, Below w.heap.size w X → X.cell? ⟨c, 7, none⟩ = some (.map (some mm)) ∧ (Instr.lookup 82 (.map (some mm)) (keyV s) false).run Tryz.prog X = .ok (.int .i64 k) X) := fun X hX =>
    ⟨((hbox.below hX) 7 _ rfl).1, by have := (hM.keep hX hM.lt).map.look keyed Tryz.underlying82 (zeroInt X) (key_lit s); rw [hk] at this; exact this⟩
  have D0 : Below w.heap.size w w.drew := (Below.refl _ _).drew
  clear hbox hM hF hk hki hms
  go_enter Tryz.func134, Tryz.ntmps134
  go_upto_region 1 with fail
  go_region_held3 (fun X => X.cell? ⟨c, 7, none⟩ = some (.map (some mm)) ∧ (Instr.lookup 82 (.map (some mm)) (keyV s) false).run Tryz.prog X = .ok (.int .i64 k) X)
    (first | with_reducible exact HS.out _ D0 | with_reducible exact HS.out _ B1)
    (first | (go_at_call 63; refine (key_any s w.drew).mono ?_; rintro e w1 ⟨rfl, hb1⟩; have B1 : Below w.heap.size w w1 := D0.trans (hb1.mono D0.size)))
  all_goals
    go_wp2
    go_ret
    exact ⟨_, rfl, by rw [decide_eq_true_iff]; exact HK.out, B1⟩

theorem c9 {w : World} {b : Nat} {a0 a1 a2 a3 a4 a5 a6 a7 a8 : Value} (h : CellsAt w b [a0, a1, a2, a3, a4, a5, a6, a7, a8]) : (w.cell? ⟨b, 0, none⟩ = some a0 ∧ w.frozen? ⟨b, 0, none⟩ = false) ∧ (w.cell? ⟨b, 1, none⟩ = some a1 ∧ w.frozen? ⟨b, 1, none⟩ = false) ∧ (w.cell? ⟨b, 2, none⟩ = some a2 ∧ w.frozen? ⟨b, 2, none⟩ = false) ∧ (w.cell? ⟨b, 3, none⟩ = some a3 ∧ w.frozen? ⟨b, 3, none⟩ = false) ∧ (w.cell? ⟨b, 4, none⟩ = some a4 ∧ w.frozen? ⟨b, 4, none⟩ = false) ∧ (w.cell? ⟨b, 5, none⟩ = some a5 ∧ w.frozen? ⟨b, 5, none⟩ = false) ∧ (w.cell? ⟨b, 6, none⟩ = some a6 ∧ w.frozen? ⟨b, 6, none⟩ = false) ∧ (w.cell? ⟨b, 7, none⟩ = some a7 ∧ w.frozen? ⟨b, 7, none⟩ = false) ∧ (w.cell? ⟨b, 8, none⟩ = some a8 ∧ w.frozen? ⟨b, 8, none⟩ = false) :=
  ⟨h 0 _ rfl, h 1 _ rfl, h 2 _ rfl, h 3 _ rfl, h 4 _ rfl, h 5 _ rfl, h 6 _ rfl, h 7 _ rfl, h 8 _ rfl⟩

theorem tn1 (w : World) (R j : Nat) (v : Value) : Tn [R] w (w.setCell ⟨R, j, none⟩ v) := Tn.set w R j v (by simp)

set_option maxRecDepth 20000 in
set_option maxHeartbeats 4000000 in
theorem rest_any (c d : Nat) (ph top at_ ro : Int) (Q M D : Value) (mm : Nat) (w : World) (hbox : CellsAt w c (clC d ph Q M top at_ ro mm D)) (h0 : 0 ≤ ro) (h1 : ro ≤ 1000000000) :
    Calls Tryz.prog 103 #[.pointer (some ⟨c, 0, none⟩)] w fun e w' => e = .returned (.tuple #[]) ∧ ∃ mm', CellsAt w' c (clC d 0 (.slice none 0 0) (.slice none 0 0) 0 0 (ro + 1) mm' D) ∧ Tn [c] w w' := by
  have hcl := hbox.lt
  obtain ⟨W, hW⟩ : ∃ W, W = (((((w.setCell ⟨c, 1, none⟩ (.int .i64 0)).setCell ⟨c, 2, none⟩ (.slice none 0 0)).setCell ⟨c, 3, none⟩ (.slice none 0 0)).setCell ⟨c, 4, none⟩ (.int .i64 0)).setCell ⟨c, 5, none⟩ (.int .i64 0)).setCell ⟨c, 6, none⟩ (.int .i64 (ro + 1)) := ⟨_, rfl⟩
  have zW : CellsAt W c (clC d 0 (.slice none 0 0) (.slice none 0 0) 0 0 (ro + 1) mm D) := by rw [hW]; exact (((((hbox.set 1 _).set 2 _).set 3 _).set 4 _).set 5 _).set 6 _
  have tW : Tn [c] w W := by rw [hW]; exact (((((tn1 _ _ _ _).trans (tn1 _ _ _ _)).trans (tn1 _ _ _ _)).trans (tn1 _ _ _ _)).trans (tn1 _ _ _ _)).trans (tn1 _ _ _ _)
  obtain ⟨⟨q0, f0⟩, ⟨q1, f1⟩, ⟨q2, f2⟩, ⟨q3, f3⟩, ⟨q4, f4⟩, ⟨q5, f5⟩, ⟨q6, f6⟩, ⟨q7, f7⟩, q8, f8⟩ := c9 hbox
  have HW : Hid _ := hW
  have HZ : Hid (CellsAt W c (clC d 0 (.slice none 0 0) (.slice none 0 0) 0 0 (ro + 1) mm D)) := zW
  clear hW hbox zW
  go_enter Tryz.func103, Tryz.ntmps103
  go_upto_region 1 with fail
  rw [← HW.out]
  clear HW q0 q1 q2 q3 q4 q5 q6 q7 q8 f0 f1 f2 f3 f4 f5 f6 f7 f8
  obtain ⟨⟨q0, f0⟩, ⟨q1, f1⟩, ⟨q2, f2⟩, ⟨q3, f3⟩, ⟨q4, f4⟩, ⟨q5, f5⟩, ⟨q6, f6⟩, ⟨q7, f7⟩, q8, f8⟩ := c9 HZ.out
  go_wp2_with fail
  refine (marksOf_any 0 0 0 (ro + 1) none none 0 0 0 [] W (.inl rfl) (by simp)).mono ?_
  rintro e w1 ⟨mm', cc, f, rfl, hmm, hM, hF, hb1⟩
  have z1 := CellsAt.below HZ.out hb1
  obtain ⟨q7', f7'⟩ := z1 7 _ rfl
  have HE : Hid (CellsAt w1 c (clC d 0 (.slice none 0 0) (.slice none 0 0) 0 0 (ro + 1) mm D) ∧ Below W.heap.size W w1) := And.intro z1 hb1
  clear hM hF hmm z1 hb1 q0 q1 q2 q3 q4 q5 q6 q7 q8 f0 f1 f2 f3 f4 f5 f6 f7 f8
  go_wp2
  exact ⟨rfl, _, results_none rfl _ _ _, rfl, mm', CellsAt.set HE.out.1 7 _, (tW.trans (Tn.of HE.out.2)).trans (tn1 _ _ _ _)⟩

end Go.Proofs.YthkmpihfhkmaoaaGreat

/-
  spec.l4Has.
-/
namespace Go.Proofs.YthkmpihfhkmaoaaGreat
open Go.ChangeShapes Go.WideShapes Go.ChangeAt Go.RowKit

set_option maxHeartbeats 400000 in
theorem has_any (a : Option Addr) (cap : Nat) (ss : List ByteArray) (s : ByteArray) (w : World) (B : Nat) (hrow : SRow w B a ss) (hl : ss.length ≤ 1048576) :
    Calls Tryz.prog 88 #[.slice a ss.length cap, .string s] w fun e w' => e = .returned (.bool (ss.any (fun x => decide (x = s)))) ∧ w' = w := by
  go_enter Tryz.func88, Tryz.ntmps88
  go_wp2
  go_loop [5] (fun i => ∃ k : Nat, k ≤ ss.length ∧ i = .int .i64 k ∧ Hid (∀ j x, j < k → ss[j]? = some x → x ≠ s)) (fun i => ss.length - (intOf i).toNat)
  case atStart => exact ⟨0, Nat.zero_le _, rfl, fun j x h => by omega⟩
  case round =>
    obtain ⟨k, hk, rfl, hall⟩ := hrel
    by_cases hlt : k < ss.length
    · obtain ⟨b, off, ha, hb, hc⟩ := hrow.at hlt
      subst ha
      have hg : Hid (ss[k]? = some ss[k]) := List.getElem?_eq_getElem hlt
      have c0 := hc k _ hg
      clear hc hrow
      generalize ss[k] = x at *
      by_cases he : x = s
      · subst he
        have hh : Hid (ss.any (fun y => decide (y = x)) = true) := by
          show _ = _
          rw [List.any_eq_true]
          exact ⟨x, List.mem_of_getElem? hg.out, by simp⟩
        go_wp2
        go_ret
        exact ⟨ret_b hh.out.symm, rfl⟩
      · have hne := beq_ne he
        have HA : Hid (∀ j y, j < k + 1 → ss[j]? = some y → y ≠ s) := by
          intro j y hj hy
          rcases Nat.lt_or_ge j k with h' | h'
          · exact hall.out j y h' hy
          · obtain rfl : j = k := by omega
            rw [hg.out] at hy
            cases hy
            exact he
        clear he hall hg
        go_wp2
        exact ⟨⟨k + 1, by omega, by go_num, HA⟩, by simp [intOf]; omega⟩
    · go_wp2
      go_ret
      refine ⟨ret_b ?_, rfl⟩
      symm
      rw [List.any_eq_false]
      intro x hx
      obtain ⟨j, hj⟩ := List.getElem?_of_mem hx
      simpa using hall.out j x (by have := (List.getElem?_eq_some_iff.1 hj).1; omega) hj

end Go.Proofs.YthkmpihfhkmaoaaGreat

/-
  spec.l5Roots.
-/
namespace Go.Proofs.YthkmpihfhkmaoaaGreat
open Go.ChangeShapes Go.WideShapes Go.ChangeAt Go.RowKit

/-- A text behind a list, once. -/
def addS (out : List ByteArray) (s : ByteArray) : List ByteArray := if out.any (fun x => decide (x = s)) = true then out else out ++ [s]

theorem addS_length (out : List ByteArray) (s : ByteArray) : (addS out s).length ≤ out.length + 1 := by
  unfold addS
  split <;> simp

theorem fold_snoc {xs : List ByteArray} {k : Nat} {x : ByteArray} (o : List ByteArray) (hx : xs[k]? = some x) : (xs.take (k + 1)).foldl addS o = addS ((xs.take k).foldl addS o) x := by
  obtain ⟨h, rfl⟩ := List.getElem?_eq_some_iff.1 hx
  rw [List.take_succ_eq_append_getElem h, List.foldl_append]
  rfl

theorem fold_length (xs o : List ByteArray) : (xs.foldl addS o).length ≤ o.length + xs.length := by
  induction xs generalizing o with
  | nil => simp
  | cons x xs ih =>
    have h1 := ih (addS o x)
    have h2 := addS_length o x
    simp only [List.foldl_cons, List.length_cons]
    omega

theorem own_row' {w : World} {base : Nat} {a : Option Addr} {c : Nat} {ss : List ByteArray} (h : w.ownsRow base 9 1 (.slice a ss.length c) ss.length (ss.map Value.string)) : SRow w w.heap.size a ss := by
  rcases h.2 with ⟨hv, h0⟩ | ⟨g, cap, cur, hv, _⟩
  · exact .inl (List.eq_nil_of_length_eq_zero h0)
  · cases hv
    exact SRow.own h

def rootsL (ps : List Pd) (ls : List Ld) : List ByteArray := (ls.map (·.sum)).foldl addS ((ps.map (·.sum)).foldl addS [])

set_option maxRecDepth 20000 in
set_option maxHeartbeats 4000000 in
theorem sRoots_any (wd now given births : Int) (T : Value) (p l : Option Addr) (pc lc : Nat) (ps : List Pd) (ls : List Ld) (w : World) (hp : PRow w w.heap.size p ps) (hq : LRow w w.heap.size l ls) (hpl : ps.length ≤ 100) (hll : ls.length ≤ 200) :
    Calls Tryz.prog 78 #[.agg #[.int .i64 wd, .int .i64 now, .int .i64 given, .int .i64 births, T, .slice p ps.length pc, .slice l ls.length lc]] w fun e w' => ∃ g c, e = .returned (.slice (some ⟨g, 0, none⟩) (rootsL ps ls).length c) ∧ w'.ownsRow (w.heap.size + 1) 9 1 (.slice (some ⟨g, 0, none⟩) (rootsL ps ls).length c) (rootsL ps ls).length ((rootsL ps ls).map Value.string) ∧ Below w.heap.size w w' := by
  obtain ⟨i0, hi, hz0, hz1, hz2⟩ := info_parts Tryz.infoStr
  have HPR : Hid _ := hp
  have HLR : Hid _ := hq
  have hx := SBox.new w wd now given births T (.slice p ps.length pc) (.slice l ls.length lc) 36
  have hb0 : Below w.heap.size w (w.alloc (.cells #[.int .i64 wd, .int .i64 now, .int .i64 given, .int .i64 births, T, .slice p ps.length pc, .slice l ls.length lc] 36)) := (Below.refl _ _).alloc (Nat.le_refl _) _
  clear hp hq
  unfold rootsL
  go_enter Tryz.func78, Tryz.ntmps78
  go_wp2
  go_loopw [3, 4] (fun v i wr => ∃ (k g c : Nat), k ≤ ps.length ∧ i = .int .i64 k ∧ v = .slice (some ⟨g, 0, none⟩) (((ps.map (·.sum)).take (k)).foldl addS []).length c ∧ Hid (wr.ownsRow (w.heap.size + 1) 9 1 (.slice (some ⟨g, 0, none⟩) (((ps.map (·.sum)).take (k)).foldl addS []).length c) (((ps.map (·.sum)).take (k)).foldl addS []).length ((((ps.map (·.sum)).take (k)).foldl addS []).map Value.string)) ∧ Below w.heap.size w wr ∧ Hid (SBox wr w.heap.size wd now given births T (.slice p ps.length pc) (.slice l ls.length lc))) (fun _ i _ => ps.length - (intOf i).toNat)
  case atStart =>
    refine ⟨0, w.heap.size + 1, 0, Nat.zero_le _, rfl, by simp, ?_, hb0.alloc hb0.size _, hx.keep ((Below.refl _ _).alloc (Nat.le_refl _) _) hx.2.2.2.2.2.2.2⟩
    have := World.ownsRow_lit (e := 9) (w.alloc (.cells #[.int .i64 wd, .int .i64 now, .int .i64 given, .int .i64 births, T, .slice p ps.length pc, .slice l ls.length lc] 36)) #[] (size := 1) 0 (base := w.heap.size + 1) (by simp) (by simp [maxLen]) rfl
    rw [show (w.alloc (.cells #[.int .i64 wd, .int .i64 now, .int .i64 given, .int .i64 births, T, .slice p ps.length pc, .slice l ls.length lc] 36)).heap.size = w.heap.size + 1 from by simp] at this
    exact this
  case round =>
    clear hx
    obtain ⟨k, g, c, hk, rfl, rfl, HO, hbel, HX⟩ := hrel
    obtain ⟨x0, x1, x2, x3, x4, x5, x6, x7⟩ := HX.out
    by_cases hlt : k < ps.length
    · obtain ⟨b, off, ha, hb, hc⟩ := (PRow.below HPR.out hbel).at hlt
      subst ha
      have HG : Hid (ps[k]? = some ps[k]) := List.getElem?_eq_getElem hlt
      obtain ⟨_, c1⟩ := hc k _ HG.out
      have hbr : b < wr.heap.size := by omega
      have HN : Hid ((ps.map (·.sum))[k]? = some ps[k].sum) := by show _ = _; rw [List.getElem?_map, HG.out]; rfl
      clear hc
      generalize ps[k] = x at *
      have hlen : (((ps.map (·.sum)).take (k)).foldl addS []).length ≤ 0 + k := by
        have := fold_length ((ps.map (·.sum)).take k) ([])
        skip
        simp at this
        omega
      have HF : Hid _ := fold_snoc ([]) HN.out
      generalize hO : ((ps.map (·.sum)).take (k)).foldl addS [] = O at *
      have hgb := (HO.out.lt g rfl).1
      have hgl := (HO.out.lt g rfl).2
      have HR : Hid (SRow wr wr.heap.size (some ⟨g, 0, none⟩) O) := own_row' HO.out
      go_wp2_with fail
      refine (has_any _ c O x.sum wr _ HR.out (by omega)).mono ?_
      rintro e w1 ⟨rfl, rfl⟩
      cases hin : O.any (fun y => decide (y = x.sum)) with
      | true =>
        have HE : Hid (((ps.map (·.sum)).take (k + 1)).foldl addS [] = O) := by show _ = _; rw [HF.out]; unfold addS; rw [if_pos hin]
        go_wp2
        refine ⟨⟨k + 1, g, c, by omega, by go_num, by rw [HE.out], ?_, hbel, HX⟩, by simp [intOf]; omega⟩
        rw [HE.out]; exact HO
      | false =>
        have HE : Hid (((ps.map (·.sum)).take (k + 1)).foldl addS [] = O ++ [x.sum]) := by show _ = _; rw [HF.out]; unfold addS; rw [if_neg (by rw [hin]; decide)]
        go_wp2_with (first
          | (at_builtin; refine wpList_append_own _ rfl _ _ 27 rfl (w.heap.size + 1) 9 i0 (.string ⟨#[]⟩) 1 16 Tryz.underlying27 hi hz0 hz1 hz2 rfl (by decide) _ O.length (O.map Value.string) rfl ?d0 ⟨w1.heap.size, 0, none⟩ 1 1 [.string x.sum] rfl rfl ?d1 ?d2 ?d3 ?d4 ?d5 ?_)
          | go_in)
        case d0 => exact HO.out.alloc _
        case d1 => exact cell_one_new _ _ _
        case d2 => intro u hu; simp at hu; subst hu; rfl
        case d3 => unfold maxLen; omega
        case d4 => omega
        case d5 => simp; omega
        intro v' w2 hown' hgrow _
        obtain ⟨g', c', hv', _, _⟩ := hown'.form (by omega)
        subst hv'
        have hbG : Below (w.heap.size + 1) w1 w2 := ((Below.refl _ _).alloc (by omega) _).grown hgrow (by simp; omega) (by intro j hj; simp [Value.ownBlock] at hj; omega)
        have HB : Hid (Below w.heap.size w w2) := hbel.trans (hbG.mono (by omega))
        have HX2 : Hid _ := SBox.keep HX.out hbG (by omega)
        have HN2 : Hid (w2.ownsRow (w.heap.size + 1) 9 1 (.slice (some ⟨g', 0, none⟩) (O.length + 1) c') (O.length + 1) ((O ++ [x.sum]).map Value.string)) := (by simpa using hown' : World.ownsRow w2 (w.heap.size + 1) 9 1 (.slice (some ⟨g', 0, none⟩) (O.length + 1) c') (O.length + 1) ((O ++ [x.sum]).map Value.string))
        clear hown' hgrow hbG
        go_wp2
        refine ⟨⟨k + 1, g', c', by omega, by go_num, by rw [HE.out]; simp, ?_, HB.out, HX2⟩, by simp [intOf]; omega⟩
        rw [HE.out, List.length_append]
        exact HN2
    · rw [List.take_of_length_le (by simp; omega)] at HO ⊢
      go_wp2
      go_loopw [3, 5] (fun v i wr => ∃ (k g c : Nat), k ≤ ls.length ∧ i = .int .i64 k ∧ v = .slice (some ⟨g, 0, none⟩) (((ls.map (·.sum)).take (k)).foldl addS ((ps.map (·.sum)).foldl addS [])).length c ∧ Hid (wr.ownsRow (w.heap.size + 1) 9 1 (.slice (some ⟨g, 0, none⟩) (((ls.map (·.sum)).take (k)).foldl addS ((ps.map (·.sum)).foldl addS [])).length c) (((ls.map (·.sum)).take (k)).foldl addS ((ps.map (·.sum)).foldl addS [])).length ((((ls.map (·.sum)).take (k)).foldl addS ((ps.map (·.sum)).foldl addS [])).map Value.string)) ∧ Below w.heap.size w wr ∧ Hid (SBox wr w.heap.size wd now given births T (.slice p ps.length pc) (.slice l ls.length lc))) (fun _ i _ => ls.length - (intOf i).toNat)
      case atStart => exact ⟨0, g, c, Nat.zero_le _, rfl, rfl, HO, hbel, HX⟩
      case round =>
        clear x0 x1 x2 x3 x4 x5 x6 x7
        obtain ⟨k, g, c, hk, rfl, rfl, HO, hbel, HX⟩ := hrel
        obtain ⟨x0, x1, x2, x3, x4, x5, x6, x7⟩ := HX.out
        by_cases hlt : k < ls.length
        · obtain ⟨b, off, ha, hb, hc⟩ := (LRow.below HLR.out hbel).at hlt
          subst ha
          have HG : Hid (ls[k]? = some ls[k]) := List.getElem?_eq_getElem hlt
          obtain ⟨_, c1, _⟩ := hc k _ HG.out
          have hbr : b < wr.heap.size := by omega
          have HN : Hid ((ls.map (·.sum))[k]? = some ls[k].sum) := by show _ = _; rw [List.getElem?_map, HG.out]; rfl
          clear hc
          generalize ls[k] = x at *
          have hlen : (((ls.map (·.sum)).take (k)).foldl addS ((ps.map (·.sum)).foldl addS [])).length ≤ ps.length + k := by
            have := fold_length ((ls.map (·.sum)).take k) ((ps.map (·.sum)).foldl addS [])
            have hbase := fold_length (ps.map (·.sum)) []
            simp at hbase
            simp at this
            omega
          have HF : Hid _ := fold_snoc ((ps.map (·.sum)).foldl addS []) HN.out
          generalize hO : ((ls.map (·.sum)).take (k)).foldl addS ((ps.map (·.sum)).foldl addS []) = O at *
          have hgb := (HO.out.lt g rfl).1
          have hgl := (HO.out.lt g rfl).2
          have HR : Hid (SRow wr wr.heap.size (some ⟨g, 0, none⟩) O) := own_row' HO.out
          go_wp2_with fail
          refine (has_any _ c O x.sum wr _ HR.out (by omega)).mono ?_
          rintro e w1 ⟨rfl, rfl⟩
          cases hin : O.any (fun y => decide (y = x.sum)) with
          | true =>
            have HE : Hid (((ls.map (·.sum)).take (k + 1)).foldl addS ((ps.map (·.sum)).foldl addS []) = O) := by show _ = _; rw [HF.out]; unfold addS; rw [if_pos hin]
            go_wp2
            refine ⟨⟨k + 1, g, c, by omega, by go_num, by rw [HE.out], ?_, hbel, HX⟩, by simp [intOf]; omega⟩
            rw [HE.out]; exact HO
          | false =>
            have HE : Hid (((ls.map (·.sum)).take (k + 1)).foldl addS ((ps.map (·.sum)).foldl addS []) = O ++ [x.sum]) := by show _ = _; rw [HF.out]; unfold addS; rw [if_neg (by rw [hin]; decide)]
            go_wp2_with (first
              | (at_builtin; refine wpList_append_own _ rfl _ _ 27 rfl (w.heap.size + 1) 9 i0 (.string ⟨#[]⟩) 1 16 Tryz.underlying27 hi hz0 hz1 hz2 rfl (by decide) _ O.length (O.map Value.string) rfl ?d0 ⟨w1.heap.size, 0, none⟩ 1 1 [.string x.sum] rfl rfl ?d1 ?d2 ?d3 ?d4 ?d5 ?_)
              | go_in)
            case d0 => exact HO.out.alloc _
            case d1 => exact cell_one_new _ _ _
            case d2 => intro u hu; simp at hu; subst hu; rfl
            case d3 => unfold maxLen; omega
            case d4 => omega
            case d5 => simp; omega
            intro v' w2 hown' hgrow _
            obtain ⟨g', c', hv', _, _⟩ := hown'.form (by omega)
            subst hv'
            have hbG : Below (w.heap.size + 1) w1 w2 := ((Below.refl _ _).alloc (by omega) _).grown hgrow (by simp; omega) (by intro j hj; simp [Value.ownBlock] at hj; omega)
            have HB : Hid (Below w.heap.size w w2) := hbel.trans (hbG.mono (by omega))
            have HX2 : Hid _ := SBox.keep HX.out hbG (by omega)
            have HN2 : Hid (w2.ownsRow (w.heap.size + 1) 9 1 (.slice (some ⟨g', 0, none⟩) (O.length + 1) c') (O.length + 1) ((O ++ [x.sum]).map Value.string)) := (by simpa using hown' : World.ownsRow w2 (w.heap.size + 1) 9 1 (.slice (some ⟨g', 0, none⟩) (O.length + 1) c') (O.length + 1) ((O ++ [x.sum]).map Value.string))
            clear hown' hgrow hbG
            go_wp2
            refine ⟨⟨k + 1, g', c', by omega, by go_num, by rw [HE.out]; simp, ?_, HB.out, HX2⟩, by simp [intOf]; omega⟩
            rw [HE.out, List.length_append]
            exact HN2
        · rw [List.take_of_length_le (by simp; omega)] at HO ⊢
          go_wp2
          go_ret
          exact ⟨_, _, rfl, HO.out, hbel⟩


end Go.Proofs.YthkmpihfhkmaoaaGreat

/-
  (*impl.draft).heldSums.
-/
namespace Go.Proofs.YthkmpihfhkmaoaaGreat
open Go.ChangeShapes Go.WideShapes Go.ChangeAt Go.RowKit

theorem mem_addS (out : List ByteArray) (s x : ByteArray) : x ∈ addS out s ↔ x ∈ out ∨ x = s := by
  unfold addS
  split
  · rename_i h
    simp at h
    constructor
    · exact fun h => .inl h
    · rintro (h' | rfl)
      · exact h'
      · exact h
  · simp

theorem mem_fold (xs : List ByteArray) : ∀ (o : List ByteArray) (x : ByteArray), x ∈ xs.foldl addS o ↔ x ∈ o ∨ x ∈ xs := by
  induction xs with
  | nil => intro o x; simp
  | cons y ys ih =>
    intro o x
    rw [List.foldl_cons, ih, mem_addS, List.mem_cons, or_assoc]

theorem fold_in {xs : List ByteArray} {s : ByteArray} (h : s ∈ xs) : (xs ++ [s]).foldl addS [] = xs.foldl addS [] := by
  rw [List.foldl_append, List.foldl_cons, List.foldl_nil]
  have : s ∈ xs.foldl addS [] := (mem_fold xs [] s).2 (.inr h)
  exact if_pos (by simpa using this)

theorem fold_out {xs : List ByteArray} {s : ByteArray} (h : s ∉ xs) : (xs ++ [s]).foldl addS [] = xs.foldl addS [] ++ [s] := by
  rw [List.foldl_append, List.foldl_cons, List.foldl_nil]
  have : s ∉ xs.foldl addS [] := fun e => h (((mem_fold xs [] s).1 e).resolve_left (by simp))
  exact if_neg (by simpa using this)

theorem KMapC.blk {w w' : World} {K : TypeId} {b n c : Nat} {f : Lit → Option Value} (h : KMapC w K b n c f) (hb : w'.heap[b]? = w.heap[b]?) : KMapC w' K b n c f := by
  obtain ⟨D, ⟨es, clock, h1, h2⟩, h3⟩ := h
  exact ⟨D, ⟨es, clock, hb.trans h1, h2⟩, h3⟩

/-- The sums gathered so far: the row behind sb, the marks behind eb. -/
def HS (w : World) (base eb sb : Nat) (xs : List ByteArray) : Prop :=
  ∃ V b n c f, CellsAt w sb [V] ∧ CellsAt w eb [.map (some b)] ∧ ORow w base V (xs.foldl addS []) ∧ KMapC w 98 b n c f ∧ MK xs f c ∧ n ≤ xs.length ∧ (∀ g, sBlk V = some g → g ≠ sb ∧ g ≠ eb ∧ g ≠ b) ∧ sb ≠ eb ∧ sb ≠ b ∧ eb ≠ b ∧ base ≤ sb ∧ base ≤ eb ∧ base ≤ b

theorem HS.below {w w' : World} {base eb sb : Nat} {xs : List ByteArray} (h : HS w base eb sb xs) (hb : Below w.heap.size w w') : HS w' base eb sb xs := by
  obtain ⟨V, b, n, c, f, h1, h2, h3, h4, h5⟩ := h
  exact ⟨V, b, n, c, f, h1.below hb, h2.below hb, h3.below hb, h4.keep hb h4.lt, h5⟩

set_option maxRecDepth 20000 in
set_option maxHeartbeats 8000000 in
theorem addHeld_any (base eb sb : Nat) (wd : Int) (xs : List ByteArray) (s : ByteArray) (w : World) (h : HS w base eb sb xs) (hx : ∀ x ∈ xs, (x.size : Int) = wd) (hs : (s.size : Int) = wd) (h8 : wd ≤ 8) (hl : xs.length ≤ 1000) (hbase : base ≤ w.heap.size) :
    Calls Tryz.prog 163 #[.string s, .pointer (some ⟨eb, 0, none⟩), .pointer (some ⟨sb, 0, none⟩)] w fun e w' => (∃ v, e = .returned v) ∧ HS w' base eb sb (xs ++ [s]) ∧ Below base w w' := by
  obtain ⟨V, b, n, c, f, h1, h2, h3, h4, h5, hnx, hV, hsb_eb, hsb_b, heb_b, hbsb, hbeb, hbb⟩ := h
  obtain ⟨nn, hn, hn0, hn1, hni⟩ := h5.get (keyL s)
  obtain ⟨va, vc, rfl, _⟩ := h3.row
  have HI : Hid (0 < nn ↔ s ∈ xs) := hni.trans (mark_mem hx hs h8)
  have hlen : (xs.foldl addS []).length ≤ 100000000 := by have := fold_length xs []; simp at this; omega
  have H0 : Hid (CellsAt w sb [.slice va (xs.foldl addS []).length vc] ∧ CellsAt w eb [.map (some b)] ∧ ORow w base (.slice va (xs.foldl addS []).length vc) (xs.foldl addS []) ∧ KMapC w 98 b n c f ∧ MK xs f c) := ⟨h1, h2, h3, h4, h5⟩
  clear h1 h2 h3 h4 h5 hni hx
  go_enter Tryz.func163, Tryz.ntmps163
  go_wp2_with fail
  refine (key_any s w).mono ?_
  rintro e w1 ⟨rfl, hb1⟩
  obtain ⟨B, hB⟩ : ∃ B, B = w1.heap.size := ⟨_, rfl⟩
  obtain ⟨W, hW⟩ : ∃ W, W = w1.alloc (.cells #[.int .u8 (kB s 0), .int .u8 (kB s 1), .int .u8 (kB s 2), .int .u8 (kB s 3), .int .u8 (kB s 4), .int .u8 (kB s 5), .int .u8 (kB s 6), .int .u8 (kB s 7)] 98) := ⟨_, rfl⟩
  have b1 : Below w1.heap.size w1 W := by rw [hW]; exact (Below.refl _ _).alloc (Nat.le_refl _) _
  have bw : Below w.heap.size w W := hb1.trans (b1.mono hb1.size)
  have zB : w.heap.size ≤ B := by rw [hB]; exact hb1.size
  have zW : B < W.heap.size := by rw [hW, hB]; simp
  have Y1 : CellsAt W B (kCells s) := by rw [hW, hB]; exact CellsAt.new w1 (kCells s) 98
  have HX : Hid (KMapC W 98 b n c f ∧ CellsAt W sb [.slice va (xs.foldl addS []).length vc] ∧ CellsAt W eb [.map (some b)] ∧ ORow W base (.slice va (xs.foldl addS []).length vc) (xs.foldl addS []) ∧ MK xs f c ∧ (∀ g, sBlk (.slice va (xs.foldl addS []).length vc) = some g → g ≠ sb ∧ g ≠ eb ∧ g ≠ b) ∧ Below base w W) := ⟨H0.out.2.2.2.1.keep bw H0.out.2.2.2.1.lt, H0.out.1.below bw, H0.out.2.1.below bw, H0.out.2.2.1.below bw, H0.out.2.2.2.2, hV, bw.mono hbase⟩
  have hl1 := HX.out.1.map.look keyed Tryz.underlying82 (zeroInt W) (key_lit s)
  rw [hn] at hl1
  have e0 := (HX.out.2.2.1 0 _ rfl).1
  obtain ⟨s0, g0⟩ := HX.out.2.1 0 _ rfl
  have hsl := CellsAt.lt HX.out.2.1
  have hel := CellsAt.lt HX.out.2.2.1
  have hbl := KMapC.lt HX.out.1
  have hw0 : w.heap.size ≤ W.heap.size := bw.size
  have HW : Hid _ := hW
  have HB : Hid _ := hB
  have hsB : sb < B := Nat.lt_of_lt_of_le (CellsAt.lt H0.out.1) zB
  have heB : eb < B := Nat.lt_of_lt_of_le (CellsAt.lt H0.out.2.1) zB
  have hbB : b < B := Nat.lt_of_lt_of_le (KMapC.lt H0.out.2.2.2.1) zB
  have HVB : Hid (∀ g, sBlk (.slice va (xs.foldl addS []).length vc) = some g → g < B) := fun g hg => Nat.lt_of_lt_of_le (ORow.blk H0.out.2.2.1 hg).2 zB
  clear hW hB bw b1 hb1 H0 hV
  unfold keyV keyA at hl1 ⊢
  go_upto_region 1 with fail
  rw [← HW.out, ← HB.out]
  clear HW HB
  obtain ⟨y0, _⟩ := Y1 0 _ rfl
  obtain ⟨y1, _⟩ := Y1 1 _ rfl
  obtain ⟨y2, _⟩ := Y1 2 _ rfl
  obtain ⟨y3, _⟩ := Y1 3 _ rfl
  obtain ⟨y4, _⟩ := Y1 4 _ rfl
  obtain ⟨y5, _⟩ := Y1 5 _ rfl
  obtain ⟨y6, _⟩ := Y1 6 _ rfl
  obtain ⟨y7, _⟩ := Y1 7 _ rfl
  have HY : Hid (CellsAt W B (kCells s)) := Y1
  clear Y1
  by_cases hin : 0 < nn
  · have hq : (nn == 0) = false := by simp; omega
    have Hin : Hid (s ∈ xs) := HI.out.1 hin
    go_upto_region 3 with fail
    have kD : Below W.heap.size W W.drew := (Below.refl _ _).drew
    obtain ⟨st, w3, w4, he, hlD, hl3, hs4, hm4, hg3, hg4⟩ := (KMapC.keep HX.out.1 kD (KMapC.lt HX.out.1)).bump keyed Tryz.underlying82 (by unfold maxLen; omega) zeroInt (key_lit s) (.int .i64 (nn + 1))
    rw [hn] at he hlD hl3
    unfold goInt at he hs4
    unfold keyV keyA at he hlD hl3
    have g4 : W.grownBy w4 (some b) := (grown_below _ kD).trans hg4
    have HF : Hid (HS w4 base eb sb (xs ++ [s]) ∧ Below base w w4) := by
      refine ⟨⟨.slice va (xs.foldl addS []).length vc, b, n + 1, _, _, CellsAt.far' HX.out.2.1 g4 (fun e => hsb_b e.symm), CellsAt.far' HX.out.2.2.1 g4 (fun e => heb_b e.symm), ?_, hm4, MK.snoc HX.out.2.2.2.2.1 s hn0 hn1, by simp; omega, HX.out.2.2.2.2.2.1, hsb_eb, hsb_b, heb_b, hbsb, hbeb, hbb⟩, HX.out.2.2.2.2.2.2.trans ((Below.refl _ _).grown g4 (by omega) (fun q e => by cases e; omega))⟩
      have hrow := ORow.stays HX.out.2.2.2.1 g4.size (fun g hg => g4.block g (ORow.blk HX.out.2.2.2.1 hg).2 (fun e => (HX.out.2.2.2.2.2.1 g hg).2.2 (Option.some.inj e)))
      rw [fold_in Hin.out]; exact hrow
    clear hm4 hg3 hg4 g4 HX kD hl1
    go_region
    all_goals
      go_wp2
      go_end0
      exact ⟨⟨_, rfl⟩, HF.out.1, HF.out.2⟩
  · have hz : nn = 0 := by omega
    have hq : (nn == 0) = true := by simpa using hz
    have Hin : Hid (s ∉ xs) := fun e => hin (HI.out.2 e)
    obtain ⟨V', w5, hr, ho5, hg5, hb5⟩ := oappend (W.alloc (.cells #[.string s] 9)) base (.slice va (xs.foldl addS []).length vc) (xs.foldl addS []) (HX.out.2.2.2.1.below ((Below.refl _ _).alloc (Nat.le_refl _) _)) ⟨W.heap.size, 0, none⟩ 1 s (by simp [go_sem]) hlen (by simp; omega) 27
    obtain ⟨va', vc', rfl, _⟩ := ho5.row
    simp only [List.length_append, List.length_cons, List.length_nil, Nat.zero_add] at hr ho5 hb5
    have zA : (W.alloc (.cells #[.string s] 9)).heap.size = W.heap.size + 1 := by simp
    have bA : Below W.heap.size W (W.alloc (.cells #[.string s] 9)) := (Below.refl _ _).alloc (Nat.le_refl _) _
    have gg : ∀ k, k < W.heap.size → (∀ g, sBlk (.slice va (xs.foldl addS []).length vc) = some g → g ≠ k) → w5.heap[k]? = W.heap[k]? := fun k hk hg => (hg5.block k (by omega) (fun e => hg k e.symm rfl)).trans (bA.block k hk)
    have HS5 : CellsAt w5 sb [.slice va (xs.foldl addS []).length vc] := CellsAt.same HX.out.2.1 (gg sb hsl (fun g hg => (HX.out.2.2.2.2.2.1 g hg).1))
    have HE5 : CellsAt w5 eb [.map (some b)] := CellsAt.same HX.out.2.2.1 (gg eb hel (fun g hg => (HX.out.2.2.2.2.2.1 g hg).2.1))
    have HY5 : CellsAt w5 B (kCells s) := CellsAt.same HY.out (gg B zW (fun g hg => Nat.ne_of_lt (HVB.out g hg)))
    have hM5 : KMapC w5 98 b n c f := KMapC.blk HX.out.1 (gg b hbl (fun g hg => (HX.out.2.2.2.2.2.1 g hg).2.2))
    have hb5' : ∀ g, sBlk (.slice va' ((xs.foldl addS []).length + 1) vc') = some g → g ≠ sb ∧ g ≠ eb ∧ g ≠ b := fun g hg => by
      rcases hb5 with h' | h'
      · exact HX.out.2.2.2.2.2.1 g (h' ▸ hg)
      · rw [h', zA] at hg
        cases hg
        exact ⟨by omega, by omega, by omega⟩
    obtain ⟨X, hX⟩ : ∃ X, X = w5.setCell ⟨sb, 0, none⟩ (.slice va' ((xs.foldl addS []).length + 1) vc') := ⟨_, rfl⟩
    have hz5 := hg5.size
    have bX : Below base w X := by
      rw [hX]
      exact (HX.out.2.2.2.2.2.2.trans ((bA.mono (by omega)).grown hg5 (by omega) (fun k e => (ORow.blk HX.out.2.2.2.1 e).1))).setCell (by simpa using hbsb) _
    have oX : ∀ k, k ≠ sb → X.heap[k]? = w5.heap[k]? := fun k hk => by rw [hX]; exact Below.heap_setCell _ _ _ _ hk
    have zX : W.heap.size + 1 ≤ X.heap.size := by rw [hX]; simp; omega
    have HX' : Hid (KMapC X 98 b n c f ∧ CellsAt X sb [.slice va' ((xs.foldl addS []).length + 1) vc'] ∧ CellsAt X eb [.map (some b)] ∧ ORow X base (.slice va' ((xs.foldl addS []).length + 1) vc') (xs.foldl addS [] ++ [s]) ∧ MK xs f c ∧ (∀ g, sBlk (.slice va' ((xs.foldl addS []).length + 1) vc') = some g → g ≠ sb ∧ g ≠ eb ∧ g ≠ b) ∧ Below base w X) :=
      ⟨KMapC.blk hM5 (oX b (fun e => hsb_b e.symm)), by rw [hX]; exact HS5.set 0 _, HE5.same (oX eb (fun e => hsb_eb e.symm)), ho5.stays (by rw [hX]; simp) (fun g hg => oX g (hb5' g hg).1), HX.out.2.2.2.2.1, hb5', bX⟩
    have HYX : CellsAt X B (kCells s) := HY5.same (oX B (by omega))
    have e0X := (HX'.out.2.2.1 0 _ rfl).1
    obtain ⟨s5, g5⟩ := HS5 0 _ rfl
    obtain ⟨z0, _⟩ := HYX 0 _ rfl
    obtain ⟨z1, _⟩ := HYX 1 _ rfl
    obtain ⟨z2, _⟩ := HYX 2 _ rfl
    obtain ⟨z3, _⟩ := HYX 3 _ rfl
    obtain ⟨z4, _⟩ := HYX 4 _ rfl
    obtain ⟨z5, _⟩ := HYX 5 _ rfl
    obtain ⟨z6, _⟩ := HYX 6 _ rfl
    obtain ⟨z7, _⟩ := HYX 7 _ rfl
    have HXX : Hid _ := hX
    clear hX oX bX HYX HS5 HE5 HY5 hM5 hb5' ho5 hb5 gg bA hg5 zA
    go_wp2_with (first
      | (at_builtin; refine wpList_append_run rfl _ _ 27 27 rfl rfl rfl hr ?_)
      | go_in)
    clear y0 y1 y2 y3 y4 y5 y6 y7 hr
    go_upto_region 3 with fail
    rw [← HXX.out]
    clear HXX HX
    have HX := HX'
    clear HX' s0 g0 s5 g5 e0 hz hq hin
    have kD : Below X.heap.size X X.drew := (Below.refl _ _).drew
    obtain ⟨st, w3, w4, he, hlD, hl3, hs4, hm4, hg3, hg4⟩ := (KMapC.keep HX.out.1 kD (KMapC.lt HX.out.1)).bump keyed Tryz.underlying82 (by unfold maxLen; omega) zeroInt (key_lit s) (.int .i64 (nn + 1))
    rw [hn] at he hlD hl3
    unfold goInt at he hs4
    unfold keyV keyA at he hlD hl3
    have g4 : X.grownBy w4 (some b) := (grown_below _ kD).trans hg4
    have HF : Hid (HS w4 base eb sb (xs ++ [s]) ∧ Below base w w4) := by
      refine ⟨⟨.slice va' ((xs.foldl addS []).length + 1) vc', b, n + 1, _, _, CellsAt.far' HX.out.2.1 g4 (fun e => hsb_b e.symm), CellsAt.far' HX.out.2.2.1 g4 (fun e => heb_b e.symm), ?_, hm4, MK.snoc HX.out.2.2.2.2.1 s hn0 hn1, by simp; omega, HX.out.2.2.2.2.2.1, hsb_eb, hsb_b, heb_b, hbsb, hbeb, hbb⟩, HX.out.2.2.2.2.2.2.trans ((Below.refl _ _).grown g4 (by omega) (fun q e => by cases e; omega))⟩
      have hrow := ORow.stays HX.out.2.2.2.1 g4.size (fun g hg => g4.block g (ORow.blk HX.out.2.2.2.1 hg).2 (fun e => (HX.out.2.2.2.2.2.1 g hg).2.2 (Option.some.inj e)))
      rw [fold_out Hin.out]; exact hrow
    clear hm4 hg3 hg4 g4 HX kD hl1
    go_region
    all_goals
      go_wp2
      go_end0
      exact ⟨⟨_, rfl⟩, HF.out.1, HF.out.2⟩

end Go.Proofs.YthkmpihfhkmaoaaGreat
