import Derived.Test.YthkmpihfhkmaoaaGreatU07
import Derived.Deep.DeepCutAuto
import Derived.Deep.RegionHeld3
import Derived.Deep.DrawnRows
import Derived.Test.YthkmpihfhkmaoaaGreatU05
import Derived.Test.YthkmpihfhkmaoaaGreatU06
import Derived.Deep.RegionLaw
/-
  impl.linksDown, linksUp.
-/
namespace Go.Proofs.YthkmpihfhkmaoaaGreat
open Go.ChangeShapes Go.WideShapes Go.ChangeAt Go.RowKit
attribute [local go_sem ↓] Go.wp_at_zero Go.wp_at_succ

/-- A call of a Go function at a step of a region that draws its order, for go_region_law. -/
theorem step_callL {P : Program} {ops : Array Oper} {o : Oper} {a : Act} {w : World} {K : Act → World → Prop} {Q : Exit → Act → World → Prop} {E : Prop} (hgd : o.guard = none) (f : FuncId) (args : Array Value) (hrun : (execOp a.eval o).run P w = .ok (.enter f args) w)
    {post : Ending → World → Prop} (hc : Calls P f args w post) (h : ∀ e w', post e w' → ∃ v, e = .returned v ∧ K (a.put o.dst v) w') : if Region.wanted o (yielded ops a.tmps) = true then Oper.wp P o a w K Q else E := by
  have hw : Region.wanted o (yielded ops a.tmps) = true := by simp [Region.wanted, hgd]
  rw [if_pos hw]
  unfold Oper.wp
  rw [hrun, Oper.upon_enter]
  refine hc.mono fun e w' hp => ?_
  obtain ⟨v, rfl, hk⟩ := h e w' hp
  exact hk

/-- Where a walk goes on from each thing. -/
def dnE (ks : List Kd) : List (ByteArray × ByteArray) := ks.flatMap (fun u => u.refs.map (fun r => (u.sum, r)))
def upE (ks : List Kd) : List (ByteArray × ByteArray) := ks.flatMap (fun u => u.refs.map (fun r => (r, u.sum)))

theorem dnE_snoc {ks : List Kd} {k : Nat} {x : Kd} (h : ks[k]? = some x) : dnE (ks.take (k + 1)) = dnE (ks.take k) ++ x.refs.map (fun r => (x.sum, r)) := by
  obtain ⟨hlt, rfl⟩ := List.getElem?_eq_some_iff.1 h
  unfold dnE
  rw [List.take_succ_eq_append_getElem hlt, List.flatMap_append]
  simp

theorem upE_snoc {ks : List Kd} {k : Nat} {x : Kd} (h : ks[k]? = some x) : upE (ks.take (k + 1)) = upE (ks.take k) ++ x.refs.map (fun r => (r, x.sum)) := by
  obtain ⟨hlt, rfl⟩ := List.getElem?_eq_some_iff.1 h
  unfold upE
  rw [List.take_succ_eq_append_getElem hlt, List.flatMap_append]
  simp

theorem map_snoc {α : Type} (g : ByteArray → α) {rs : List ByteArray} {m : Nat} {r : ByteArray} (h : rs[m]? = some r) : (rs.take (m + 1)).map g = (rs.take m).map g ++ [g r] := by
  obtain ⟨hlt, rfl⟩ := List.getElem?_eq_some_iff.1 h
  rw [List.take_succ_eq_append_getElem hlt, List.map_append]
  rfl

theorem flat_len {ks : List Kd} (g : Kd → List (ByteArray × ByteArray)) (hg : ∀ u ∈ ks, (g u).length ≤ 30) : (ks.flatMap g).length ≤ 30 * ks.length := by
  induction ks with
  | nil => simp
  | cons k ks ih =>
    have h1 := ih (fun k hk => hg k (by simp [hk]))
    have h2 := hg k (by simp)
    rw [List.flatMap_cons, List.length_append, List.length_cons]
    omega

theorem zeroRow8 (w : World) : (zeroValue 116).run Tryz.prog w = .ok (.slice none 0 0) w := by kernel_rfl

/-- The map opened at a key, in the walk's own words. -/
theorem Lk.entry {w : World} {base b n : Nat} {wd : Int} {E : List (ByteArray × ByteArray)} {av : List Nat} {f : Lit → Option Value} (h : Lk w base b n wd E av f) (hn : n ≤ 1000000) (s : ByteArray) :
    ∃ (st : Int) (w3 : World), (Instr.mapEntry 118 (.map (some b)) (.agg #[.int .u8 (kB s 0), .int .u8 (kB s 1), .int .u8 (kB s 2), .int .u8 (kB s 3), .int .u8 (kB s 4), .int .u8 (kB s 5), .int .u8 (kB s 6), .int .u8 (kB s 7)])).run Tryz.prog w = .ok (.tuple #[rowV f s, .int .i64 st]) w3 ∧ w.grownBy w3 (some b) ∧
      ∀ W, W.heap[b]? = w3.heap[b]? → ∀ val, ∃ W', (Instr.entryStore 118 (.map (some b)) (goInt st) val).run Tryz.prog W = .ok () W' ∧ KMap W' 98 b (n + 1) (upd f (keyL s) val) ∧ W.grownBy W' (some b) := by
  obtain ⟨st, w3, h1, h2, h3⟩ := h.map.entry keyed Tryz.underlying118 (by unfold maxLen; omega) zeroRow8 (key_lit s)
  exact ⟨st, w3, h1, h2, h3⟩

theorem R8.stay1 {w w' : World} {g c : Nat} {ts : List ByteArray} {B B' b : Nat} (h : R8 w B (.slice (some ⟨g, 0, none⟩) ts.length c) ts) (hg : w.grownBy w' (some b)) (hne : g ≠ b) (hlt : g < w.heap.size) (hB : B ≤ B') : R8 w' B' (.slice (some ⟨g, 0, none⟩) ts.length c) ts :=
  (h.stays (fun k e => by cases e; exact hg.block g hlt (fun e => hne (Option.some.inj e)))).mono hB

theorem R8.one_stay {w3 wC : World} {b : Nat} (r : ByteArray) (hg : (w3.alloc (oneK r)).grownBy wC (some b)) (hne : w3.heap.size ≠ b) : R8 wC wC.heap.size (.slice (some ⟨w3.heap.size, 0, none⟩) 1 1) [r] :=
  R8.stay1 (ts := [r]) (g := w3.heap.size) (c := 1) (R8.one w3 r) hg hne (by simp) (by have := hg.size; simp at this; omega)

theorem CellsAt.same {w w' : World} {B : Nat} {l : List Value} (h : CellsAt w B l) (hb : w'.heap[B]? = w.heap[B]?) : CellsAt w' B l :=
  fun j v hj => ⟨(World.cell?_of_block (a := ⟨B, j, none⟩) hb).trans (h j v hj).1, (World.frozen?_of_block (a := ⟨B, j, none⟩) hb).trans (h j v hj).2⟩

/-- The cells of a key's box, in a world that holds the box as it was. -/
theorem sk8 {w w' : World} {B : Nat} {s : ByteArray} (h : w'.heap[B]? = w.heap[B]?) (hc : CellsAt w B [.int .u8 (kB s 0), .int .u8 (kB s 1), .int .u8 (kB s 2), .int .u8 (kB s 3), .int .u8 (kB s 4), .int .u8 (kB s 5), .int .u8 (kB s 6), .int .u8 (kB s 7)]) :
    w'.cell? ⟨B, 0, none⟩ = some (.int .u8 (kB s 0)) ∧ w'.cell? ⟨B, 1, none⟩ = some (.int .u8 (kB s 1)) ∧ w'.cell? ⟨B, 2, none⟩ = some (.int .u8 (kB s 2)) ∧ w'.cell? ⟨B, 3, none⟩ = some (.int .u8 (kB s 3)) ∧ w'.cell? ⟨B, 4, none⟩ = some (.int .u8 (kB s 4)) ∧ w'.cell? ⟨B, 5, none⟩ = some (.int .u8 (kB s 5)) ∧ w'.cell? ⟨B, 6, none⟩ = some (.int .u8 (kB s 6)) ∧ w'.cell? ⟨B, 7, none⟩ = some (.int .u8 (kB s 7)) := by
  have := CellsAt.same hc h
  exact ⟨(this 0 _ rfl).1, (this 1 _ rfl).1, (this 2 _ rfl).1, (this 3 _ rfl).1, (this 4 _ rfl).1, (this 5 _ rfl).1, (this 6 _ rfl).1, (this 7 _ rfl).1⟩

theorem alloc_same (w : World) (o : Obj) {b : Nat} (h : b < w.heap.size) : (w.alloc o).heap[b]? = w.heap[b]? := Below.heap_alloc w o b h


theorem Lk.more {w : World} {base b n : Nat} {wd : Int} {E : List (ByteArray × ByteArray)} {av : List Nat} {f : Lit → Option Value} (h : Lk w base b n wd E av f) {q : Nat} (hq : w.heap.size ≤ q) : Lk w base b n wd E (q :: av) f :=
  ⟨h.map, h.row, h.apart, fun t ht g hg hin => by
    rcases List.mem_cons.1 hin with rfl | hin
    · have := ((h.row t ht).blk hg).2; omega
    · exact h.far t ht g hg hin⟩

theorem Lk.less {w : World} {base b n : Nat} {wd : Int} {E : List (ByteArray × ByteArray)} {q : Nat} {av : List Nat} {f : Lit → Option Value} (h : Lk w base b n wd E (q :: av) f) : Lk w base b n wd E av f :=
  ⟨h.map, h.row, h.apart, fun t ht g hg hin => h.far t ht g hg (List.mem_cons_of_mem _ hin)⟩

theorem sk9 {w w' : World} {B B5 : Nat} {s : ByteArray} {v : Value} {l : List Value} (h : w'.heap[B]? = w.heap[B]? ∧ w'.heap[B5]? = w.heap[B5]?) (hz : CellsAt w B5 (v :: l)) (hc : CellsAt w B [.int .u8 (kB s 0), .int .u8 (kB s 1), .int .u8 (kB s 2), .int .u8 (kB s 3), .int .u8 (kB s 4), .int .u8 (kB s 5), .int .u8 (kB s 6), .int .u8 (kB s 7)]) :
    w'.cell? ⟨B5, 0, none⟩ = some v ∧ w'.cell? ⟨B, 0, none⟩ = some (.int .u8 (kB s 0)) ∧ w'.cell? ⟨B, 1, none⟩ = some (.int .u8 (kB s 1)) ∧ w'.cell? ⟨B, 2, none⟩ = some (.int .u8 (kB s 2)) ∧ w'.cell? ⟨B, 3, none⟩ = some (.int .u8 (kB s 3)) ∧ w'.cell? ⟨B, 4, none⟩ = some (.int .u8 (kB s 4)) ∧ w'.cell? ⟨B, 5, none⟩ = some (.int .u8 (kB s 5)) ∧ w'.cell? ⟨B, 6, none⟩ = some (.int .u8 (kB s 6)) ∧ w'.cell? ⟨B, 7, none⟩ = some (.int .u8 (kB s 7)) :=
  ⟨(CellsAt.same hz h.2 0 _ rfl).1, sk8 h.1 hc⟩

set_option maxRecDepth 20000 in
set_option maxHeartbeats 16000000 in
theorem linksDown_any (wd now given births : Int) (a : Option Addr) (ac : Nat) (P L : Value) (ks : List Kd) (w : World) (hrow : KRow w w.heap.size a ks) (hl : ks.length ≤ 600) (hr30 : ∀ k ∈ ks, k.refs.length ≤ 30) (hsz : ∀ k ∈ ks, (k.sum.size : Int) = wd) (hrs : ∀ k ∈ ks, ∀ r ∈ k.refs, (r.size : Int) = wd) (h8 : wd ≤ 8) :
    Calls Tryz.prog 117 #[.agg #[.int .i64 wd, .int .i64 now, .int .i64 given, .int .i64 births, .slice a ks.length ac, P, L]] w fun e w' => ∃ b n f, e = .returned (.map (some b)) ∧ w.heap.size < b ∧ Lk w' (b + 1) b n wd (dnE ks) [] f ∧ Below w.heap.size w w' := by
  have hmm := @run_makeMap Tryz.prog
  have HKR : Hid _ := hrow
  have HSZ : Hid _ := And.intro hr30 (And.intro hsz hrs)
  have hb0 : Below w.heap.size w (w.alloc (.cells #[.int .i64 wd, .int .i64 now, .int .i64 given, .int .i64 births, .slice a ks.length ac, P, L] 36)) := (Below.refl _ _).alloc (Nat.le_refl _) _
  have hx := SBox.new w wd now given births (.slice a ks.length ac) P L 36
  obtain ⟨W0, hW0⟩ : ∃ W, W = (w.alloc (.cells #[.int .i64 wd, .int .i64 now, .int .i64 given, .int .i64 births, .slice a ks.length ac, P, L] 36)).alloc (.map #[] 0) := ⟨_, rfl⟩
  have hz0 : W0.heap.size = w.heap.size + 2 := by rw [hW0]; simp
  have hB0 : Below w.heap.size w W0 := by rw [hW0]; exact hb0.alloc hb0.size _
  have hM0 : KMap W0 98 (w.heap.size + 1) 0 (fun _ => none) := by
    have := KMap.new (w.alloc (.cells #[.int .i64 wd, .int .i64 now, .int .i64 given, .int .i64 births, .slice a ks.length ac, P, L] 36)) 98
    rw [World.size_alloc] at this
    rw [hW0]
    exact this
  have hX0 : SBox W0 w.heap.size wd now given births (.slice a ks.length ac) P L := by rw [hW0]; exact hx.keep ((Below.refl _ _).alloc (Nat.le_refl _) _) hx.2.2.2.2.2.2.2
  have HM0 : Hid (Lk W0 (w.heap.size + 1 + 1) (w.heap.size + 1) 0 wd [] [] (fun _ => none)) := Lk.new hM0
  clear hrow hr30 hsz hrs hx hb0 hM0
  obtain ⟨q0, q1, q2, q3, q4, q5, q6, q7⟩ := hX0
  go_enter Tryz.func117, Tryz.ntmps117
  go_upto_region 2 with fail
  rw [← hW0]
  clear hW0 hmm
  go_wp2
  go_loopw [13] (fun i wr => ∃ (k : Nat) (f : Lit → Option Value), k ≤ ks.length ∧ i = .int .i64 k ∧ Hid (Lk wr (w.heap.size + 1 + 1) (w.heap.size + 1) (dnE (ks.take k)).length wd (dnE (ks.take k)) [] f) ∧ Below w.heap.size w wr ∧ Hid (SBox wr w.heap.size wd now given births (.slice a ks.length ac) P L) ∧ w.heap.size + 2 ≤ wr.heap.size) (fun i _ => ks.length - (intOf i).toNat)
  case atStart => exact ⟨0, _, Nat.zero_le _, rfl, by rw [List.take_zero]; exact HM0, hB0, ⟨q0, q1, q2, q3, q4, q5, q6, q7⟩, by omega⟩
  case round =>
    rename World => wo
    clear q0 q1 q2 q3 q4 q5 q6 q7 HM0 hB0 hz0
    obtain ⟨k, f, hk, rfl, HL, hbel, HX, hzr⟩ := hrel
    by_cases hlt : k < ks.length
    · obtain ⟨b, off, ha, hb, hc⟩ := (KRow.below HKR.out hbel).at hlt
      subst ha
      have HG : Hid (ks[k]? = some ks[k]) := List.getElem?_eq_getElem hlt
      obtain ⟨c0, c1, c2, ra, rc, c3, hra⟩ := hc k _ HG.out
      have hmem : ks[k] ∈ ks := List.getElem_mem hlt
      have hx30 := HSZ.out.1 _ hmem
      have hxs := HSZ.out.2.1 _ hmem
      have HXR : Hid _ := HSZ.out.2.2 _ hmem
      have hbr : b < wo.heap.size := by omega
      have HE : Hid _ := dnE_snoc HG.out
      have hEl : (dnE (ks.take k)).length ≤ 18000 := by
        have := flat_len (ks := ks.take k) (fun u => u.refs.map (fun r => (u.sum, r))) (fun u hu => by simpa using HSZ.out.1 u (List.mem_of_mem_take hu))
        have h2 : (ks.take k).length ≤ 600 := by simp; omega
        unfold dnE
        omega
      have HRA : Hid _ := hra
      clear hc hra hmem
      generalize ks[k] = x at *
      generalize dnE (ks.take k) = E0 at *
      obtain ⟨W1, hW1⟩ : ∃ W1, W1 = wo.alloc (.cells #[.string x.sum, .int .i64 x.born, .string x.text, .slice ra x.refs.length rc] 59) := ⟨_, rfl⟩
      have h11 : Below wo.heap.size wo W1 := by rw [hW1]; exact (Below.refl _ _).alloc (Nat.le_refl _) _
      have Z1 : CellsAt W1 wo.heap.size [.string x.sum, .int .i64 x.born, .string x.text, .slice ra x.refs.length rc] := by rw [hW1]; exact CellsAt.new wo _ _
      have hz1 : W1.heap.size = wo.heap.size + 1 := by rw [hW1]; simp
      obtain ⟨z0, _⟩ := Z1 0 _ rfl
      have HW1 : Hid _ := hW1
      have HZ1 : Hid _ := Z1
      have H11 : Hid _ := h11
      clear hW1 Z1 h11
      obtain ⟨x0, x1, x2, x3, x4, x5, x6, x7⟩ := HX.out
      go_upto_region 5 with fail
      rw [← HW1.out]
      clear HW1 x0 x1 x2 x3 x4 x5 x6
      go_wp2_with fail
      refine (key_out x.sum W1).mono ?_
      rintro e w2 ⟨rfl, hb2⟩
      obtain ⟨W2, hW2⟩ : ∃ W2, W2 = w2.alloc (oneK x.sum) := ⟨_, rfl⟩
      have h22 : Below w2.heap.size w2 W2 := by rw [hW2]; exact (Below.refl _ _).alloc (Nat.le_refl _) _
      have Y2 : CellsAt W2 w2.heap.size [.int .u8 (kB x.sum 0), .int .u8 (kB x.sum 1), .int .u8 (kB x.sum 2), .int .u8 (kB x.sum 3), .int .u8 (kB x.sum 4), .int .u8 (kB x.sum 5), .int .u8 (kB x.sum 6), .int .u8 (kB x.sum 7)] := by rw [hW2]; exact CellsAt.new w2 _ _
      have h12 : Below W1.heap.size W1 W2 := hb2.trans (h22.mono hb2.size)
      have hr2 : Below wo.heap.size wo W2 := H11.out.trans (h12.mono H11.out.size)
      have Z2 : CellsAt W2 wo.heap.size [.string x.sum, .int .i64 x.born, .string x.text, .slice ra x.refs.length rc] := CellsAt.below HZ1.out h12
      have hz2 : W1.heap.size ≤ w2.heap.size := hb2.size
      have hz22 : w2.heap.size < W2.heap.size := Y2.lt
      have B2 : Below w.heap.size wo W2 := hr2.mono hbel.size
      have X2 : SBox W2 w.heap.size wd now given births (.slice (some ⟨b, off, none⟩) ks.length ac) P L := SBox.keep HX.out hr2 x7
      have L2 : Lk W2 (w.heap.size + 1 + 1) (w.heap.size + 1) E0.length wd E0 [wo.heap.size, w2.heap.size] f := Lk.keep (Lk.avoid HL.out _ (by intro q hq; simp at hq; rcases hq with rfl | rfl <;> omega)) hr2
      have HI : Hid _ := And.intro L2 (And.intro B2 (And.intro X2 (And.intro Z2 Y2)))
      have HW2 : Hid _ := hW2
      unfold oneK at HW2
      clear hW2 L2 B2 X2 Y2 h22 h12 hr2 hb2 HZ1 H11 z0 x7
      obtain ⟨z3, _⟩ := Z2 3 _ rfl
      clear Z2
      go_upto_region 6 with fail
      rw [← HW2.out]
      obtain ⟨B5, hB5⟩ : ∃ B5, B5 = wo.heap.size := ⟨_, rfl⟩
      obtain ⟨B6, hB6⟩ : ∃ B6, B6 = w2.heap.size := ⟨_, rfl⟩
      rw [← hB5, ← hB6] at HI ⊢
      rw [← hB5] at z3
      have hB5w : w.heap.size + 2 ≤ B5 := by omega
      have hB56 : B5 < B6 := by omega
      have hB6l : B6 < W2.heap.size := by omega
      clear HW2 hB5 hB6 hz1 hz2 hz22
      go_wp2
      go_loopw [24] (fun i wr => ∃ (m : Nat) (f2 : Lit → Option Value), m ≤ x.refs.length ∧ i = .int .i64 m ∧ Hid (Lk wr (w.heap.size + 1 + 1) (w.heap.size + 1) (E0.length + m) wd (E0 ++ (x.refs.take m).map (fun r => (x.sum, r))) [B5, B6] f2) ∧ Below w.heap.size wo wr ∧ Hid (SBox wr w.heap.size wd now given births (.slice (some ⟨b, off, none⟩) ks.length ac) P L) ∧ Hid (CellsAt wr B5 [.string x.sum, .int .i64 x.born, .string x.text, .slice ra x.refs.length rc] ∧ CellsAt wr B6 [.int .u8 (kB x.sum 0), .int .u8 (kB x.sum 1), .int .u8 (kB x.sum 2), .int .u8 (kB x.sum 3), .int .u8 (kB x.sum 4), .int .u8 (kB x.sum 5), .int .u8 (kB x.sum 6), .int .u8 (kB x.sum 7)]) ∧ B6 < wr.heap.size) (fun i _ => x.refs.length - (intOf i).toNat)
      case atStart => exact ⟨0, f, Nat.zero_le _, rfl, (show Lk _ _ _ _ _ _ _ _ from by simpa using HI.out.1), HI.out.2.1, HI.out.2.2.1, HI.out.2.2.2, hB6l⟩
      case round =>
        clear HI z3 HL
        obtain ⟨m, f2, hm, rfl, HL, hbel2, HX, HZ, hzr2⟩ := hrel
        by_cases hmlt : m < x.refs.length
        · obtain ⟨b', off', ha', hb', hc'⟩ := (SRow.below HRA.out hbel2).at hmlt
          subst ha'
          have HGr : Hid (x.refs[m]? = some x.refs[m]) := List.getElem?_eq_getElem hmlt
          have hck := hc' m _ HGr.out
          have HMS : Hid _ := map_snoc (fun r => (x.sum, r)) HGr.out
          clear hc'
          generalize x.refs[m] = r at *
          have hrsz : (r.size : Int) = wd := HXR.out r (List.mem_of_getElem? HGr.out)
          obtain ⟨y0, _⟩ := HZ.out.2 0 _ rfl
          obtain ⟨y1, _⟩ := HZ.out.2 1 _ rfl
          obtain ⟨y2, _⟩ := HZ.out.2 2 _ rfl
          obtain ⟨y3, _⟩ := HZ.out.2 3 _ rfl
          obtain ⟨y4, _⟩ := HZ.out.2 4 _ rfl
          obtain ⟨y5, _⟩ := HZ.out.2 5 _ rfl
          obtain ⟨y6, _⟩ := HZ.out.2 6 _ rfl
          obtain ⟨y7, _⟩ := HZ.out.2 7 _ rfl
          have hEm : (E0 ++ (x.refs.take m).map (fun r => (x.sum, r))).length ≤ 18030 := by simp; omega
          have hb'r : b' < wr.heap.size := by have := hbel2.size; omega
          have hwb : w.heap.size + 1 < w.heap.size + 1 + 1 := Nat.lt_succ_self _
          have hwr2 : w.heap.size + 1 + 1 ≤ wr.heap.size := by omega
          have hav2 : ∀ q ∈ [B5, B6], q < wr.heap.size := by intro q hq; simp at hq; rcases hq with rfl | rfl <;> omega
          have kD : Below wr.heap.size wr wr.drew := (Below.refl _ _).drew
          go_upto_region 9 with fail
          have hbB6 : B6 ≠ w.heap.size + 1 := by omega
          have eD : wr.drew.heap[B6]? = wr.heap[B6]? := rfl
          have hB6av : B6 ∈ [B5, B6] := by simp
          go_region_held3 (fun w' => w'.cell? ⟨B6, 0, none⟩ = some (.int .u8 (kB x.sum 0)) ∧ w'.cell? ⟨B6, 1, none⟩ = some (.int .u8 (kB x.sum 1)) ∧ w'.cell? ⟨B6, 2, none⟩ = some (.int .u8 (kB x.sum 2)) ∧ w'.cell? ⟨B6, 3, none⟩ = some (.int .u8 (kB x.sum 3)) ∧ w'.cell? ⟨B6, 4, none⟩ = some (.int .u8 (kB x.sum 4)) ∧ w'.cell? ⟨B6, 5, none⟩ = some (.int .u8 (kB x.sum 5)) ∧ w'.cell? ⟨B6, 6, none⟩ = some (.int .u8 (kB x.sum 6)) ∧ w'.cell? ⟨B6, 7, none⟩ = some (.int .u8 (kB x.sum 7)))
            (exact sk8 (by assumption) HZ.out.2)
            (first
              | (go_at_call 63; refine (key_out r wr.drew).mono ?_; rintro e w3 ⟨rfl, hb3⟩; have k3 : Below wr.heap.size wr w3 := kD.trans (hb3.mono (Nat.le_refl _)); have k4 : Below wr.heap.size wr (w3.alloc (oneK r)) := k3.alloc k3.size _; obtain ⟨stC, wC, hEC, hgC, hsC⟩ := (HL.out.keep k4).entry (by omega) x.sum; have gC : wr.grownBy wC (some (w.heap.size + 1)) := (grown_below _ k4).trans hgC; have l3 : w.heap.size + 1 < w3.heap.size := (by have := k3.size; omega); obtain ⟨vC, w4C, w5C, hrC, htC, hLC, hbC, haC, hzC⟩ := HL.out.add hwb hwr2 hav2 gC hxs h8 hsC (R8.one_stay r hgC (by omega)) (by omega) 116; have e3 : w3.heap[B6]? = wr.heap[B6]? := k3.block B6 hzr2; have e3a : (w3.alloc (oneK r)).heap[B6]? = wr.heap[B6]? := k4.block B6 hzr2; have eC : wC.heap[B6]? = wr.heap[B6]? := gC.block B6 hzr2 (fun e => hbB6 (Option.some.inj e)); have e4C := (haC B6 hB6av hbB6).2; have e5C := (haC B6 hB6av hbB6).1; unfold oneK at hEC e3a; unfold goInt at htC)
              | (refine step_append_run (by rfl) (.tmp 30) (.tmp 33) 116 116 (by rfl) (by rfl) (by rfl) hrC ?_; have HF : Hid _ := (And.intro hLC (And.intro hbC (And.intro haC hzC)))))
          all_goals
            have hlen : E0.length + (m + 1) = E0.length + m + 1 := by omega
            clear y0 y1 y2 y3 y4 y5 y6 y7 hck
            go_wp2
            refine ⟨⟨m + 1, upd f2 (keyL x.sum) vC, by omega, by go_num, ?_, ?_, ?_, ⟨?_, ?_⟩, ?_⟩, by simp [intOf]; omega⟩
            · rw [HMS.out, ← List.append_assoc, hlen]
              exact HF.out.1
            · exact hbel2.trans (HF.out.2.1.mono (by omega))
            · exact SBox.keep HX.out HF.out.2.1 (by omega)
            · exact CellsAt.same HZ.out.1 (HF.out.2.2.1 B5 (by simp) (by omega)).1
            · exact CellsAt.same HZ.out.2 (HF.out.2.2.1 B6 (by simp) (by omega)).1
            · have := HF.out.2.2.2
              omega
        · obtain rfl : m = x.refs.length := by omega
          rw [List.take_of_length_le (Nat.le_refl _), ← HE.out] at HL
          have hln : (dnE (ks.take (k + 1))).length = E0.length + x.refs.length := by rw [HE.out]; simp
          rw [← hln] at HL
          have HLf : Hid _ := Lk.free HL.out
          clear HL
          go_wp2
          exact ⟨⟨k + 1, f2, by omega, by go_num, HLf, hbel.trans hbel2, HX, by omega⟩, by simp [intOf]; omega⟩
    · rw [List.take_of_length_le (by omega)] at HL
      obtain rfl : k = ks.length := by omega
      go_wp2
      go_ret
      exact ⟨_, _, f, rfl, by omega, HL.out, hbel⟩

end Go.Proofs.YthkmpihfhkmaoaaGreat

/-
  A draft: its box, its map, its three rows; impl.draftOf.
-/
namespace Go.Proofs.YthkmpihfhkmaoaaGreat
open Go.ChangeShapes Go.WideShapes Go.ChangeAt Go.RowKit

theorem sq7 {w : World} {b : Nat} {wd now given births : Int} {T P L : Value} (h : SBox w b wd now given births T P L) : w.cell? ⟨b, 0, none⟩ = some (.int .i64 wd) ∧ w.cell? ⟨b, 1, none⟩ = some (.int .i64 now) ∧ w.cell? ⟨b, 2, none⟩ = some (.int .i64 given) ∧ w.cell? ⟨b, 3, none⟩ = some (.int .i64 births) ∧ w.cell? ⟨b, 4, none⟩ = some T ∧ w.cell? ⟨b, 5, none⟩ = some P ∧ w.cell? ⟨b, 6, none⟩ = some L :=
  ⟨h.1, h.2.1, h.2.2.1, h.2.2.2.1, h.2.2.2.2.1, h.2.2.2.2.2.1, h.2.2.2.2.2.2.1⟩

/-- The blocks that a draft writes. -/
def vB (d m : Nat) (O P L : Value) : List Nat := d :: m :: (O.ownBlock.toList ++ (P.ownBlock.toList ++ L.ownBlock.toList))

/-- A row of strings that is read, in none of the blocks V: it lay there before base, or is a block of strings. -/
def RefV (w : World) (base : Nat) (V : List Nat) (a : Option Addr) (ss : List ByteArray) : Prop :=
  ss = [] ∨ ∃ b off, a = some ⟨b, off, none⟩ ∧ b < w.heap.size ∧ b ∉ V ∧ (b < base ∨ ∃ cur fz, w.heap[b]? = some (.cells cur 9 fz)) ∧ ∀ i s, ss[i]? = some s → w.cell? ⟨b, off + i, none⟩ = some (.string s)

theorem RefV.row {w : World} {base : Nat} {V : List Nat} {a : Option Addr} {ss : List ByteArray} (h : RefV w base V a ss) : SRow w w.heap.size a ss := by
  rcases h with h | ⟨b, off, ha, hb, _, _, hc⟩
  · exact .inl h
  · exact .inr ⟨b, off, ha, hb, hc⟩

/-- What a draft's map holds. -/
def HoldsV (w : World) (base : Nat) (V : List Nat) (wd : Int) (ks : List Kd) (f : Lit → Option Value) : Prop :=
  ∀ s : ByteArray, (s.size : Int) = wd → (f (keyL s) = none ∧ ¬ There ks s) ∨ ∃ u ra rc, u ∈ ks ∧ u.sum = s ∧ f (keyL s) = some (keptV u ra rc) ∧ RefV w base V ra u.refs

theorem HoldsV.of {W w : World} {V : List Nat} {wd : Int} {ks : List Kd} {f : Lit → Option Value} (h : Holds W W.heap.size wd ks f) (hb : Below W.heap.size W w) (hV : ∀ b ∈ V, W.heap.size ≤ b) : HoldsV w W.heap.size V wd ks f := by
  intro s hs
  rcases h s hs with h | ⟨u, ra, rc, h1, h2, h3, h4⟩
  · exact .inl h
  · refine .inr ⟨u, ra, rc, h1, h2, h3, ?_⟩
    rcases h4 with h4 | ⟨b, off, ha, hlt, hc⟩
    · exact .inl h4
    · exact .inr ⟨b, off, ha, Nat.lt_of_lt_of_le hlt hb.size, fun hv => by have := hV b hv; omega, .inl hlt, fun i s hs => (hb.cell (p := ⟨b, off + i, none⟩) hlt).trans (hc i s hs)⟩

/-- A draft. -/
structure Dr (w : World) (base d m : Nat) (O P L : Value) (wd now given births : Int) (ks : List Kd) (ps : List Pd) (ls : List Ld) : Prop where
  box : CellsAt w d [.int .i64 wd, .map (some m), .int .i64 now, .int .i64 given, .int .i64 births, O, P, L]
  map : ∃ n f, n ≤ 1000000 ∧ KMap w 98 m n f ∧ HoldsV w base (vB d m O P L) wd ks f
  ord : w.ownsRow base 98 8 O ks.length (cells8 (ks.map (·.sum)))
  pin : w.ownsRow base 104 2 P ps.length (rowC pC ps)
  lea : w.ownsRow base 107 3 L ls.length (rowC lC ls)
  bd : base ≤ d
  bm : base ≤ m
  ap : (vB d m O P L).Nodup

theorem HoldsV.below {w w' : World} {base : Nat} {V : List Nat} {wd : Int} {ks : List Kd} {f : Lit → Option Value} (h : HoldsV w base V wd ks f) (hb : Below w.heap.size w w') : HoldsV w' base V wd ks f := by
  intro s hs
  rcases h s hs with h | ⟨u, ra, rc, h1, h2, h3, h4⟩
  · exact .inl h
  · refine .inr ⟨u, ra, rc, h1, h2, h3, ?_⟩
    rcases h4 with h4 | ⟨b, off, ha, hlt, hv, ht, hc⟩
    · exact .inl h4
    · exact .inr ⟨b, off, ha, Nat.lt_of_lt_of_le hlt hb.size, hv, (by rw [hb.block b hlt]; exact ht), fun i s hs => (hb.cell (p := ⟨b, off + i, none⟩) hlt).trans (hc i s hs)⟩

theorem own_below {w w' : World} {base : Nat} {e : TypeId} {size : Nat} {v : Value} {n : Nat} {xs : List Value} (h : w.ownsRow base e size v n xs) (hb : Below w.heap.size w w') : w'.ownsRow base e size v n xs := by
  refine ⟨h.1, ?_⟩
  rcases h.2 with hn | ⟨g, cap, cur, hv, hb1, hg, rest⟩
  · exact .inl hn
  · exact .inr ⟨g, cap, cur, hv, hb1, (hb.block g (Array.getElem?_eq_some_iff.1 hg).1).trans hg, rest⟩

theorem Dr.below {w w' : World} {base d m : Nat} {O P L : Value} {wd now given births : Int} {ks : List Kd} {ps : List Pd} {ls : List Ld} (h : Dr w base d m O P L wd now given births ks ps ls) (hb : Below w.heap.size w w') : Dr w' base d m O P L wd now given births ks ps ls := by
  obtain ⟨n, f, h1, h2, h3⟩ := h.map
  exact ⟨h.box.below hb, ⟨n, f, h1, h2.keep hb h2.lt, h3.below hb⟩, own_below h.ord hb, own_below h.pin hb, own_below h.lea hb, h.bd, h.bm, h.ap⟩

theorem own_lt {w : World} {base : Nat} {e : TypeId} {size : Nat} {v : Value} {n : Nat} {xs : List Value} (h : w.ownsRow base e size v n xs) {g : Nat} (hg : v.ownBlock = some g) : base ≤ g ∧ g < w.heap.size := by
  rcases h.2 with ⟨rfl, _⟩ | ⟨g', cap, cur, rfl, hb, hg', _⟩
  · cases hg
  · cases hg
    exact ⟨hb, (Array.getElem?_eq_some_iff.1 hg').1⟩

theorem own_at {w w' : World} {base B : Nat} {e : TypeId} {size : Nat} {v : Value} {n : Nat} {xs : List Value} (h : w.ownsRow base e size v n xs) (hb : Below B w w') (hB : ∀ g, v.ownBlock = some g → g < B) : w'.ownsRow base e size v n xs := by
  refine ⟨h.1, ?_⟩
  rcases h.2 with hn | ⟨g, cap, cur, rfl, hb1, hg, rest⟩
  · exact .inl hn
  · exact .inr ⟨g, cap, cur, rfl, hb1, (hb.block g (hB g rfl)).trans hg, rest⟩

/-- One key behind a row of keys. -/
theorem opush (w : World) (base : Nat) (v : Value) (ss : List ByteArray) (ho : w.ownsRow base 98 8 v ss.length (cells8 ss)) (s : ByteArray) (hn : ss.length ≤ 1000000) (hbase : base ≤ w.heap.size) (ty : TypeId) :
    ∃ g cap w', (Builtin.append_ #[116, 116] ty #[v, .slice (some ⟨w.heap.size, 0, none⟩) 1 1]).run Tryz.prog (w.alloc (oneK s)) = .ok (.slice (some ⟨g, 0, none⟩) (ss.length + 1) cap) w' ∧ w'.ownsRow base 98 8 (.slice (some ⟨g, 0, none⟩) (ss.length + 1) cap) (ss ++ [s]).length (cells8 (ss ++ [s])) ∧ w.grownBy w' v.ownBlock ∧ (v.ownBlock = some g ∨ g = w.heap.size + 1) := by
  obtain ⟨i0, hi, hz0, hz1, hz2⟩ := info_parts Tryz.infoKey
  have ho' := own_below ho ((Below.refl _ _).alloc (Nat.le_refl _) (oneK s))
  have h1 := R8.one w s
  have hc : ∀ j u, (cells8 [s])[j]? = some u → (w.alloc (oneK s)).cell? ((⟨w.heap.size, 0, none⟩ : Addr).add j) = some u := by
    rcases h1 with ⟨e, _⟩ | ⟨g, off, cap, e, _, hc⟩
    · cases e
    · cases e
      exact R8.cells hc
  obtain ⟨v', w', hr, h2, h3, _, h5⟩ := run_append_own_at (P := Tryz.prog) (w.alloc (oneK s)) base 116 ty 98 i0 _ 8 8 Tryz.underlying116 hi hz0 hz1 hz2 rfl (by decide) v ss.length (cells8 ss) ho' ⟨w.heap.size, 0, none⟩ 1 1 (cells8 [s]) (cells8_len [s]) hc (cells8_one [s]) (by unfold maxLen; omega) (by omega) (by simp; omega)
  obtain ⟨g, cap, rfl, _, _⟩ := own_form h2 (fun e => by subst e; rcases h2.2 with ⟨_, hn⟩ | ⟨_, _, _, e, _⟩ <;> first | omega | cases e)
  refine ⟨g, cap, w', hr, ?_, (World.grownBy_alloc w (oneK s) _).trans h3, ?_⟩
  · rw [cells8_append, List.length_append]
    exact h2
  · rcases h5 with h5 | h5
    · exact .inl h5.symm
    · right
      simpa [Value.ownBlock] using h5

set_option maxRecDepth 20000 in
set_option maxHeartbeats 8000000 in
theorem draftOf_any (wd now given births : Int) (a p l : Option Addr) (ac pc lc : Nat) (ks : List Kd) (ps : List Pd) (ls : List Ld) (w : World) (hrow : SRows w w.heap.size a p l ks ps ls) (hk : ks.length ≤ 600) (hp : ps.length ≤ 100) (hl : ls.length ≤ 200) (hsz : ∀ k ∈ ks, (k.sum.size : Int) = wd) (h8 : wd ≤ 8) :
    Calls Tryz.prog 43 #[.agg #[.int .i64 wd, .int .i64 now, .int .i64 given, .int .i64 births, .slice a ks.length ac, .slice p ps.length pc, .slice l ls.length lc]] w fun e w' => ∃ d m O P L, e = .returned (.pointer (some ⟨d, 0, none⟩)) ∧ Dr w' (w.heap.size + 1) d m O P L wd now given births ks ps ls ∧ Below w.heap.size w w' := by
  have hx := SBox.new w wd now given births (.slice a ks.length ac) (.slice p ps.length pc) (.slice l ls.length lc) 36
  obtain ⟨W0, hW0⟩ : ∃ W, W = w.alloc (.cells #[.int .i64 wd, .int .i64 now, .int .i64 given, .int .i64 births, .slice a ks.length ac, .slice p ps.length pc, .slice l ls.length lc] 36) := ⟨_, rfl⟩
  have hB0 : Below w.heap.size w W0 := by rw [hW0]; exact (Below.refl _ _).alloc (Nat.le_refl _) _
  have hz0 : W0.heap.size = w.heap.size + 1 := by rw [hW0]; simp
  rw [← hW0] at hx
  have HROW : Hid _ := hrow
  have HX : Hid _ := hx
  have HW0 : Hid _ := hW0
  have S0 := sq7 hx
  have S0d : W0.drew.cell? ⟨w.heap.size, 0, none⟩ = some (.int .i64 wd) ∧ W0.drew.cell? ⟨w.heap.size, 1, none⟩ = some (.int .i64 now) ∧ W0.drew.cell? ⟨w.heap.size, 2, none⟩ = some (.int .i64 given) ∧ W0.drew.cell? ⟨w.heap.size, 3, none⟩ = some (.int .i64 births) ∧ W0.drew.cell? ⟨w.heap.size, 4, none⟩ = some (.slice a ks.length ac) ∧ W0.drew.cell? ⟨w.heap.size, 5, none⟩ = some (.slice p ps.length pc) ∧ W0.drew.cell? ⟨w.heap.size, 6, none⟩ = some (.slice l ls.length lc) := S0
  have K0 : KRow W0.drew W0.drew.heap.size a ks := KRow.mono (KRow.below hrow.k hB0.drew) hB0.size
  have hk' : ks.length ≤ 1048576 := by omega
  have hp' : ps.length ≤ 1048576 := by omega
  have hl' : ls.length ≤ 1048576 := by omega
  clear hrow hx hW0
  go_enter Tryz.func43, Tryz.ntmps43
  go_upto_region 1 with fail
  rw [← HW0.out]
  clear HW0
  go_region_held3 (fun w' => w'.cell? ⟨w.heap.size, 0, none⟩ = some (.int .i64 wd) ∧ w'.cell? ⟨w.heap.size, 1, none⟩ = some (.int .i64 now) ∧ w'.cell? ⟨w.heap.size, 2, none⟩ = some (.int .i64 given) ∧ w'.cell? ⟨w.heap.size, 3, none⟩ = some (.int .i64 births) ∧ w'.cell? ⟨w.heap.size, 4, none⟩ = some (.slice a ks.length ac) ∧ w'.cell? ⟨w.heap.size, 5, none⟩ = some (.slice p ps.length pc) ∧ w'.cell? ⟨w.heap.size, 6, none⟩ = some (.slice l ls.length lc))
    (first | exact S3 | exact S2 | exact S1 | exact S0d | exact sq7 (SBox.below X3.out ((Below.refl _ _).alloc (Nat.le_refl _) _)))
    (first
    | (go_at_call 72; refine (shelfOf_any wd now given births a ac (.slice p ps.length pc) (.slice l ls.length lc) ks W0.drew K0 hk' hsz h8).mono ?_; rintro e w1 ⟨m, f, rfl, hm, hM, hH, hb1⟩; have B1 : Below W0.heap.size W0 w1 := (Below.refl W0.heap.size W0).drew.trans hb1; have S1 := sq7 (SBox.below HX.out B1))
    | (go_at_call 98; refine (clonePin_any p pc ps w1 (PRow.mono (PRow.below HROW.out.p (hB0.trans (B1.mono hB0.size))) (hB0.trans (B1.mono hB0.size)).size) hp').mono ?_; rintro e w2 ⟨p2, pc2, rfl, ho2, hb2⟩; have B2 : Below W0.heap.size W0 w2 := B1.trans (hb2.mono B1.size); have S2 := sq7 (SBox.below HX.out B2))
    | (go_at_call 99; refine (cloneLease_any l lc ls w2 (LRow.mono (LRow.below HROW.out.l (hB0.trans (B2.mono hB0.size))) (hB0.trans (B2.mono hB0.size)).size) hl').mono ?_; rintro e w3 ⟨l3, lc3, rfl, ho3, hb3⟩; have B3 : Below W0.heap.size W0 w3 := B2.trans (hb3.mono B2.size); have X3 : Hid _ := SBox.below HX.out B3; have S3 := sq7 X3.out))
  obtain ⟨W4, hW4⟩ : ∃ W, W = w3.alloc (.cells #[.int .i64 wd, .map (some m), .int .i64 now, .int .i64 given, .int .i64 births, .slice none 0 0, .slice p2 ps.length pc2, .slice l3 ls.length lc3] 140) := ⟨_, rfl⟩
  have hz4 : W4.heap.size = w3.heap.size + 1 := by rw [hW4]; simp
  have hb4 : Below w3.heap.size w3 W4 := by rw [hW4]; exact (Below.refl _ _).alloc (Nat.le_refl _) _
  have Z4 : CellsAt W4 w3.heap.size [.int .i64 wd, .map (some m), .int .i64 now, .int .i64 given, .int .i64 births, .slice none 0 0, .slice p2 ps.length pc2, .slice l3 ls.length lc3] := by rw [hW4]; exact CellsAt.new w3 _ _
  have hz01 : w.heap.size + 1 ≤ w1.heap.size := by have := B1.size; omega
  have hz12 := hb2.size
  have hz23 := hb3.size
  have hm3 : m < w1.heap.size := hM.lt
  have B4 : Below w.heap.size w W4 := (hB0.trans (B3.mono hB0.size)).trans (hb4.mono (by omega))
  have B04 : Hid (Below W0.drew.heap.size W0.drew W4) := ((hb1.trans (hb2.mono (by simp; omega))).trans (hb3.mono (by simp; omega))).trans (hb4.mono (by simp; omega))
  have HX4 : Hid _ := SBox.below X3.out hb4
  have HM4 : Hid (KMap W4 98 m ks.length f) := hM.keep (B := w1.heap.size) ((hb2.trans (hb3.mono hz12)).trans (hb4.mono (by omega))) hm3
  have HP4 : Hid (W4.ownsRow w1.heap.size 104 2 (.slice p2 ps.length pc2) ps.length (rowC pC ps)) := own_below (own_below ho2 hb3) hb4
  have HL4 : Hid (W4.ownsRow w2.heap.size 107 3 (.slice l3 ls.length lc3) ls.length (rowC lC ls)) := own_below ho3 hb4
  have HP2 : Hid (∀ g, (Value.slice p2 ps.length pc2).ownBlock = some g → w1.heap.size ≤ g ∧ g < w2.heap.size) := fun g hg => own_lt ho2 hg
  have HL3 : Hid (∀ g, (Value.slice l3 ls.length lc3).ownBlock = some g → w2.heap.size ≤ g ∧ g < w3.heap.size) := fun g hg => own_lt ho3 hg
  have HH : Hid _ := hH
  have HZ4 : Hid _ := Z4
  have hm0 : w.heap.size + 1 ≤ m := by have := hm; simp at this; omega
  rw [← hW4]
  clear hW4 S0 S0d S1 S2 S3 X3 HX B1 B2 B3 hb1 hb2 hb3 hM ho2 ho3 hH Z4 K0 hm
  obtain ⟨x0, x1, x2, x3, x4, x5, x6, x7⟩ := HX4.out
  go_wp2
  go_loopw [25] (fun i wr => ∃ (k : Nat) (O : Value), k ≤ ks.length ∧ i = .int .i64 k ∧ Hid (CellsAt wr w3.heap.size [.int .i64 wd, .map (some m), .int .i64 now, .int .i64 given, .int .i64 births, O, .slice p2 ps.length pc2, .slice l3 ls.length lc3]) ∧ Hid (wr.ownsRow (w3.heap.size + 1) 98 8 O ((ks.take k).map (·.sum)).length (cells8 ((ks.take k).map (·.sum)))) ∧ Below w3.heap.size W4 wr) (fun i _ => ks.length - (intOf i).toNat)
  case atStart => exact ⟨0, _, Nat.zero_le _, rfl, HZ4, ⟨rfl, .inl ⟨rfl, rfl⟩⟩, Below.refl _ _⟩
  case round =>
    clear x0 x1 x2 x3 x4 x5 x6 x7 HZ4
    obtain ⟨k, O, hkl, rfl, HZ, HO, hbel⟩ := hrel
    obtain ⟨x0, x1, x2, x3, x4, x5, x6, x7⟩ := SBox.keep HX4.out hbel (by omega)
    have hzr : w3.heap.size + 1 ≤ wr.heap.size := by have := hbel.size; omega
    by_cases hlt : k < ks.length
    · obtain ⟨b, off, ha, hb, hc⟩ := (KRow.below HROW.out.k (B4.trans (hbel.mono (by omega)))).at hlt
      subst ha
      have HG : Hid (ks[k]? = some ks[k]) := List.getElem?_eq_getElem hlt
      obtain ⟨c0, c1, c2, ra, rc, c3, _⟩ := hc k _ HG.out
      have hbr : b < wr.heap.size := by omega
      have HN : Hid ((ks.take (k + 1)).map (·.sum) = (ks.take k).map (·.sum) ++ [ks[k].sum]) := by
        show _ = _
        rw [List.take_succ_eq_append_getElem hlt, List.map_append]
        rfl
      have hln : ((ks.take k).map (·.sum)).length ≤ 600 := by simp; omega
      clear hc
      generalize ks[k] = x at *
      generalize (ks.take k).map (·.sum) = Os at *
      obtain ⟨W5, hW5⟩ : ∃ W, W = wr.alloc (.cells #[.string x.sum, .int .i64 x.born, .string x.text, .slice ra x.refs.length rc] 59) := ⟨_, rfl⟩
      have hz5 : W5.heap.size = wr.heap.size + 1 := by rw [hW5]; simp
      have b5 : Below wr.heap.size wr W5 := by rw [hW5]; exact (Below.refl _ _).alloc (Nat.le_refl _) _
      have Z5 : CellsAt W5 wr.heap.size [.string x.sum, .int .i64 x.born, .string x.text, .slice ra x.refs.length rc] := by rw [hW5]; exact CellsAt.new wr _ _
      have HOr : Hid _ := HO.out
      have HO5 : Hid _ := own_below HO.out b5
      have HZ5 : Hid _ := CellsAt.below HZ.out b5
      have HB5 : Hid (Below w3.heap.size W4 W5) := hbel.trans (b5.mono (by omega))
      have P5 : W5.drew.cell? ⟨w3.heap.size, 5, none⟩ = some O ∧ W5.drew.cell? ⟨wr.heap.size, 0, none⟩ = some (.string x.sum) := ⟨(HZ5.out 5 _ rfl).1, (Z5 0 _ rfl).1⟩
      have D5 : Below W5.heap.size W5 W5.drew := (Below.refl _ _).drew
      have HW5 : Hid _ := hW5
      clear hW5 Z5 HO HZ
      go_upto_region 5 with fail
      rw [← HW5.out]
      clear HW5 x0 x1 x2 x3 x4 x5 x6 x7 c0 c1 c2 c3
      obtain ⟨P5a, P5b⟩ := P5
      have hne : ∀ g, O.ownBlock = some g → w3.heap.size + 1 ≤ g ∧ g < wr.heap.size := fun g hg => own_lt HOr.out hg
      have hwn : wr.heap.size ≠ w3.heap.size := by omega
      go_region_law (first
        | (go_simp; go_at_call 63; refine (key_out x.sum W5.drew).mono ?_; rintro e w6 ⟨rfl, hb6⟩; have b6 : Below W5.heap.size W5 w6 := D5.trans hb6; have P6a : w6.cell? ⟨w3.heap.size, 5, none⟩ = some O := (b6.cell (p := ⟨w3.heap.size, 5, none⟩) (by simp; omega)).trans P5a; have P6b : w6.cell? ⟨wr.heap.size, 0, none⟩ = some (.string x.sum) := (b6.cell (p := ⟨wr.heap.size, 0, none⟩) (by simp; omega)).trans P5b; have b7 : Below W5.heap.size W5 (w6.alloc (oneK x.sum)) := b6.alloc b6.size _; have P7a : (w6.alloc (oneK x.sum)).cell? ⟨w3.heap.size, 5, none⟩ = some O := (b7.cell (p := ⟨w3.heap.size, 5, none⟩) (by simp; omega)).trans P5a; have P7b : (w6.alloc (oneK x.sum)).cell? ⟨wr.heap.size, 0, none⟩ = some (.string x.sum) := (b7.cell (p := ⟨wr.heap.size, 0, none⟩) (by simp; omega)).trans P5b; have z6 := b6.size; obtain ⟨g8, c8, w8, hr8, ho8, hg8, ha8⟩ := opush w6 (w3.heap.size + 1) O Os (own_below HO5.out b6) x.sum (by omega) (by omega) 116; have Z6 := CellsAt.below HZ5.out b6; unfold oneK at hr8 P7a P7b; go_wp2_with fail)
        | (refine step_append_run (by rfl) (.tmp 33) (.tmp 37) 116 116 (by rfl) (by rfl) (by rfl) hr8 ?_; have P8b : w8.cell? ⟨wr.heap.size, 0, none⟩ = some (.string x.sum) := hg8.cell P6b (fun e => by have := (hne _ e.symm).2; simp at this); have Z8 : CellsAt w8 w3.heap.size _ := (CellsAt.same Z6 (hg8.block w3.heap.size (by omega) (fun e => by have := (hne _ e.symm).1; omega))); have P8a := (Z8 5 _ rfl).1; have F8 := (Z8 5 _ rfl).2))
      all_goals
        have hx8 : Below w3.heap.size W4 w8 := (HB5.out.trans (b6.mono (by omega))).grown hg8 (by omega) (fun g hg => by have := (hne g hg).1; omega)
        have HX8 : Hid _ := And.intro Z8 (And.intro hx8 ho8)
        clear Z8 hx8 ho8 hg8 hr8 Z6 b6 b7 hb6 HO5 HZ5 HB5 P5a P5b P6a P6b P7a P7b P8a P8b F8 ha8 D5 b5
        go_wp2
        refine ⟨⟨k + 1, .slice (some ⟨g8, 0, none⟩) (Os.length + 1) c8, by omega, by go_num, ?_, ?_, ?_⟩, by simp [intOf]; omega⟩
        · exact CellsAt.set HX8.out.1 5 _
        · rw [HN.out]
          exact ownsRow_setCell_below HX8.out.2.2 (by simp <;> omega) _
        · exact HX8.out.2.1.setCell (by simp) _
    · obtain rfl : k = ks.length := by omega
      rw [List.take_of_length_le (Nat.le_refl _)] at HO
      go_wp2
      have hap : (vB w3.heap.size m O (.slice p2 ps.length pc2) (.slice l3 ls.length lc3)).Nodup := by
        have hO : ∀ g, O.ownBlock = some g → w3.heap.size + 1 ≤ g := fun g hg => (own_lt HO.out hg).1
        have hP : ∀ g, (Value.slice p2 ps.length pc2).ownBlock = some g → w1.heap.size ≤ g ∧ g < w2.heap.size := HP2.out
        have hL : ∀ g, (Value.slice l3 ls.length lc3).ownBlock = some g → w2.heap.size ≤ g ∧ g < w3.heap.size := HL3.out
        unfold vB
        generalize (Value.slice p2 ps.length pc2).ownBlock = bp at *
        generalize (Value.slice l3 ls.length lc3).ownBlock = bl at *
        generalize O.ownBlock = bo at *
        cases bo <;> cases bp <;> cases bl <;> simp_all <;> omega
      have hV : ∀ q ∈ vB w3.heap.size m O (.slice p2 ps.length pc2) (.slice l3 ls.length lc3), w.heap.size + 1 ≤ q := by
        intro q hq
        unfold vB at hq
        simp only [List.mem_cons, List.mem_append, Option.mem_toList] at hq
        rcases hq with rfl | rfl | hq | hq | hq
        · omega
        · omega
        · have := (own_lt HO.out hq).1; omega
        · have := (HP2.out _ hq).1; omega
        · have := (HL3.out _ hq).1; omega
      go_ret
      refine ⟨_, rfl, ⟨m, O, _, _, ⟨HZ.out, ⟨ks.length, f, by omega, HM4.out.keep hbel (by omega), ?_⟩, ?_, ?_, ?_, by omega, by omega, hap⟩⟩, B4.trans (hbel.mono (by omega))⟩
      · have hq : W0.drew.heap.size = w.heap.size + 1 := hz0
        rw [← hq]
        exact HoldsV.of HH.out (B04.out.trans (hbel.mono (by simp; omega))) (fun q hq => by have := hV q hq; simp; omega)
      · have := HO.out
        rw [List.length_map] at this
        exact this.mono (by omega)
      · refine World.ownsRow.mono ?_ (show w.heap.size + 1 ≤ w1.heap.size by omega)
        exact own_at HP4.out hbel (fun g hg => by have := (HP2.out g hg).2; omega)
      · refine World.ownsRow.mono ?_ (show w.heap.size + 1 ≤ w2.heap.size by omega)
        exact own_at HL4.out hbel (fun g hg => by have := (HL3.out g hg).2; omega)

end Go.Proofs.YthkmpihfhkmaoaaGreat

/-
  impl.marksOf.
-/
namespace Go.Proofs.YthkmpihfhkmaoaaGreat
open Go.ChangeShapes Go.WideShapes Go.ChangeAt Go.RowKit
attribute [local go_sem ↓] Go.wp_at_zero Go.wp_at_succ

set_option maxRecDepth 20000 in
set_option maxHeartbeats 4000000 in
theorem marksOf_any (ph top at_ ro : Int) (q a : Option Addr) (ql qc ac : Nat) (ms : List ByteArray) (w : World) (hrow : SRow w w.heap.size a ms) (hl : ms.length ≤ 1048576) :
    Calls Tryz.prog 97 #[.agg #[.int .i64 ph, .slice q ql qc, .slice a ms.length ac, .int .i64 top, .int .i64 at_, .int .i64 ro]] w fun e w' => ∃ b c f, e = .returned (.map (some b)) ∧ w.heap.size ≤ b ∧ KMapC w' 98 b ms.length c f ∧ MK ms f c ∧ Below w.heap.size w w' := by
  have hmm := @run_makeMap Tryz.prog
  go_enter Tryz.func97, Tryz.ntmps97
  go_wp2
  obtain ⟨W0, hW0⟩ : ∃ W, W = (w.alloc (Obj.cells #[.int .i64 ph, .slice q ql qc, .slice a ms.length ac, .int .i64 top, .int .i64 at_, .int .i64 ro] 37)).alloc (Obj.map #[] 0) := ⟨_, rfl⟩
  have hB0 : Below w.heap.size w W0 := by
    rw [hW0]
    exact ((Below.refl _ _).alloc (Nat.le_refl _) _).alloc (by simp) _
  have hz0 : W0.heap.size = w.heap.size + 2 := by rw [hW0]; simp
  have hM0 : KMapC W0 98 (w.heap.size + 1) 0 0 (fun _ => none) := by
    have := KMapC.new (w.alloc (Obj.cells #[.int .i64 ph, .slice q ql qc, .slice a ms.length ac, .int .i64 top, .int .i64 at_, .int .i64 ro] 37)) 98
    rw [hW0]
    rw [World.size_alloc] at this
    exact this
  rw [← hW0]
  clear hW0 hmm
  go_loopw [10] (fun i wr => ∃ (k c : Nat) (f : Lit → Option Value), k ≤ ms.length ∧ i = .int .i64 k ∧ Hid (KMapC wr 98 (w.heap.size + 1) k c f) ∧ Hid (MK (ms.take k) f c) ∧ W0.grownBy wr (some (w.heap.size + 1))) (fun i _ => ms.length - (intOf i).toNat)
  case atStart => exact ⟨0, 0, _, Nat.zero_le _, rfl, hM0, by rw [List.take_zero]; exact MK.nil, grown_refl _ _⟩
  case round =>
    obtain ⟨k, c, f, hk, rfl, HM, HF, hgr⟩ := hrel
    have hbel : Below w.heap.size w wr := hB0.grown hgr (by omega) (by intro j hj; cases hj; omega)
    have hzr := hgr.size
    by_cases hlt : k < ms.length
    · obtain ⟨b, off, ha, hb, hc⟩ := (hrow.below hbel).at hlt
      subst ha
      have HG : Hid (ms[k]? = some ms[k]) := List.getElem?_eq_getElem hlt
      have c0 := hc k _ HG.out
      clear hc hrow
      generalize ms[k] = x at *
      obtain ⟨n, hn, hn0, hn1, _⟩ := HF.out.get (keyL x)
      have hnl : (ms.take k).length = k := by simp; omega
      rw [hnl] at hn1
      have hwr : IntKind.i64.wrap (n + 1) = n + 1 := cnt_wrap (by omega) (by omega)
      go_wp2
      go_region_with (first
        | (go_at_call 63; refine (key_any x _).mono ?_; rintro e w2 ⟨rfl, hb2⟩; have hb12 : Below wr.heap.size wr w2 := (Below.refl _ _).drew.trans (hb2.mono (by simp)); obtain ⟨st, w3, w4, he, hl1, hl3, hs4, hm4, hg3, hg4⟩ := (HM.out.keep hb12 (by omega)).bump keyed Tryz.underlying82 (by unfold maxLen; omega) zeroInt (key_lit x) (.int .i64 (n + 1)); rw [hn] at he hl1 hl3; unfold goInt at he hs4))
      all_goals
        have hgn : W0.grownBy w4 (some (w.heap.size + 1)) := grown_trans hgr (grown_trans (grown_below _ hb12) hg4)
        have HN : Hid (MK (ms.take (k + 1)) (upd f (keyL x) (.int .i64 (n + 1))) (if (f (keyL x)).isSome then c else c + 1)) := by
          have := HF.out.snoc x hn0 (by rw [hnl]; exact hn1)
          rw [List.take_add_one, HG.out]
          exact this
        have HMn : Hid _ := hm4
        clear hm4 he hl1 hl3 hs4 hg3 hg4 hb12 hb2
        go_wp2
        exact ⟨⟨k + 1, _, _, by omega, by go_num, HMn, HN, hgn⟩, by simp [intOf]; omega⟩
    · rw [List.take_of_length_le (by omega)] at HF
      obtain rfl : k = ms.length := by omega
      go_wp2
      go_ret
      exact ⟨_, c, f, rfl, by omega, HM.out, HF.out, hbel⟩

end Go.Proofs.YthkmpihfhkmaoaaGreat

/-
  A clearing: impl.clearingOf, (*impl.clearing).isMarked.
-/
namespace Go.Proofs.YthkmpihfhkmaoaaGreat
open Go.ChangeShapes Go.WideShapes Go.ChangeAt Go.RowKit

/-- A clearing's cells. -/
def clC (d : Nat) (ph : Int) (Q M : Value) (top at_ ro : Int) (mm : Nat) (D : Value) : List Value := [.pointer (some ⟨d, 0, none⟩), .int .i64 ph, Q, M, .int .i64 top, .int .i64 at_, .int .i64 ro, .map (some mm), D]

theorem rq6 {w : World} {b : Nat} {ph top at_ ro : Int} {Q M : Value} (h : RBox w b ph Q M top at_ ro) : w.cell? ⟨b, 0, none⟩ = some (.int .i64 ph) ∧ w.cell? ⟨b, 1, none⟩ = some Q ∧ w.cell? ⟨b, 2, none⟩ = some M ∧ w.cell? ⟨b, 3, none⟩ = some (.int .i64 top) ∧ w.cell? ⟨b, 4, none⟩ = some (.int .i64 at_) ∧ w.cell? ⟨b, 5, none⟩ = some (.int .i64 ro) :=
  ⟨h.1, h.2.1, h.2.2.1, h.2.2.2.1, h.2.2.2.2.1, h.2.2.2.2.2.1⟩

/-- A block of a clearing. -/
def CBlk (w : World) (c : Nat) : Prop := ∃ cur fz, w.heap[c]? = some (.cells cur 84 fz)

theorem CBlk.same {w w' : World} {c : Nat} (h : CBlk w c) (hb : w'.heap[c]? = w.heap[c]?) : CBlk w' c := by
  obtain ⟨a, b, h⟩ := h
  exact ⟨a, b, hb.trans h⟩

theorem CBlk.set {w : World} {c : Nat} (h : CBlk w c) (j : Nat) (v : Value) : CBlk (w.setCell ⟨c, j, none⟩ v) c := by
  obtain ⟨a, b, h⟩ := h
  refine ⟨a.setIfInBounds j v, b, ?_⟩
  simp [World.setCell, Array.getElem?_modify, h]

theorem own_base {w : World} {base base' : Nat} {e : TypeId} {size : Nat} {v : Value} {n : Nat} {xs : List Value} (h : w.ownsRow base e size v n xs) (hb : base' ≤ base) : w.ownsRow base' e size v n xs := by
  refine ⟨h.1, ?_⟩
  rcases h.2 with hn | ⟨g, cap, cur, hv, hb1, rest⟩
  · exact .inl hn
  · exact .inr ⟨g, cap, cur, hv, Nat.le_trans hb hb1, rest⟩

set_option maxRecDepth 20000 in
set_option maxHeartbeats 4000000 in
theorem clearingOf_any (d : Nat) (ph top at_ ro : Int) (g h ac bc : Nat) (qs ms : List ByteArray) (w : World) (hq : SRow w w.heap.size (some ⟨g, 0, none⟩) qs) (hm : SRow w w.heap.size (some ⟨h, 0, none⟩) ms) (hf : RFit qs ms) :
    Calls Tryz.prog 42 #[.pointer (some ⟨d, 0, none⟩), .agg #[.int .i64 ph, .slice (some ⟨g, 0, none⟩) qs.length ac, .slice (some ⟨h, 0, none⟩) ms.length bc, .int .i64 top, .int .i64 at_, .int .i64 ro]] w fun e w' => ∃ c x cx y cy mm n cc f, e = .returned (.pointer (some ⟨c, 0, none⟩)) ∧ CellsAt w' c (clC d ph (.slice (some ⟨x, 0, none⟩) qs.length cx) (.slice (some ⟨y, 0, none⟩) ms.length cy) top at_ ro mm (.slice none 0 0)) ∧
      w'.ownsRow w.heap.size 9 1 (.slice (some ⟨x, 0, none⟩) qs.length cx) qs.length (qs.map Value.string) ∧ w'.ownsRow w.heap.size 9 1 (.slice (some ⟨y, 0, none⟩) ms.length cy) ms.length (ms.map Value.string) ∧ KMapC w' 98 mm n cc f ∧ MK ms f cc ∧ n ≤ ms.length ∧ CBlk w' c ∧ [c, x, y, mm].Nodup ∧ w.heap.size ≤ c ∧ w.heap.size ≤ mm ∧ Below w.heap.size w w' := by
  obtain ⟨W, hW⟩ : ∃ W, W = w.alloc (.cells #[.int .i64 ph, .slice (some ⟨g, 0, none⟩) qs.length ac, .slice (some ⟨h, 0, none⟩) ms.length bc, .int .i64 top, .int .i64 at_, .int .i64 ro] 37) := ⟨_, rfl⟩
  have hB : Below w.heap.size w W := by rw [hW]; exact (Below.refl _ _).alloc (Nat.le_refl _) _
  have xW : RBox W w.heap.size ph (.slice (some ⟨g, 0, none⟩) qs.length ac) (.slice (some ⟨h, 0, none⟩) ms.length bc) top at_ ro := by rw [hW]; exact ⟨by simp, by simp, by simp, by simp, by simp, by simp, by simp⟩
  have HX : Hid _ := xW
  have S0 := rq6 (w := W.drew) xW
  have D0 : Below W.heap.size W W.drew := (Below.refl _ _).drew
  have HQ : Hid (SRow W.drew W.drew.heap.size (some ⟨g, 0, none⟩) qs) := SRow.mono (SRow.below hq hB.drew) hB.size
  have HM : Hid (∀ X, Below W.heap.size W X → SRow X X.heap.size (some ⟨h, 0, none⟩) ms) := fun X hX => SRow.mono (SRow.below hm (hB.trans (hX.mono hB.size))) (hB.trans (hX.mono hB.size)).size
  have HW : Hid _ := hW
  clear hW hq hm xW
  go_enter Tryz.func42, Tryz.ntmps42
  go_upto_region 1 with fail
  rw [← HW.out]
  clear HW
  go_region_held3 (fun X => X.cell? ⟨w.heap.size, 0, none⟩ = some (.int .i64 ph) ∧ X.cell? ⟨w.heap.size, 1, none⟩ = some (.slice (some ⟨g, 0, none⟩) qs.length ac) ∧ X.cell? ⟨w.heap.size, 2, none⟩ = some (.slice (some ⟨h, 0, none⟩) ms.length bc) ∧ X.cell? ⟨w.heap.size, 3, none⟩ = some (.int .i64 top) ∧ X.cell? ⟨w.heap.size, 4, none⟩ = some (.int .i64 at_) ∧ X.cell? ⟨w.heap.size, 5, none⟩ = some (.int .i64 ro))
    (first | with_reducible exact S0 | with_reducible exact S1 | with_reducible exact S2 | with_reducible exact S3 _)
    (first
      | (go_at_call 96; refine (copyOfRound_any ph top at_ ro g h ac bc qs ms W.drew HQ.out (HM.out _ D0) hf).mono ?_; rintro e w1 ⟨x, cx, y, cy, rfl, hx, hy, hxy, hb1⟩; have B1 : Below W.heap.size W w1 := D0.trans (hb1.mono D0.size); have S1 := rq6 (RBox.below HX.out B1); have HM1 := HM.out _ B1; have H1 : Hid _ := And.intro hx (And.intro hy (And.intro hxy hb1)); clear hx hy hxy hb1)
      | (go_at_call 97; refine (marksOf_any ph top at_ ro (some ⟨g, 0, none⟩) (some ⟨h, 0, none⟩) qs.length ac bc ms w1 HM1 (by have := hf.m; omega)).mono ?_; rintro e w2 ⟨mm, cc, f, rfl, hmm, hM, hF, hb2⟩; have B2 : Below W.heap.size W w2 := B1.trans (hb2.mono B1.size); have S2 := rq6 (RBox.below HX.out B2); have S3 : ∀ o, _ := fun o => rq6 (w := w2.alloc o) (RBox.below HX.out (B2.alloc B2.size o)); have H2 : Hid _ := And.intro hmm (And.intro hM (And.intro hF hb2)); clear hmm hM hF hb2))
  obtain ⟨hx, hy, hxy, hb1⟩ := H1.out
  obtain ⟨hmm, hM, hF, hb2⟩ := H2.out
  obtain ⟨W3, hW3⟩ : ∃ W3, W3 = w2.alloc (.cells #[.pointer (some ⟨d, 0, none⟩), .int .i64 ph, .slice (some ⟨x, 0, none⟩) qs.length cx, .slice (some ⟨y, 0, none⟩) ms.length cy, .int .i64 top, .int .i64 at_, .int .i64 ro, .map (some mm), .slice none 0 0] 84) := ⟨_, rfl⟩
  have b3 : Below w2.heap.size w2 W3 := by rw [hW3]; exact (Below.refl _ _).alloc (Nat.le_refl _) _
  have z3 : CellsAt W3 w2.heap.size (clC d ph (.slice (some ⟨x, 0, none⟩) qs.length cx) (.slice (some ⟨y, 0, none⟩) ms.length cy) top at_ ro mm (.slice none 0 0)) := by rw [hW3]; exact CellsAt.new w2 _ _
  have hw0 : w.heap.size ≤ W.drew.heap.size := hB.size
  have z12 := hb2.size
  have z23 := B2.size
  have lx : _ ≤ x ∧ x < _ := own_lt hx rfl
  have ly : _ ≤ y ∧ y < _ := own_lt hy rfl
  have lm := hM.lt
  have hcb : CBlk W3 w2.heap.size := by rw [hW3]; exact ⟨_, _, heap_alloc_new w2 _⟩
  have hxW : W3.ownsRow w.heap.size 9 1 (.slice (some ⟨x, 0, none⟩) qs.length cx) qs.length (qs.map Value.string) := own_base (own_below (own_below hx hb2) b3) hw0
  have hyW : W3.ownsRow w.heap.size 9 1 (.slice (some ⟨y, 0, none⟩) ms.length cy) ms.length (ms.map Value.string) := own_base (own_below (own_below hy hb2) b3) hw0
  have hMW : KMapC W3 98 mm ms.length cc f := hM.keep b3 hM.lt
  have HE : Hid (Below w.heap.size w W3) := (hB.trans (B2.mono hB.size)).trans (b3.mono (by have := hB.size; omega))
  have hnd : [w2.heap.size, x, y, mm].Nodup := by
    simp
    omega
  have HZ : Hid _ := And.intro z3 (And.intro hxW (And.intro hyW (And.intro hMW (And.intro hF (And.intro hcb hnd)))))
  have hc1 : w.heap.size ≤ w2.heap.size := by have := hB.size; omega
  have hc2 : w.heap.size ≤ mm := by have := hB.size; have := B1.size; omega
  rw [← hW3]
  clear hW3 b3 z3 hx hy hM hxW hyW hMW hF hnd hb1 hb2 S0 S1 S2 S3 lx ly lm H1 H2 HM1
  go_wp2
  go_ret
  exact ⟨_, x, cx, y, cy, mm, _, cc, f, rfl, HZ.out.1, HZ.out.2.1, HZ.out.2.2.1, HZ.out.2.2.2.1, HZ.out.2.2.2.2.1, Nat.le_refl _, HZ.out.2.2.2.2.2.1, HZ.out.2.2.2.2.2.2, hc1, hc2, HE.out⟩

end Go.Proofs.YthkmpihfhkmaoaaGreat
