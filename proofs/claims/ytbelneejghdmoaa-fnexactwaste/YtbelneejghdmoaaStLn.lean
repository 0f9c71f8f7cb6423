/-
  impl.linksDown, linksUp.
-/
import Derived.Test.YtbelneejghdmoaaStLk
import Derived.Deep.DeepCutAuto
import Derived.Deep.RegionHeld3
import Derived.Deep.DrawnRows
namespace Go.Proofs.Ytbelneejghdmoaa
open Go.ChangeShapes Go.WideShapes Go.ChangeAt Go.RowKit
attribute [local go_sem ↓] Go.wp_at_zero Go.wp_at_succ

/-- A call of a Go function at a step of a region that draws its order, for go_region_law. -/
theorem step_callL {P : Program} {ops : Array Oper} {o : Oper} {a : Act} {w : World} {K : Act → World → Prop} {Q : Exit → Act → World → Prop} {E : Prop} (hgd : o.guard = none) (f : FuncId) (args : Array Value) (hrun : (execOp a.eval o).run P w = .ok (.enter f args) w)
    {post : Ending → World → Prop} (hc : Calls P f args w post) (h : ∀ e w', post e w' → ∃ v, e = .returned v ∧ K (a.put o.dst v) w') : if Region.wanted o (yielded ops a.tmps) = true then Oper.wp P o a w K Q else E := by
  have hw : Region.wanted o (yielded ops a.tmps) = true := by simp [Region.wanted, hgd]
  rw [if_pos hw]
  unfold Oper.wp
  rw [hrun, Oper.upon_enter]
  refine hc.mono fun e w' hp => ?_
  obtain ⟨v, rfl, hk⟩ := h e w' hp
  exact hk

/-- Where a walk goes on from each thing. -/
def dnE (ks : List Kd) : List (ByteArray × ByteArray) := ks.flatMap (fun u => u.refs.map (fun r => (u.sum, r)))
def upE (ks : List Kd) : List (ByteArray × ByteArray) := ks.flatMap (fun u => u.refs.map (fun r => (r, u.sum)))

theorem dnE_snoc {ks : List Kd} {k : Nat} {x : Kd} (h : ks[k]? = some x) : dnE (ks.take (k + 1)) = dnE (ks.take k) ++ x.refs.map (fun r => (x.sum, r)) := by
  obtain ⟨hlt, rfl⟩ := List.getElem?_eq_some_iff.1 h
  unfold dnE
  rw [List.take_succ_eq_append_getElem hlt, List.flatMap_append]
  simp

theorem upE_snoc {ks : List Kd} {k : Nat} {x : Kd} (h : ks[k]? = some x) : upE (ks.take (k + 1)) = upE (ks.take k) ++ x.refs.map (fun r => (r, x.sum)) := by
  obtain ⟨hlt, rfl⟩ := List.getElem?_eq_some_iff.1 h
  unfold upE
  rw [List.take_succ_eq_append_getElem hlt, List.flatMap_append]
  simp

theorem map_snoc {α : Type} (g : ByteArray → α) {rs : List ByteArray} {m : Nat} {r : ByteArray} (h : rs[m]? = some r) : (rs.take (m + 1)).map g = (rs.take m).map g ++ [g r] := by
  obtain ⟨hlt, rfl⟩ := List.getElem?_eq_some_iff.1 h
  rw [List.take_succ_eq_append_getElem hlt, List.map_append]
  rfl

theorem flat_len {ks : List Kd} (g : Kd → List (ByteArray × ByteArray)) (hg : ∀ u ∈ ks, (g u).length ≤ 30) : (ks.flatMap g).length ≤ 30 * ks.length := by
  induction ks with
  | nil => simp
  | cons k ks ih =>
    have h1 := ih (fun k hk => hg k (by simp [hk]))
    have h2 := hg k (by simp)
    rw [List.flatMap_cons, List.length_append, List.length_cons]
    omega

theorem zeroRow8 (w : World) : (zeroValue 102).run Try.prog w = .ok (.slice none 0 0) w := by kernel_rfl

/-- The map opened at a key, in the walk's own words. -/
theorem Lk.entry {w : World} {base b n : Nat} {wd : Int} {E : List (ByteArray × ByteArray)} {av : List Nat} {f : Lit → Option Value} (h : Lk w base b n wd E av f) (hn : n ≤ 1000000) (s : ByteArray) :
    ∃ (st : Int) (w3 : World), (Instr.mapEntry 104 (.map (some b)) (.agg #[.int .u8 (kB s 0), .int .u8 (kB s 1), .int .u8 (kB s 2), .int .u8 (kB s 3), .int .u8 (kB s 4), .int .u8 (kB s 5), .int .u8 (kB s 6), .int .u8 (kB s 7)])).run Try.prog w = .ok (.tuple #[rowV f s, .int .i64 st]) w3 ∧ w.grownBy w3 (some b) ∧
      ∀ W, W.heap[b]? = w3.heap[b]? → ∀ val, ∃ W', (Instr.entryStore 104 (.map (some b)) (goInt st) val).run Try.prog W = .ok () W' ∧ KMap W' 96 b (n + 1) (upd f (keyL s) val) ∧ W.grownBy W' (some b) := by
  obtain ⟨st, w3, h1, h2, h3⟩ := h.map.entry keyed Try.underlying104 (by unfold maxLen; omega) zeroRow8 (key_lit s)
  exact ⟨st, w3, h1, h2, h3⟩

theorem R8.stay1 {w w' : World} {g c : Nat} {ts : List ByteArray} {B B' b : Nat} (h : R8 w B (.slice (some ⟨g, 0, none⟩) ts.length c) ts) (hg : w.grownBy w' (some b)) (hne : g ≠ b) (hlt : g < w.heap.size) (hB : B ≤ B') : R8 w' B' (.slice (some ⟨g, 0, none⟩) ts.length c) ts :=
  (h.stays (fun k e => by cases e; exact hg.block g hlt (fun e => hne (Option.some.inj e)))).mono hB

theorem R8.one_stay {w3 wC : World} {b : Nat} (r : ByteArray) (hg : (w3.alloc (oneK r)).grownBy wC (some b)) (hne : w3.heap.size ≠ b) : R8 wC wC.heap.size (.slice (some ⟨w3.heap.size, 0, none⟩) 1 1) [r] :=
  R8.stay1 (ts := [r]) (g := w3.heap.size) (c := 1) (R8.one w3 r) hg hne (by simp) (by have := hg.size; simp at this; omega)

theorem CellsAt.same {w w' : World} {B : Nat} {l : List Value} (h : CellsAt w B l) (hb : w'.heap[B]? = w.heap[B]?) : CellsAt w' B l :=
  fun j v hj => ⟨(World.cell?_of_block (a := ⟨B, j, none⟩) hb).trans (h j v hj).1, (World.frozen?_of_block (a := ⟨B, j, none⟩) hb).trans (h j v hj).2⟩

/-- The cells of a key's box, in a world that holds the box as it was. -/
theorem sk8 {w w' : World} {B : Nat} {s : ByteArray} (h : w'.heap[B]? = w.heap[B]?) (hc : CellsAt w B [.int .u8 (kB s 0), .int .u8 (kB s 1), .int .u8 (kB s 2), .int .u8 (kB s 3), .int .u8 (kB s 4), .int .u8 (kB s 5), .int .u8 (kB s 6), .int .u8 (kB s 7)]) :
    w'.cell? ⟨B, 0, none⟩ = some (.int .u8 (kB s 0)) ∧ w'.cell? ⟨B, 1, none⟩ = some (.int .u8 (kB s 1)) ∧ w'.cell? ⟨B, 2, none⟩ = some (.int .u8 (kB s 2)) ∧ w'.cell? ⟨B, 3, none⟩ = some (.int .u8 (kB s 3)) ∧ w'.cell? ⟨B, 4, none⟩ = some (.int .u8 (kB s 4)) ∧ w'.cell? ⟨B, 5, none⟩ = some (.int .u8 (kB s 5)) ∧ w'.cell? ⟨B, 6, none⟩ = some (.int .u8 (kB s 6)) ∧ w'.cell? ⟨B, 7, none⟩ = some (.int .u8 (kB s 7)) := by
  have := CellsAt.same hc h
  exact ⟨(this 0 _ rfl).1, (this 1 _ rfl).1, (this 2 _ rfl).1, (this 3 _ rfl).1, (this 4 _ rfl).1, (this 5 _ rfl).1, (this 6 _ rfl).1, (this 7 _ rfl).1⟩

theorem alloc_same (w : World) (o : Obj) {b : Nat} (h : b < w.heap.size) : (w.alloc o).heap[b]? = w.heap[b]? := Below.heap_alloc w o b h


theorem Lk.more {w : World} {base b n : Nat} {wd : Int} {E : List (ByteArray × ByteArray)} {av : List Nat} {f : Lit → Option Value} (h : Lk w base b n wd E av f) {q : Nat} (hq : w.heap.size ≤ q) : Lk w base b n wd E (q :: av) f :=
  ⟨h.map, h.row, h.apart, fun t ht g hg hin => by
    rcases List.mem_cons.1 hin with rfl | hin
    · have := ((h.row t ht).blk hg).2; omega
    · exact h.far t ht g hg hin⟩

theorem Lk.less {w : World} {base b n : Nat} {wd : Int} {E : List (ByteArray × ByteArray)} {q : Nat} {av : List Nat} {f : Lit → Option Value} (h : Lk w base b n wd E (q :: av) f) : Lk w base b n wd E av f :=
  ⟨h.map, h.row, h.apart, fun t ht g hg hin => h.far t ht g hg (List.mem_cons_of_mem _ hin)⟩

theorem sk9 {w w' : World} {B B5 : Nat} {s : ByteArray} {v : Value} {l : List Value} (h : w'.heap[B]? = w.heap[B]? ∧ w'.heap[B5]? = w.heap[B5]?) (hz : CellsAt w B5 (v :: l)) (hc : CellsAt w B [.int .u8 (kB s 0), .int .u8 (kB s 1), .int .u8 (kB s 2), .int .u8 (kB s 3), .int .u8 (kB s 4), .int .u8 (kB s 5), .int .u8 (kB s 6), .int .u8 (kB s 7)]) :
    w'.cell? ⟨B5, 0, none⟩ = some v ∧ w'.cell? ⟨B, 0, none⟩ = some (.int .u8 (kB s 0)) ∧ w'.cell? ⟨B, 1, none⟩ = some (.int .u8 (kB s 1)) ∧ w'.cell? ⟨B, 2, none⟩ = some (.int .u8 (kB s 2)) ∧ w'.cell? ⟨B, 3, none⟩ = some (.int .u8 (kB s 3)) ∧ w'.cell? ⟨B, 4, none⟩ = some (.int .u8 (kB s 4)) ∧ w'.cell? ⟨B, 5, none⟩ = some (.int .u8 (kB s 5)) ∧ w'.cell? ⟨B, 6, none⟩ = some (.int .u8 (kB s 6)) ∧ w'.cell? ⟨B, 7, none⟩ = some (.int .u8 (kB s 7)) :=
  ⟨(CellsAt.same hz h.2 0 _ rfl).1, sk8 h.1 hc⟩

set_option maxRecDepth 20000 in
set_option maxHeartbeats 16000000 in
theorem linksDown_any (wd now given births : Int) (a : Option Addr) (ac : Nat) (P L : Value) (ks : List Kd) (w : World) (hrow : KRow w w.heap.size a ks) (hl : ks.length ≤ 600) (hr30 : ∀ k ∈ ks, k.refs.length ≤ 30) (hsz : ∀ k ∈ ks, (k.sum.size : Int) = wd) (hrs : ∀ k ∈ ks, ∀ r ∈ k.refs, (r.size : Int) = wd) (h8 : wd ≤ 8) :
    Calls Try.prog 104 #[.agg #[.int .i64 wd, .int .i64 now, .int .i64 given, .int .i64 births, .slice a ks.length ac, P, L]] w fun e w' => ∃ b n f, e = .returned (.map (some b)) ∧ w.heap.size < b ∧ Lk w' (b + 1) b n wd (dnE ks) [] f ∧ Below w.heap.size w w' := by
  have hmm := @run_makeMap Try.prog
  have HKR : Hid _ := hrow
  have HSZ : Hid _ := And.intro hr30 (And.intro hsz hrs)
  have hb0 : Below w.heap.size w (w.alloc (.cells #[.int .i64 wd, .int .i64 now, .int .i64 given, .int .i64 births, .slice a ks.length ac, P, L] 33)) := (Below.refl _ _).alloc (Nat.le_refl _) _
  have hx := SBox.new w wd now given births (.slice a ks.length ac) P L 33
  obtain ⟨W0, hW0⟩ : ∃ W, W = (w.alloc (.cells #[.int .i64 wd, .int .i64 now, .int .i64 given, .int .i64 births, .slice a ks.length ac, P, L] 33)).alloc (.map #[] 0) := ⟨_, rfl⟩
  have hz0 : W0.heap.size = w.heap.size + 2 := by rw [hW0]; simp
  have hB0 : Below w.heap.size w W0 := by rw [hW0]; exact hb0.alloc hb0.size _
  have hM0 : KMap W0 96 (w.heap.size + 1) 0 (fun _ => none) := by
    have := KMap.new (w.alloc (.cells #[.int .i64 wd, .int .i64 now, .int .i64 given, .int .i64 births, .slice a ks.length ac, P, L] 33)) 96
    rw [World.size_alloc] at this
    rw [hW0]
    exact this
  have hX0 : SBox W0 w.heap.size wd now given births (.slice a ks.length ac) P L := by rw [hW0]; exact hx.keep ((Below.refl _ _).alloc (Nat.le_refl _) _) hx.2.2.2.2.2.2.2
  have HM0 : Hid (Lk W0 (w.heap.size + 1 + 1) (w.heap.size + 1) 0 wd [] [] (fun _ => none)) := Lk.new hM0
  clear hrow hr30 hsz hrs hx hb0 hM0
  obtain ⟨q0, q1, q2, q3, q4, q5, q6, q7⟩ := hX0
  go_enter Try.func104, Try.ntmps104
  go_upto_region 2 with fail
  rw [← hW0]
  clear hW0 hmm
  go_wp2
  go_loopw [13] (fun i wr => ∃ (k : Nat) (f : Lit → Option Value), k ≤ ks.length ∧ i = .int .i64 k ∧ Hid (Lk wr (w.heap.size + 1 + 1) (w.heap.size + 1) (dnE (ks.take k)).length wd (dnE (ks.take k)) [] f) ∧ Below w.heap.size w wr ∧ Hid (SBox wr w.heap.size wd now given births (.slice a ks.length ac) P L) ∧ w.heap.size + 2 ≤ wr.heap.size) (fun i _ => ks.length - (intOf i).toNat)
  case atStart => exact ⟨0, _, Nat.zero_le _, rfl, by rw [List.take_zero]; exact HM0, hB0, ⟨q0, q1, q2, q3, q4, q5, q6, q7⟩, by omega⟩
  case round =>
    rename World => wo
    clear q0 q1 q2 q3 q4 q5 q6 q7 HM0 hB0 hz0
    obtain ⟨k, f, hk, rfl, HL, hbel, HX, hzr⟩ := hrel
    by_cases hlt : k < ks.length
    · obtain ⟨b, off, ha, hb, hc⟩ := (KRow.below HKR.out hbel).at hlt
      subst ha
      have HG : Hid (ks[k]? = some ks[k]) := List.getElem?_eq_getElem hlt
      obtain ⟨c0, c1, c2, ra, rc, c3, hra⟩ := hc k _ HG.out
      have hmem : ks[k] ∈ ks := List.getElem_mem hlt
      have hx30 := HSZ.out.1 _ hmem
      have hxs := HSZ.out.2.1 _ hmem
      have HXR : Hid _ := HSZ.out.2.2 _ hmem
      have hbr : b < wo.heap.size := by omega
      have HE : Hid _ := dnE_snoc HG.out
      have hEl : (dnE (ks.take k)).length ≤ 18000 := by
        have := flat_len (ks := ks.take k) (fun u => u.refs.map (fun r => (u.sum, r))) (fun u hu => by simpa using HSZ.out.1 u (List.mem_of_mem_take hu))
        have h2 : (ks.take k).length ≤ 600 := by simp; omega
        unfold dnE
        omega
      have HRA : Hid _ := hra
      clear hc hra hmem
      generalize ks[k] = x at *
      generalize dnE (ks.take k) = E0 at *
      obtain ⟨W1, hW1⟩ : ∃ W1, W1 = wo.alloc (.cells #[.string x.sum, .int .i64 x.born, .string x.text, .slice ra x.refs.length rc] 92) := ⟨_, rfl⟩
      have h11 : Below wo.heap.size wo W1 := by rw [hW1]; exact (Below.refl _ _).alloc (Nat.le_refl _) _
      have Z1 : CellsAt W1 wo.heap.size [.string x.sum, .int .i64 x.born, .string x.text, .slice ra x.refs.length rc] := by rw [hW1]; exact CellsAt.new wo _ _
      have hz1 : W1.heap.size = wo.heap.size + 1 := by rw [hW1]; simp
      obtain ⟨z0, _⟩ := Z1 0 _ rfl
      have HW1 : Hid _ := hW1
      have HZ1 : Hid _ := Z1
      have H11 : Hid _ := h11
      clear hW1 Z1 h11
      obtain ⟨x0, x1, x2, x3, x4, x5, x6, x7⟩ := HX.out
      go_upto_region 5 with fail
      rw [← HW1.out]
      clear HW1 x0 x1 x2 x3 x4 x5 x6
      go_wp2_with fail
      refine (key_out x.sum W1).mono ?_
      rintro e w2 ⟨rfl, hb2⟩
      obtain ⟨W2, hW2⟩ : ∃ W2, W2 = w2.alloc (oneK x.sum) := ⟨_, rfl⟩
      have h22 : Below w2.heap.size w2 W2 := by rw [hW2]; exact (Below.refl _ _).alloc (Nat.le_refl _) _
      have Y2 : CellsAt W2 w2.heap.size [.int .u8 (kB x.sum 0), .int .u8 (kB x.sum 1), .int .u8 (kB x.sum 2), .int .u8 (kB x.sum 3), .int .u8 (kB x.sum 4), .int .u8 (kB x.sum 5), .int .u8 (kB x.sum 6), .int .u8 (kB x.sum 7)] := by rw [hW2]; exact CellsAt.new w2 _ _
      have h12 : Below W1.heap.size W1 W2 := hb2.trans (h22.mono hb2.size)
      have hr2 : Below wo.heap.size wo W2 := H11.out.trans (h12.mono H11.out.size)
      have Z2 : CellsAt W2 wo.heap.size [.string x.sum, .int .i64 x.born, .string x.text, .slice ra x.refs.length rc] := CellsAt.below HZ1.out h12
      have hz2 : W1.heap.size ≤ w2.heap.size := hb2.size
      have hz22 : w2.heap.size < W2.heap.size := Y2.lt
      have B2 : Below w.heap.size wo W2 := hr2.mono hbel.size
      have X2 : SBox W2 w.heap.size wd now given births (.slice (some ⟨b, off, none⟩) ks.length ac) P L := SBox.keep HX.out hr2 x7
      have L2 : Lk W2 (w.heap.size + 1 + 1) (w.heap.size + 1) E0.length wd E0 [wo.heap.size, w2.heap.size] f := Lk.keep (Lk.avoid HL.out _ (by intro q hq; simp at hq; rcases hq with rfl | rfl <;> omega)) hr2
      have HI : Hid _ := And.intro L2 (And.intro B2 (And.intro X2 (And.intro Z2 Y2)))
      have HW2 : Hid _ := hW2
      unfold oneK at HW2
      clear hW2 L2 B2 X2 Y2 h22 h12 hr2 hb2 HZ1 H11 z0 x7
      obtain ⟨z3, _⟩ := Z2 3 _ rfl
      clear Z2
      go_upto_region 6 with fail
      rw [← HW2.out]
      obtain ⟨B5, hB5⟩ : ∃ B5, B5 = wo.heap.size := ⟨_, rfl⟩
      obtain ⟨B6, hB6⟩ : ∃ B6, B6 = w2.heap.size := ⟨_, rfl⟩
      rw [← hB5, ← hB6] at HI ⊢
      rw [← hB5] at z3
      have hB5w : w.heap.size + 2 ≤ B5 := by omega
      have hB56 : B5 < B6 := by omega
      have hB6l : B6 < W2.heap.size := by omega
      clear HW2 hB5 hB6 hz1 hz2 hz22
      go_wp2
      go_loopw [24] (fun i wr => ∃ (m : Nat) (f2 : Lit → Option Value), m ≤ x.refs.length ∧ i = .int .i64 m ∧ Hid (Lk wr (w.heap.size + 1 + 1) (w.heap.size + 1) (E0.length + m) wd (E0 ++ (x.refs.take m).map (fun r => (x.sum, r))) [B5, B6] f2) ∧ Below w.heap.size wo wr ∧ Hid (SBox wr w.heap.size wd now given births (.slice (some ⟨b, off, none⟩) ks.length ac) P L) ∧ Hid (CellsAt wr B5 [.string x.sum, .int .i64 x.born, .string x.text, .slice ra x.refs.length rc] ∧ CellsAt wr B6 [.int .u8 (kB x.sum 0), .int .u8 (kB x.sum 1), .int .u8 (kB x.sum 2), .int .u8 (kB x.sum 3), .int .u8 (kB x.sum 4), .int .u8 (kB x.sum 5), .int .u8 (kB x.sum 6), .int .u8 (kB x.sum 7)]) ∧ B6 < wr.heap.size) (fun i _ => x.refs.length - (intOf i).toNat)
      case atStart => exact ⟨0, f, Nat.zero_le _, rfl, (show Lk _ _ _ _ _ _ _ _ from by simpa using HI.out.1), HI.out.2.1, HI.out.2.2.1, HI.out.2.2.2, hB6l⟩
      case round =>
        clear HI z3 HL
        obtain ⟨m, f2, hm, rfl, HL, hbel2, HX, HZ, hzr2⟩ := hrel
        by_cases hmlt : m < x.refs.length
        · obtain ⟨b', off', ha', hb', hc'⟩ := (SRow.below HRA.out hbel2).at hmlt
          subst ha'
          have HGr : Hid (x.refs[m]? = some x.refs[m]) := List.getElem?_eq_getElem hmlt
          have hck := hc' m _ HGr.out
          have HMS : Hid _ := map_snoc (fun r => (x.sum, r)) HGr.out
          clear hc'
          generalize x.refs[m] = r at *
          have hrsz : (r.size : Int) = wd := HXR.out r (List.mem_of_getElem? HGr.out)
          obtain ⟨y0, _⟩ := HZ.out.2 0 _ rfl
          obtain ⟨y1, _⟩ := HZ.out.2 1 _ rfl
          obtain ⟨y2, _⟩ := HZ.out.2 2 _ rfl
          obtain ⟨y3, _⟩ := HZ.out.2 3 _ rfl
          obtain ⟨y4, _⟩ := HZ.out.2 4 _ rfl
          obtain ⟨y5, _⟩ := HZ.out.2 5 _ rfl
          obtain ⟨y6, _⟩ := HZ.out.2 6 _ rfl
          obtain ⟨y7, _⟩ := HZ.out.2 7 _ rfl
          have hEm : (E0 ++ (x.refs.take m).map (fun r => (x.sum, r))).length ≤ 18030 := by simp; omega
          have hb'r : b' < wr.heap.size := by have := hbel2.size; omega
          have hwb : w.heap.size + 1 < w.heap.size + 1 + 1 := Nat.lt_succ_self _
          have hwr2 : w.heap.size + 1 + 1 ≤ wr.heap.size := by omega
          have hav2 : ∀ q ∈ [B5, B6], q < wr.heap.size := by intro q hq; simp at hq; rcases hq with rfl | rfl <;> omega
          have kD : Below wr.heap.size wr wr.drew := (Below.refl _ _).drew
          go_upto_region 9 with fail
          have hbB6 : B6 ≠ w.heap.size + 1 := by omega
          have eD : wr.drew.heap[B6]? = wr.heap[B6]? := rfl
          have hB6av : B6 ∈ [B5, B6] := by simp
          go_region_held3 (fun w' => w'.cell? ⟨B6, 0, none⟩ = some (.int .u8 (kB x.sum 0)) ∧ w'.cell? ⟨B6, 1, none⟩ = some (.int .u8 (kB x.sum 1)) ∧ w'.cell? ⟨B6, 2, none⟩ = some (.int .u8 (kB x.sum 2)) ∧ w'.cell? ⟨B6, 3, none⟩ = some (.int .u8 (kB x.sum 3)) ∧ w'.cell? ⟨B6, 4, none⟩ = some (.int .u8 (kB x.sum 4)) ∧ w'.cell? ⟨B6, 5, none⟩ = some (.int .u8 (kB x.sum 5)) ∧ w'.cell? ⟨B6, 6, none⟩ = some (.int .u8 (kB x.sum 6)) ∧ w'.cell? ⟨B6, 7, none⟩ = some (.int .u8 (kB x.sum 7)))
            (exact sk8 (by assumption) HZ.out.2)
            (first
              | (go_at_call 71; refine (key_out r wr.drew).mono ?_; rintro e w3 ⟨rfl, hb3⟩; have k3 : Below wr.heap.size wr w3 := kD.trans (hb3.mono (Nat.le_refl _)); have k4 : Below wr.heap.size wr (w3.alloc (oneK r)) := k3.alloc k3.size _; obtain ⟨stC, wC, hEC, hgC, hsC⟩ := (HL.out.keep k4).entry (by omega) x.sum; have gC : wr.grownBy wC (some (w.heap.size + 1)) := (grown_below _ k4).trans hgC; have l3 : w.heap.size + 1 < w3.heap.size := (by have := k3.size; omega); obtain ⟨vC, w4C, w5C, hrC, htC, hLC, hbC, haC, hzC⟩ := HL.out.add hwb hwr2 hav2 gC hxs h8 hsC (R8.one_stay r hgC (by omega)) (by omega) 102; have e3 : w3.heap[B6]? = wr.heap[B6]? := k3.block B6 hzr2; have e3a : (w3.alloc (oneK r)).heap[B6]? = wr.heap[B6]? := k4.block B6 hzr2; have eC : wC.heap[B6]? = wr.heap[B6]? := gC.block B6 hzr2 (fun e => hbB6 (Option.some.inj e)); have e4C := (haC B6 hB6av hbB6).2; have e5C := (haC B6 hB6av hbB6).1; unfold oneK at hEC e3a; unfold goInt at htC)
              | (refine step_append_run (by rfl) (.tmp 30) (.tmp 33) 102 102 (by rfl) (by rfl) (by rfl) hrC ?_; have HF : Hid _ := (And.intro hLC (And.intro hbC (And.intro haC hzC)))))
          all_goals
            have hlen : E0.length + (m + 1) = E0.length + m + 1 := by omega
            clear y0 y1 y2 y3 y4 y5 y6 y7 hck
            go_wp2
            refine ⟨⟨m + 1, upd f2 (keyL x.sum) vC, by omega, by go_num, ?_, ?_, ?_, ⟨?_, ?_⟩, ?_⟩, by simp [intOf]; omega⟩
            · rw [HMS.out, ← List.append_assoc, hlen]
              exact HF.out.1
            · exact hbel2.trans (HF.out.2.1.mono (by omega))
            · exact SBox.keep HX.out HF.out.2.1 (by omega)
            · exact CellsAt.same HZ.out.1 (HF.out.2.2.1 B5 (by simp) (by omega)).1
            · exact CellsAt.same HZ.out.2 (HF.out.2.2.1 B6 (by simp) (by omega)).1
            · have := HF.out.2.2.2
              omega
        · obtain rfl : m = x.refs.length := by omega
          rw [List.take_of_length_le (Nat.le_refl _), ← HE.out] at HL
          have hln : (dnE (ks.take (k + 1))).length = E0.length + x.refs.length := by rw [HE.out]; simp
          rw [← hln] at HL
          have HLf : Hid _ := Lk.free HL.out
          clear HL
          go_wp2
          exact ⟨⟨k + 1, f2, by omega, by go_num, HLf, hbel.trans hbel2, HX, by omega⟩, by simp [intOf]; omega⟩
    · rw [List.take_of_length_le (by omega)] at HL
      obtain rfl : k = ks.length := by omega
      go_wp2
      go_ret
      exact ⟨_, _, f, rfl, by omega, HL.out, hbel⟩

end Go.Proofs.Ytbelneejghdmoaa
