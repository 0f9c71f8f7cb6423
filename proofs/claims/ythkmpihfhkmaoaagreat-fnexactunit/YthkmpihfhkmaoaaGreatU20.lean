import Derived.Test.YthkmpihfhkmaoaaGreatU19
import Derived.Test.YthkmpihfhkmaoaaGreatU03
import Derived.Test.YthkmpihfhkmaoaaGreatU11
/-
  spec.l6Unit: what it answers; the unit that begins a round.
-/
namespace Go.Proofs.YthkmpihfhkmaoaaGreat
open Go.ChangeShapes Go.WideShapes Go.ChangeAt Go.RowKit

theorem r6 {w : World} {b : Nat} {a0 a1 a2 a3 a4 a5 : Value} (h : CellsAt w b [a0, a1, a2, a3, a4, a5]) : (w.cell? ⟨b, 0, none⟩ = some a0 ∧ w.frozen? ⟨b, 0, none⟩ = false) ∧ (w.cell? ⟨b, 1, none⟩ = some a1 ∧ w.frozen? ⟨b, 1, none⟩ = false) ∧ (w.cell? ⟨b, 2, none⟩ = some a2 ∧ w.frozen? ⟨b, 2, none⟩ = false) ∧ (w.cell? ⟨b, 3, none⟩ = some a3 ∧ w.frozen? ⟨b, 3, none⟩ = false) ∧ (w.cell? ⟨b, 4, none⟩ = some a4 ∧ w.frozen? ⟨b, 4, none⟩ = false) ∧ (w.cell? ⟨b, 5, none⟩ = some a5 ∧ w.frozen? ⟨b, 5, none⟩ = false) :=
  ⟨h 0 _ rfl, h 1 _ rfl, h 2 _ rfl, h 3 _ rfl, h 4 _ rfl, h 5 _ rfl⟩

/-- The rows of an answer: one of three that were there, or new. -/
def Far (b x y n : Nat) (a : Option Addr) : Prop := ∀ p, a = some p → p.block = b ∨ p.block = x ∨ p.block = y ∨ n ≤ p.block

theorem Far.no {b x y n : Nat} : Far b x y n none := fun _ e => by cases e

theorem Far.new {b x y n g o : Nat} (h : n ≤ g) : Far b x y n (some ⟨g, o, none⟩) := fun p e => by cases e; exact .inr (.inr (.inr h))

theorem Far.own {w : World} {b x y n base : Nat} {a : Option Addr} {k c : Nat} {ss : List ByteArray} (h : ORow w base (.slice a k c) ss) (hb : n ≤ base) : Far b x y n a := by
  intro p e
  subst e
  exact .inr (.inr (.inr (Nat.le_trans hb (h.blk (g := p.block) rfl).1)))

/-- What l6Unit answers. -/
structure LU (w w' : World) (e : Ending) (wd now given births : Int) (P L : Value) (ks : List Kd) (ps : List Pd) (ls : List Ld) (ph top at_ ro : Int) (qs ms : List ByteArray) (b0 x0 y0 : Nat) (zs0 : List (Kd × Value)) : Prop where
  out : ∃ (r : UR) (b c : Nat) (zs : List (Kd × Value)) (qa ma da : Option Addr) (qc mc dc : Nat), e = .returned (.agg #[.int .i64 0, .int .i64 wd, .int .i64 now, .int .i64 given, .int .i64 births, .slice (some ⟨b, 0, none⟩) zs.length c, P, L, .int .i64 r.ph, .slice qa r.qs.length qc, .slice ma r.ms.length mc, .int .i64 r.top, .int .i64 r.at_, .int .i64 r.ro, .slice da r.ds.length dc]) ∧ UTo ks ps ls births ph top at_ ro qs ms r ∧ zs.map (·.1) = r.ks ∧ ZRow w' b 0 zs ∧ b < w'.heap.size ∧ SRow w' w'.heap.size qa r.qs ∧ SRow w' w'.heap.size ma r.ms ∧ SRow w' w'.heap.size da r.ds ∧ (Far b0 x0 y0 w.heap.size (some ⟨b, 0, none⟩) ∧ Far b0 x0 y0 w.heap.size qa ∧ Far b0 x0 y0 w.heap.size ma ∧ Far b0 x0 y0 w.heap.size da) ∧ ∀ z ∈ zs, z ∈ zs0
  low : Below w.heap.size w w'

theorem LU.from {w X wf : World} {e : Ending} {wd now given births : Int} {P L : Value} {ks : List Kd} {ps : List Pd} {ls : List Ld} {ph top at_ ro : Int} {qs ms : List ByteArray} {b0 x0 y0 : Nat} {zs0 : List (Kd × Value)} (V : List Nat) (H : ∀ wf, Tn V X wf → LU w wf e wd now given births P L ks ps ls ph top at_ ro qs ms b0 x0 y0 zs0) (hT : Tn V X wf) : LU w wf e wd now given births P L ks ps ls ph top at_ ro qs ms b0 x0 y0 zs0 := H wf hT

/-- A copy of a row of strings by append to a new empty row. -/
theorem ocopyE (W : World) (g o cap : Nat) (ss : List ByteArray) (h : ∀ i s, ss[i]? = some s → W.cell? ⟨g, o + i, none⟩ = some (.string s) ∧ g < W.heap.size) (hl : ss.length ≤ 100000000) (ty : TypeId) :
    ∃ x cx w', (Builtin.append_ #[27, 27] ty #[.slice (some ⟨W.heap.size, 0, none⟩) 0 0, .slice (some ⟨g, o, none⟩) ss.length cap]).run Tryz.prog (W.alloc (.cells #[] 9)) = .ok (.slice (some ⟨x, 0, none⟩) ss.length cx) w' ∧ ORow w' W.heap.size (.slice (some ⟨x, 0, none⟩) ss.length cx) ss ∧ Below W.heap.size W w' := by
  obtain ⟨i0, hi, hz0, hz1, hz2⟩ := info_parts Tryz.infoStr
  have hown : (W.alloc (.cells #[] 9)).ownsRow W.heap.size 9 1 (.slice (some ⟨W.heap.size, 0, none⟩) 0 0) 0 (([] : List ByteArray).map Value.string) := World.ownsRow_lit (base := W.heap.size) (e := 9) (size := 1) W #[] 0 (Nat.le_refl _) (by unfold maxLen; omega) rfl
  have hA : Below W.heap.size W (W.alloc (.cells #[] 9)) := (Below.refl _ _).alloc (Nat.le_refl _) _
  obtain ⟨v', w', hr, ho, hgr, hn⟩ := run_append_own (P := Tryz.prog) (w := W.alloc (.cells #[] 9)) W.heap.size 27 ty 9 i0 (.string ⟨#[]⟩) 1 16 Tryz.underlying27 hi hz0 hz1 hz2 rfl (by decide) _ 0 _ hown ⟨g, o, none⟩ ss.length cap (ss.map Value.string) (by simp) (fun j u hu => by
    rw [List.getElem?_map] at hu
    cases hs : ss[j]? with
    | none => rw [hs] at hu; cases hu
    | some s =>
      rw [hs] at hu
      cases hu
      rw [Go.WideShapes.add_plain]
      exact (hA.cell (p := ⟨g, o + j, none⟩) (h j s hs).2).trans (h j s hs).1) (oneS ss) (by unfold maxLen; omega) (by omega) (by simp)
  simp only [Nat.zero_add, List.map_nil, List.nil_append] at ho
  obtain ⟨x, cx, rfl⟩ := own_some ho (fun e => by have := hn.1 e; cases this.1)
  have hgr' : (W.alloc (.cells #[] 9)).grownBy w' (some W.heap.size) := by simpa [Value.ownBlock] using hgr
  exact ⟨x, cx, w', hr, ORow.own ho, hA.grown hgr' (by simp) (fun k hk => by cases hk; exact Nat.le_refl _)⟩

set_option maxRecDepth 20000 in
set_option maxHeartbeats 16000000 in
theorem l6Unit_begin (wd now given births : Int) (b ac : Nat) (P L : Value) (zs : List (Kd × Value)) (ps : List Pd) (ls : List Ld) (pa la : Option Addr) (pc lc : Nat) (hP : P = .slice pa ps.length pc) (hL : L = .slice la ls.length lc) (top at_ ro : Int) (x y cx cy : Nat) (qs ms : List ByteArray) (w : World) (hz : ZRow w b 0 zs) (hbl : b < w.heap.size) (hp : PRow w w.heap.size pa ps) (hl : LRow w w.heap.size la ls) (hm : SRow w w.heap.size (some ⟨y, 0, none⟩) ms) (hpl : ps.length ≤ 100) (hll : ls.length ≤ 200) (hb0 : 0 ≤ births) (hb1 : births ≤ 1000000000) :
    Calls Tryz.prog 34 #[.agg #[.int .i64 wd, .int .i64 now, .int .i64 given, .int .i64 births, .slice (some ⟨b, 0, none⟩) zs.length ac, P, L], .agg #[.int .i64 0, .slice (some ⟨x, 0, none⟩) qs.length cx, .slice (some ⟨y, 0, none⟩) ms.length cy, .int .i64 top, .int .i64 at_, .int .i64 ro]] w fun e w' => LU w w' e wd now given births P L (zs.map (·.1)) ps ls 0 top at_ ro qs ms b x y zs := by
  obtain ⟨W, hW⟩ : ∃ W, W = ((w.alloc (.cells #[.int .i64 wd, .int .i64 now, .int .i64 given, .int .i64 births, .slice (some ⟨b, 0, none⟩) zs.length ac, P, L] 36)).alloc (.cells #[.int .i64 0, .slice (some ⟨x, 0, none⟩) qs.length cx, .slice (some ⟨y, 0, none⟩) ms.length cy, .int .i64 top, .int .i64 at_, .int .i64 ro] 37)).alloc (.cells #[.int .i64 0, .int .i64 0, .int .i64 0, .int .i64 0, .int .i64 0, .slice none 0 0, .slice none 0 0, .slice none 0 0, .int .i64 0, .slice none 0 0, .slice none 0 0, .int .i64 0, .int .i64 0, .int .i64 0, .slice none 0 0] 39) := ⟨_, rfl⟩
  have hbW : Below w.heap.size w W := by rw [hW]; exact (((Below.refl _ _).alloc (Nat.le_refl _) _).alloc (by simp) _).alloc (by simp; omega) _
  have hzW : W.heap.size = w.heap.size + 3 := by rw [hW]; simp
  have x2 : CellsAt W (w.heap.size + 2) z15 := by
    have h1 := CellsAt.new ((w.alloc (.cells #[.int .i64 wd, .int .i64 now, .int .i64 given, .int .i64 births, .slice (some ⟨b, 0, none⟩) zs.length ac, P, L] 36)).alloc (.cells #[.int .i64 0, .slice (some ⟨x, 0, none⟩) qs.length cx, .slice (some ⟨y, 0, none⟩) ms.length cy, .int .i64 top, .int .i64 at_, .int .i64 ro] 37)) z15 39
    rw [hW]
    simpa [z15] using h1
  have x1 : CellsAt W (w.heap.size + 1) [.int .i64 0, .slice (some ⟨x, 0, none⟩) qs.length cx, .slice (some ⟨y, 0, none⟩) ms.length cy, .int .i64 top, .int .i64 at_, .int .i64 ro] := by
    have h1 := CellsAt.new (w.alloc (.cells #[.int .i64 wd, .int .i64 now, .int .i64 given, .int .i64 births, .slice (some ⟨b, 0, none⟩) zs.length ac, P, L] 36)) [.int .i64 0, .slice (some ⟨x, 0, none⟩) qs.length cx, .slice (some ⟨y, 0, none⟩) ms.length cy, .int .i64 top, .int .i64 at_, .int .i64 ro] 37
    rw [World.size_alloc] at h1
    rw [hW]
    exact CellsAt.below h1 ((Below.refl _ _).alloc (Nat.le_refl _) _)
  have x0 : CellsAt W w.heap.size [.int .i64 wd, .int .i64 now, .int .i64 given, .int .i64 births, .slice (some ⟨b, 0, none⟩) zs.length ac, P, L] := by
    have h1 := CellsAt.new w [.int .i64 wd, .int .i64 now, .int .i64 given, .int .i64 births, .slice (some ⟨b, 0, none⟩) zs.length ac, P, L] 36
    rw [hW]
    exact CellsAt.below (CellsAt.below h1 ((Below.refl _ _).alloc (Nat.le_refl _) _)) ((Below.refl _ _).alloc (Nat.le_refl _) _)
  have HW : Hid _ := hW
  have HzW : Hid (W.heap.size = w.heap.size + 3) := hzW
  have hzW3 : w.heap.size + 3 ≤ W.heap.size := by omega
  clear hW hzW
  obtain ⟨W1, hW1⟩ : ∃ W1, W1 = ((W.setCell ⟨w.heap.size + 1, 0, none⟩ (.int .i64 1)).setCell ⟨w.heap.size + 1, 3, none⟩ (.int .i64 births)).setCell ⟨w.heap.size + 1, 4, none⟩ (.int .i64 (births + 1)) := ⟨_, rfl⟩
  have hT1 : Tn [w.heap.size + 1] W W1 := by rw [hW1]; exact ((tn1 _ _ _ _).trans (tn1 _ _ _ _)).trans (tn1 _ _ _ _)
  have hz1 : W.heap.size ≤ W1.heap.size := hT1.size
  have hb1' : Below w.heap.size w W1 := hbW.trans (hT1.below hbW.size (by simp))
  have u0 : CellsAt W1 w.heap.size [.int .i64 wd, .int .i64 now, .int .i64 given, .int .i64 births, .slice (some ⟨b, 0, none⟩) zs.length ac, P, L] := CellsAt.same x0 (hT1.block _ (by omega) (by simp))
  have u2 : CellsAt W1 (w.heap.size + 2) z15 := CellsAt.same x2 (hT1.block _ (by omega) (by simp))
  have u1 : CellsAt W1 (w.heap.size + 1) [.int .i64 1, .slice (some ⟨x, 0, none⟩) qs.length cx, .slice (some ⟨y, 0, none⟩) ms.length cy, .int .i64 births, .int .i64 (births + 1), .int .i64 ro] := by rw [hW1]; exact ((x1.set 0 _).set 3 _).set 4 _
  have HW1 : Hid _ := hW1
  have HU1 : Hid (CellsAt W1 w.heap.size [.int .i64 wd, .int .i64 now, .int .i64 given, .int .i64 births, .slice (some ⟨b, 0, none⟩) zs.length ac, P, L] ∧ CellsAt W1 (w.heap.size + 1) [.int .i64 1, .slice (some ⟨x, 0, none⟩) qs.length cx, .slice (some ⟨y, 0, none⟩) ms.length cy, .int .i64 births, .int .i64 (births + 1), .int .i64 ro] ∧ CellsAt W1 (w.heap.size + 2) z15) := ⟨u0, u1, u2⟩
  have HIn : Hid (ZRow w b 0 zs ∧ PRow w w.heap.size pa ps ∧ LRow w w.heap.size la ls ∧ SRow w w.heap.size (some ⟨y, 0, none⟩) ms) := ⟨hz, hp, hl, hm⟩
  obtain ⟨⟨r0, f0⟩, ⟨r1, f1⟩, ⟨r2, f2⟩, ⟨r3, f3⟩, ⟨r4, f4⟩, ⟨r5, f5⟩⟩ := r6 x1
  obtain ⟨s3, _⟩ := x0 3 _ rfl
  subst hP hL
  clear hW1 u0 u1 u2 hz hp hl hm x0 x1 x2 hT1 hbW
  go_enter Tryz.func34, Tryz.ntmps34
  go_upto_region 1 with fail
  rw [← HW.out]
  clear HW
  go_upto_region 5 with fail
  rw [← HW1.out]
  clear HW1 r0 r1 r2 r3 r4 r5 f0 f1 f2 f3 f4 f5 s3
  obtain ⟨t0, t1, t2, t3, t4, t5, t6⟩ := sq7 (sbox_of HU1.out.1)
  go_wp2_with fail
  refine (sRoots_any wd now given births _ pa la pc lc ps ls W1 (PRow.mono (PRow.below HIn.out.2.1 hb1') hb1'.size) (LRow.mono (LRow.below HIn.out.2.2.1 hb1') hb1'.size) hpl hll).mono ?_
  rintro e w2 ⟨g, c, rfl, ho2, hb2⟩
  have k0 := sq7 (sbox_of (CellsAt.below HU1.out.1 hb2))
  have k1 := r6 (CellsAt.below HU1.out.2.1 hb2)
  have k2 := c15 (CellsAt.below HU1.out.2.2 hb2)
  obtain ⟨i0, i1, i2, i3, i4, i5, i6⟩ := k0
  obtain ⟨⟨r0, f0⟩, ⟨r1, f1⟩, ⟨r2, f2⟩, ⟨r3, f3⟩, ⟨r4, f4⟩, ⟨r5, f5⟩⟩ := k1
  obtain ⟨⟨y0, q0⟩, ⟨y1, q1⟩, ⟨y2, q2⟩, ⟨y3, q3⟩, ⟨y4, q4⟩, ⟨y5, q5⟩, ⟨y6, q6⟩, ⟨y7, q7⟩, ⟨y8, q8⟩, ⟨y9, q9⟩, ⟨y10, q10⟩, ⟨y11, q11⟩, ⟨y12, q12⟩, ⟨y13, q13⟩, y14, q14⟩ := k2
  have hB2 : Below w.heap.size w w2 := hb1'.trans (hb2.mono hb1'.size)
  have hz2 : w.heap.size + 3 ≤ w2.heap.size := by have := hb2.size; omega
  have HO : Hid (ORow w2 (W1.heap.size + 1) (.slice (some ⟨g, 0, none⟩) (rootsL ps ls).length c) (rootsL ps ls)) := ORow.own ho2
  clear ho2 t0 t1 t2 t3 t4 t5 t6 hb2
  go_wp2
  refine bodyPost_ret (v := .agg #[.int .i64 0, .int .i64 wd, .int .i64 now, .int .i64 given, .int .i64 births, .slice (some ⟨b, 0, none⟩) zs.length ac, .slice pa ps.length pc, .slice la ls.length lc, .int .i64 1, .slice (some ⟨g, 0, none⟩) (rootsL ps ls).length c, .slice (some ⟨y, 0, none⟩) ms.length cy, .int .i64 births, .int .i64 (births + 1), .int .i64 ro, .slice none 0 0]) (by simp [results, Tryz.results34, go_sem, y0, y1, y2, y3, y4, y5, y6, y7, y8, y9, y10, y11, y12, y13, y14]) rfl ?_
  have hT := (tn1 w2 (w.heap.size + 1) 1 (.slice (some ⟨g, 0, none⟩) (rootsL ps ls).length c)).mono (V' := [w.heap.size + 1, w.heap.size + 2]) (by simp)
  refine LU.from (X := w2) [w.heap.size + 1, w.heap.size + 2] ?_ (hT.trans ((tn15 _ (w.heap.size + 2) _ _ _ _ _ _ _ _ _ _ _ _ _ _ _).mono (by simp)))
  intro wf hT2
  have hB3 := hB2.trans (hT2.below hB2.size (by simp))
  obtain ⟨a, cc, e1, hS⟩ := (HO.out.turn hT2 (fun g hg e => by have := (HO.out.blk hg).1; simp at e; omega)).row
  cases e1
  exact ⟨⟨⟨zs.map (·.1), 1, births, births + 1, ro, rootsL ps ls, ms, []⟩, b, ac, zs, _, _, none, _, _, 0, rfl, .begin rfl, rfl, HIn.out.1.below hB3 hbl, Nat.lt_of_lt_of_le hbl hB3.size, hS, HIn.out.2.2.2.below' hB3, .inl rfl, ⟨(fun p e => by cases e; exact .inl rfl), Far.own HO.out (by omega), (fun p e => by cases e; exact .inr (.inr (.inl rfl))), Far.no⟩, fun z hz => hz⟩, hB3⟩

end Go.Proofs.YthkmpihfhkmaoaaGreat

/-
  spec.l6Unit: the unit that goes through the queue's first.
-/
namespace Go.Proofs.YthkmpihfhkmaoaaGreat
open Go.ChangeShapes Go.WideShapes Go.ChangeAt Go.RowKit

set_option maxRecDepth 20000 in
set_option maxHeartbeats 16000000 in
theorem l6Unit_mark (wd now given births : Int) (b ac : Nat) (zs : List (Kd × Value)) (ps : List Pd) (ls : List Ld) (pa la : Option Addr) (pc lc : Nat) (ph top at_ ro : Int) (x y cx cy : Nat) (s : ByteArray) (q0 ms : List ByteArray) (w : World) (hp0 : ph ≠ 0) (hz : ZRow w b 0 zs) (hbl : b < w.heap.size) (hq : SRow w w.heap.size (some ⟨x, 0, none⟩) (s :: q0)) (hm : SRow w w.heap.size (some ⟨y, 0, none⟩) ms) (hcx : q0.length + 1 ≤ cx) (hzl : zs.length ≤ 600) (hr30 : ∀ z ∈ zs, z.1.refs.length ≤ 30) (hql : q0.length ≤ 1048576) (hml : ms.length ≤ 100000) :
    Calls Tryz.prog 34 #[.agg #[.int .i64 wd, .int .i64 now, .int .i64 given, .int .i64 births, .slice (some ⟨b, 0, none⟩) zs.length ac, .slice pa ps.length pc, .slice la ls.length lc], .agg #[.int .i64 ph, .slice (some ⟨x, 0, none⟩) (q0.length + 1) cx, .slice (some ⟨y, 0, none⟩) ms.length cy, .int .i64 top, .int .i64 at_, .int .i64 ro]] w fun e w' => LU w w' e wd now given births (.slice pa ps.length pc) (.slice la ls.length lc) (zs.map (·.1)) ps ls ph top at_ ro (s :: q0) ms b x y zs := by
  have hp0' : (ph == 0) = false := by simpa using hp0
  obtain ⟨hxl, hxc⟩ : x < w.heap.size ∧ ∀ i t, (s :: q0)[i]? = some t → w.cell? ⟨x, 0 + i, none⟩ = some (.string t) := by
    obtain ⟨b', off, e, h1, h2⟩ := hq.at (k := 0) (by simp)
    cases e
    exact ⟨h1, h2⟩
  obtain ⟨o1, hif, ho1⟩ : ∃ o1, ((if cx = 1 then some ⟨x, 0, none⟩ else some ⟨x, 1, none⟩ : Option Addr) = some ⟨x, o1, none⟩) ∧ ∀ i t, q0[i]? = some t → w.cell? ⟨x, o1 + i, none⟩ = some (.string t) := by
    by_cases h1c : cx = 1
    · have : q0 = [] := List.eq_nil_of_length_eq_zero (by omega)
      subst this
      exact ⟨0, if_pos h1c, fun i t h => by simp at h⟩
    · refine ⟨1, if_neg h1c, fun i t h => ?_⟩
      have := hxc (i + 1) t (by simpa using h)
      rw [show 0 + (i + 1) = 1 + i by omega] at this
      exact this
  obtain ⟨W, hW⟩ : ∃ W, W = ((w.alloc (.cells #[.int .i64 wd, .int .i64 now, .int .i64 given, .int .i64 births, .slice (some ⟨b, 0, none⟩) zs.length ac, .slice pa ps.length pc, .slice la ls.length lc] 36)).alloc (.cells #[.int .i64 ph, .slice (some ⟨x, 0, none⟩) (q0.length + 1) cx, .slice (some ⟨y, 0, none⟩) ms.length cy, .int .i64 top, .int .i64 at_, .int .i64 ro] 37)).alloc (.cells #[.int .i64 0, .int .i64 0, .int .i64 0, .int .i64 0, .int .i64 0, .slice none 0 0, .slice none 0 0, .slice none 0 0, .int .i64 0, .slice none 0 0, .slice none 0 0, .int .i64 0, .int .i64 0, .int .i64 0, .slice none 0 0] 39) := ⟨_, rfl⟩
  have hbW : Below w.heap.size w W := by rw [hW]; exact (((Below.refl _ _).alloc (Nat.le_refl _) _).alloc (by simp) _).alloc (by simp; omega) _
  have hzW : W.heap.size = w.heap.size + 3 := by rw [hW]; simp
  have x2 : CellsAt W (w.heap.size + 2) z15 := by
    have h1 := CellsAt.new ((w.alloc (.cells #[.int .i64 wd, .int .i64 now, .int .i64 given, .int .i64 births, .slice (some ⟨b, 0, none⟩) zs.length ac, .slice pa ps.length pc, .slice la ls.length lc] 36)).alloc (.cells #[.int .i64 ph, .slice (some ⟨x, 0, none⟩) (q0.length + 1) cx, .slice (some ⟨y, 0, none⟩) ms.length cy, .int .i64 top, .int .i64 at_, .int .i64 ro] 37)) z15 39
    rw [hW]
    simpa [z15] using h1
  have x1 : CellsAt W (w.heap.size + 1) [.int .i64 ph, .slice (some ⟨x, 0, none⟩) (q0.length + 1) cx, .slice (some ⟨y, 0, none⟩) ms.length cy, .int .i64 top, .int .i64 at_, .int .i64 ro] := by
    have h1 := CellsAt.new (w.alloc (.cells #[.int .i64 wd, .int .i64 now, .int .i64 given, .int .i64 births, .slice (some ⟨b, 0, none⟩) zs.length ac, .slice pa ps.length pc, .slice la ls.length lc] 36)) [.int .i64 ph, .slice (some ⟨x, 0, none⟩) (q0.length + 1) cx, .slice (some ⟨y, 0, none⟩) ms.length cy, .int .i64 top, .int .i64 at_, .int .i64 ro] 37
    rw [World.size_alloc] at h1
    rw [hW]
    exact CellsAt.below h1 ((Below.refl _ _).alloc (Nat.le_refl _) _)
  have x0 : CellsAt W w.heap.size [.int .i64 wd, .int .i64 now, .int .i64 given, .int .i64 births, .slice (some ⟨b, 0, none⟩) zs.length ac, .slice pa ps.length pc, .slice la ls.length lc] := by
    have h1 := CellsAt.new w [.int .i64 wd, .int .i64 now, .int .i64 given, .int .i64 births, .slice (some ⟨b, 0, none⟩) zs.length ac, .slice pa ps.length pc, .slice la ls.length lc] 36
    rw [hW]
    exact CellsAt.below (CellsAt.below h1 ((Below.refl _ _).alloc (Nat.le_refl _) _)) ((Below.refl _ _).alloc (Nat.le_refl _) _)
  have HW : Hid _ := hW
  have HzW : Hid (W.heap.size = w.heap.size + 3) := hzW
  have hzW3 : w.heap.size + 3 ≤ W.heap.size := by omega
  clear hW hzW
  have HX : Hid (∀ X, Below (w.heap.size + 3) W X → CellsAt X w.heap.size [.int .i64 wd, .int .i64 now, .int .i64 given, .int .i64 births, .slice (some ⟨b, 0, none⟩) zs.length ac, .slice pa ps.length pc, .slice la ls.length lc] ∧ CellsAt X (w.heap.size + 1) [.int .i64 ph, .slice (some ⟨x, 0, none⟩) (q0.length + 1) cx, .slice (some ⟨y, 0, none⟩) ms.length cy, .int .i64 top, .int .i64 at_, .int .i64 ro] ∧ CellsAt X (w.heap.size + 2) z15) := fun X hX => ⟨CellsAt.same x0 (hX.block _ (by omega)), CellsAt.same x1 (hX.block _ (by omega)), CellsAt.same x2 (hX.block _ (by omega))⟩
  have c0 : W.cell? ⟨x, 0, none⟩ = some (.string s) := (hbW.cell (p := ⟨x, 0, none⟩) hxl).trans (by simpa using hxc 0 s rfl)
  obtain ⟨xn, cxn, w1, hr1, hQ1, hb1⟩ := ocopyE W x o1 (cx - 1) q0 (fun i t h => ⟨(hbW.cell (p := ⟨x, o1 + i, none⟩) hxl).trans (ho1 i t h), Nat.lt_of_lt_of_le hxl hbW.size⟩) (by omega) 27
  have rA : (W.alloc (.cells #[] 9)).cell? ⟨w.heap.size + 1, 1, none⟩ = some (.slice (some ⟨x, 0, none⟩) (q0.length + 1) cx) := ((CellsAt.below x1 ((Below.refl _ _).alloc (Nat.le_refl _) _)) 1 _ rfl).1
  have hfs := find_any wd now given births (some ⟨b, 0, none⟩) ac (.slice pa ps.length pc) (.slice la ls.length lc) (zs.map (·.1)) s w1 w.heap.size (KRow.below (hz.krow hbl) (hbW.trans (hb1.mono hbW.size))) (Nat.le_trans hbW.size hb1.size) (by rw [List.length_map]; omega)
  rw [List.length_map] at hfs
  have HF : Hid _ := hfs
  have HIn : Hid (ZRow w b 0 zs ∧ SRow w w.heap.size (some ⟨x, 0, none⟩) (s :: q0) ∧ SRow w w.heap.size (some ⟨y, 0, none⟩) ms) := ⟨hz, hq, hm⟩
  have Hb1 : Hid (Below (w.heap.size + 3) W w1) := hb1.mono hzW3
  have HBW : Hid (Below w.heap.size w W) := hbW
  have HQ1 : Hid (ORow w1 (w.heap.size + 3) (.slice (some ⟨xn, 0, none⟩) q0.length cxn) q0) := hQ1.mono hzW3
  have HR30 : Hid (∀ z ∈ zs, z.1.refs.length ≤ 30) := hr30
  have hz1 : w.heap.size + 3 ≤ w1.heap.size := Nat.le_trans hzW3 hb1.size
  have hb0 : Below (w.heap.size + 3) W W := Below.refl _ _
  obtain ⟨i0, i1, i2, i3, i4, i5, i6⟩ := sq7 (sbox_of (HX.out _ hb0).1)
  obtain ⟨⟨r0, f0⟩, ⟨r1, f1⟩, ⟨r2, f2⟩, ⟨r3, f3⟩, ⟨r4, f4⟩, ⟨r5, f5⟩⟩ := r6 (HX.out _ hb0).2.1
  obtain ⟨⟨u0, j0⟩, ⟨u1, j1⟩, ⟨u2, j2⟩, ⟨u3, j3⟩, ⟨u4, j4⟩, ⟨u5, j5⟩, ⟨u6, j6⟩, ⟨u7, j7⟩, ⟨u8, j8⟩, ⟨u9, j9⟩, ⟨u10, j10⟩, ⟨u11, j11⟩, ⟨u12, j12⟩, ⟨u13, j13⟩, u14, j14⟩ := c15 (HX.out _ hb0).2.2
  clear hz hq hm x0 x1 x2 hbW hQ1 hb1 hxc ho1 hr30 hfs
  go_enter Tryz.func34, Tryz.ntmps34
  go_upto_region 1 with fail
  rw [← HW.out]
  clear HW
  go_upto_region 10 with (at_builtin; refine wpList_append_run rfl _ _ 27 27 rfl rfl rfl hr1 ?_)
  clear i0 i1 i2 i3 i4 i5 i6 r0 r1 r2 r3 r4 r5 f0 f1 f2 f3 f4 f5 u0 j0 u1 j1 u2 j2 u3 j3 u4 j4 u5 j5 u6 j6 u7 j7 u8 j8 u9 j9 u10 j10 u11 j11 u12 j12 u13 j13 u14 j14 hr1 hb0 c0 hif rA
  obtain ⟨i0, i1, i2, i3, i4, i5, i6⟩ := sq7 (sbox_of (HX.out _ Hb1.out).1)
  obtain ⟨⟨r0, f0⟩, ⟨r1, f1⟩, ⟨r2, f2⟩, ⟨r3, f3⟩, ⟨r4, f4⟩, ⟨r5, f5⟩⟩ := r6 (HX.out _ Hb1.out).2.1
  obtain ⟨⟨u0, j0⟩, ⟨u1, j1⟩, ⟨u2, j2⟩, ⟨u3, j3⟩, ⟨u4, j4⟩, ⟨u5, j5⟩, ⟨u6, j6⟩, ⟨u7, j7⟩, ⟨u8, j8⟩, ⟨u9, j9⟩, ⟨u10, j10⟩, ⟨u11, j11⟩, ⟨u12, j12⟩, ⟨u13, j13⟩, u14, j14⟩ := c15 (HX.out _ Hb1.out).2.2
  go_wp2_with fail
  refine Calls.mono HF.out ?_
  rintro e w2 ⟨rfl, hb2⟩
  have Hb2 : Hid (Below (w.heap.size + 3) W w2) := Hb1.out.trans (hb2.mono hz1)
  have HQ2 : Hid (ORow w2 (w.heap.size + 3) (.slice (some ⟨xn, 0, none⟩) q0.length cxn) q0) := HQ1.out.below hb2
  have hz2 : w.heap.size + 3 ≤ w2.heap.size := Nat.le_trans hz1 hb2.size
  have HB : Hid (Below w.heap.size w w2) := HBW.out.trans (Hb2.out.mono (by omega))
  clear i0 i1 i2 i3 i4 i5 i6 r0 r1 r2 r3 r4 r5 f0 f1 f2 f3 f4 f5 u0 j0 u1 j1 u2 j2 u3 j3 u4 j4 u5 j5 u6 j6 u7 j7 u8 j8 u9 j9 u10 j10 u11 j11 u12 j12 u13 j13 u14 j14 HQ1 Hb1 hb2 HF hz1
  have HQ1 : Hid (ORow w2 (w.heap.size + 3) (.slice (some ⟨xn, 0, none⟩) q0.length cxn) q0) := HQ2.out
  clear HQ2
  obtain ⟨i0, i1, i2, i3, i4, i5, i6⟩ := sq7 (sbox_of (HX.out _ Hb2.out).1)
  obtain ⟨⟨r0, f0⟩, ⟨r1, f1⟩, ⟨r2, f2⟩, ⟨r3, f3⟩, ⟨r4, f4⟩, ⟨r5, f5⟩⟩ := r6 (HX.out _ Hb2.out).2.1
  obtain ⟨⟨u0, j0⟩, ⟨u1, j1⟩, ⟨u2, j2⟩, ⟨u3, j3⟩, ⟨u4, j4⟩, ⟨u5, j5⟩, ⟨u6, j6⟩, ⟨u7, j7⟩, ⟨u8, j8⟩, ⟨u9, j9⟩, ⟨u10, j10⟩, ⟨u11, j11⟩, ⟨u12, j12⟩, ⟨u13, j13⟩, u14, j14⟩ := c15 (HX.out _ Hb2.out).2.2
  rcases findI_cases (zs.map (·.1)) s with ⟨hfi, hno⟩ | ⟨fi, fu, hfi, hfu, hfs⟩
  · rw [hfi]
    have HN : Hid (¬ There (zs.map (·.1)) s) := hno
    clear hno hfi
    go_wp2
    refine bodyPost_ret (v := .agg #[.int .i64 0, .int .i64 wd, .int .i64 now, .int .i64 given, .int .i64 births, .slice (some ⟨b, 0, none⟩) zs.length ac, .slice pa ps.length pc, .slice la ls.length lc, .int .i64 ph, .slice (some ⟨xn, 0, none⟩) q0.length cxn, .slice (some ⟨y, 0, none⟩) ms.length cy, .int .i64 top, .int .i64 at_, .int .i64 ro, .slice none 0 0]) (by simp [results, Tryz.results34, go_sem, u0, u1, u2, u3, u4, u5, u6, u7, u8, u9, u10, u11, u12, u13, u14]) rfl ?_
    have hT := (tn1 w2 (w.heap.size + 1) 1 (.slice (some ⟨xn, 0, none⟩) q0.length cxn)).mono (V' := [w.heap.size + 1, w.heap.size + 2]) (by simp)
    refine LU.from (X := w2) [w.heap.size + 1, w.heap.size + 2] ?_ (hT.trans ((tn15 _ (w.heap.size + 2) _ _ _ _ _ _ _ _ _ _ _ _ _ _ _).mono (by simp)))
    intro wf hT2
    have hB3 := HB.out.trans (hT2.below HB.out.size (by simp))
    obtain ⟨a, cc, e1, hS⟩ := (HQ1.out.turn hT2 (fun g hg e => by have := (HQ1.out.blk hg).1; simp at e; omega)).row
    cases e1
    have hSM := SRow.below' HIn.out.2.2 hB3
    exact ⟨⟨⟨zs.map (·.1), ph, top, at_, ro, q0, ms, []⟩, b, ac, zs, _, _, none, _, _, 0, rfl, .mark hp0 s q0 _ _ rfl (.inl ⟨.inl HN.out, rfl, rfl⟩), rfl, HIn.out.1.below hB3 hbl, Nat.lt_of_lt_of_le hbl hB3.size, hS, hSM, .inl rfl, ⟨(fun p e => by cases e; exact .inl rfl), Far.own HQ1.out (by omega), (fun p e => by cases e; exact .inr (.inr (.inl rfl))), Far.no⟩, fun z hz => hz⟩, hB3⟩
  · rw [hfi]
    have hneg : decide ((fi : Int) < 0) = false := by simp
    have hge : decide ((0 : Int) ≤ fi) = true := by simp
    have HFU : Hid ((zs.map (·.1))[fi]? = some fu ∧ fu.sum = s) := ⟨hfu, hfs⟩
    have HC : Hid _ := has_any (some ⟨y, 0, none⟩) cy ms s w2 w2.heap.size (SRow.below' HIn.out.2.2 HB.out) (by omega)
    clear hfi hfu hfs
    go_wp2_with fail
    refine Calls.mono HC.out ?_
    rintro e w9 ⟨rfl, hw9⟩
    rw [hw9]
    clear hw9 HC w9
    by_cases hin : s ∈ ms
    · have hany : ms.any (fun x => decide (x = s)) = true := List.any_eq_true.2 ⟨s, hin, by simp⟩
      rw [hany]
      clear hany
      go_wp2
      refine bodyPost_ret (v := .agg #[.int .i64 0, .int .i64 wd, .int .i64 now, .int .i64 given, .int .i64 births, .slice (some ⟨b, 0, none⟩) zs.length ac, .slice pa ps.length pc, .slice la ls.length lc, .int .i64 ph, .slice (some ⟨xn, 0, none⟩) q0.length cxn, .slice (some ⟨y, 0, none⟩) ms.length cy, .int .i64 top, .int .i64 at_, .int .i64 ro, .slice none 0 0]) (by simp [results, Tryz.results34, go_sem, u0, u1, u2, u3, u4, u5, u6, u7, u8, u9, u10, u11, u12, u13, u14]) rfl ?_
      have hT := (tn1 w2 (w.heap.size + 1) 1 (.slice (some ⟨xn, 0, none⟩) q0.length cxn)).mono (V' := [w.heap.size + 1, w.heap.size + 2]) (by simp)
      refine LU.from (X := w2) [w.heap.size + 1, w.heap.size + 2] ?_ (hT.trans ((tn15 _ (w.heap.size + 2) _ _ _ _ _ _ _ _ _ _ _ _ _ _ _).mono (by simp)))
      intro wf hT2
      have hB3 := HB.out.trans (hT2.below HB.out.size (by simp))
      obtain ⟨a, cc, e1, hS⟩ := (HQ1.out.turn hT2 (fun g hg e => by have := (HQ1.out.blk hg).1; simp at e; omega)).row
      cases e1
      have hSM := SRow.below' HIn.out.2.2 hB3
      exact ⟨⟨⟨zs.map (·.1), ph, top, at_, ro, q0, ms, []⟩, b, ac, zs, _, _, none, _, _, 0, rfl, .mark hp0 s q0 _ _ rfl (.inl ⟨.inr hin, rfl, rfl⟩), rfl, HIn.out.1.below hB3 hbl, Nat.lt_of_lt_of_le hbl hB3.size, hS, hSM, .inl rfl, ⟨(fun p e => by cases e; exact .inl rfl), Far.own HQ1.out (by omega), (fun p e => by cases e; exact .inr (.inr (.inl rfl))), Far.no⟩, fun z hz => hz⟩, hB3⟩
    · have hany : ms.any (fun x => decide (x = s)) = false := by simp; exact fun x hx e => hin (e ▸ hx)
      rw [hany]
      have Hnin : Hid (s ∉ ms) := hin
      clear hany hin
      have hyc : ∀ i t, ms[i]? = some t → w2.cell? ⟨y, 0 + i, none⟩ = some (.string t) ∧ y < w2.heap.size := by
        intro i t h
        rcases SRow.below' HIn.out.2.2 HB.out with e | ⟨b', off, e, h1, h2⟩
        · rw [e] at h; simp at h
        · cases e
          exact ⟨h2 i t h, h1⟩
      obtain ⟨y2, cy2, w3, hr2, hM3, hb3⟩ := ocopyE w2 y 0 cy ms hyc (by omega) 27
      have bA : Below w3.heap.size w3 (w3.alloc (.cells #[.string s] 9)) := (Below.refl _ _).alloc (Nat.le_refl _) _
      obtain ⟨M', w4, hr3, hM4, hg4, hk4⟩ := oappend (w3.alloc (.cells #[.string s] 9)) w2.heap.size _ ms (hM3.below bA) ⟨w3.heap.size, 0, none⟩ 1 s (by simp [go_sem]) (by omega) (by have := hb3.size; simp; omega) 27
      obtain ⟨a', vc', hMe, _⟩ := hM4.row
      rw [List.length_append, List.length_cons, List.length_nil, Nat.zero_add] at hMe
      subst hMe
      have b24 : Below w2.heap.size w2 w4 := (hb3.trans (bA.mono hb3.size)).grown hg4 (by have := hb3.size; simp; omega) (fun k hk => ((hM3.below bA).blk hk).1)
      have Hb4 : Hid (Below (w.heap.size + 3) W w4) := Hb2.out.trans (b24.mono hz2)
      have HQ4 : Hid (ORow w4 (w.heap.size + 3) (.slice (some ⟨xn, 0, none⟩) q0.length cxn) q0) := HQ1.out.below b24
      have hqlt : ∀ g, sBlk (.slice (some ⟨xn, 0, none⟩) q0.length cxn) = some g → g < w2.heap.size := fun g hg => (HQ1.out.blk hg).2
      have hmge : ∀ g, sBlk (.slice a' (ms.length + 1) vc') = some g → w2.heap.size ≤ g := fun g hg => (hM4.blk hg).1
      obtain ⟨X, hX⟩ : ∃ X, X = w4.setCell ⟨w.heap.size + 1, 2, none⟩ (.slice a' (ms.length + 1) vc') := ⟨_, rfl⟩
      have hTX : Tn [w.heap.size + 1] w4 X := by rw [hX]; exact tn1 _ _ _ _
      have hqm : Hid (ORow X (w.heap.size + 3) (.slice (some ⟨xn, 0, none⟩) q0.length cxn) q0 ∧ ORow X (w.heap.size + 3) (.slice a' (ms.length + 1) vc') (ms ++ [s]) ∧ (∀ g, sBlk (.slice (some ⟨xn, 0, none⟩) q0.length cxn) = some g → sBlk (.slice a' (ms.length + 1) vc') ≠ some g)) :=
        ⟨HQ4.out.turn hTX (fun g hg e => by have := (HQ4.out.blk hg).1; simp at e; omega), (hM4.turn hTX (fun g hg e => by have := hmge g hg; simp at e; omega)).mono hz2, fun g hg hg' => by have := hqlt g hg; have := hmge g hg'; omega⟩
      have HXX : Hid (∀ Y, Below (w.heap.size + 3) X Y → CellsAt Y w.heap.size [.int .i64 wd, .int .i64 now, .int .i64 given, .int .i64 births, .slice (some ⟨b, 0, none⟩) zs.length ac, .slice pa ps.length pc, .slice la ls.length lc] ∧ CellsAt Y (w.heap.size + 1) [.int .i64 ph, .slice (some ⟨x, 0, none⟩) (q0.length + 1) cx, .slice a' (ms.length + 1) vc', .int .i64 top, .int .i64 at_, .int .i64 ro] ∧ CellsAt Y (w.heap.size + 2) z15) := fun Y hY => by
        have h4 := HX.out _ Hb4.out
        have hl4 : w.heap.size + 3 ≤ w4.heap.size := Nat.le_trans hz2 b24.size
        have e0 : CellsAt X w.heap.size [.int .i64 wd, .int .i64 now, .int .i64 given, .int .i64 births, .slice (some ⟨b, 0, none⟩) zs.length ac, .slice pa ps.length pc, .slice la ls.length lc] := CellsAt.same h4.1 (hTX.block _ (by omega) (by simp))
        have e2 : CellsAt X (w.heap.size + 2) z15 := CellsAt.same h4.2.2 (hTX.block _ (by omega) (by simp))
        have e1 : CellsAt X (w.heap.size + 1) [.int .i64 ph, .slice (some ⟨x, 0, none⟩) (q0.length + 1) cx, .slice a' (ms.length + 1) vc', .int .i64 top, .int .i64 at_, .int .i64 ro] := by rw [hX]; exact h4.2.1.set 2 _
        exact ⟨CellsAt.same e0 (hY.block _ (by omega)), CellsAt.same e1 (hY.block _ (by omega)), CellsAt.same e2 (hY.block _ (by omega))⟩
      have HBX : Hid (Below w.heap.size w X) := (HB.out.trans (b24.mono HB.out.size)).trans (hTX.below (Nat.le_trans HB.out.size b24.size) (by simp))
      obtain ⟨⟨n0, m0⟩, ⟨n1, m1⟩, ⟨n2, m2⟩, ⟨n3, m3⟩, ⟨n4, m4⟩, ⟨n5, m5⟩⟩ := r6 (HX.out _ Hb4.out).2.1
      have HXe : Hid _ := hX
      have hzX : w.heap.size + 3 ≤ X.heap.size := by have := hTX.size; have := b24.size; omega
      have rB : (w2.alloc (.cells #[] 9)).cell? ⟨w.heap.size + 1, 2, none⟩ = some (.slice (some ⟨y, 0, none⟩) ms.length cy) := ((CellsAt.below (HX.out _ Hb2.out).2.1 ((Below.refl _ _).alloc (Nat.le_refl _) _)) 2 _ rfl).1
      clear hX hTX HQ4 hqlt hmge b24 bA hM3 hM4 hg4 hk4 hyc hb3
      go_upto_region 13 with (first
        | (at_builtin; refine wpList_append_run rfl _ _ 27 27 rfl rfl rfl hr2 ?_)
        | (at_builtin; refine wpList_append_run rfl _ _ 27 27 rfl rfl rfl hr3 ?_))
      clear rB hr2 hr3 i0 i1 i2 i3 i4 i5 i6 r0 r1 r2 r3 r4 r5 f0 f1 f2 f3 f4 f5 u0 j0 u1 j1 u2 j2 u3 j3 u4 j4 u5 j5 u6 j6 u7 j7 u8 j8 u9 j9 u10 j10 u11 j11 u12 j12 u13 j13 u14 j14
      rw [← HXe.out]
      clear HXe n0 n1 n2 n3 n4 n5 m0 m1 m2 m3 m4 m5 Hb4 HX Hb2 HQ1 HB
      obtain ⟨z, hzz, hzf⟩ : ∃ z, zs[fi]? = some z ∧ z.1 = fu := by
        have := HFU.out.1
        rw [List.getElem?_map] at this
        obtain ⟨z, h1, h2⟩ := Option.map_eq_some_iff.1 this
        exact ⟨z, h1, h2⟩
      have hfil : fi < zs.length := (List.getElem?_eq_some_iff.1 hzz).1
      have hrl : z.1.refs.length ≤ 30 := HR30.out z (List.mem_of_getElem? hzz)
      obtain ⟨⟨_, _, _, hz3⟩, ad, rc, hz4, hz5⟩ := (HIn.out.1.below HBX.out hbl) fi z hzz
      rw [hz4, Nat.zero_add] at hz3
      have HRR : Hid (∀ Y, Below (w.heap.size + 3) X Y → SRow Y Y.heap.size (some ad) z.1.refs) := fun Y hY => SRow.below' (w := w) (by
        obtain ⟨_, ad', rc', hz4', hz5'⟩ := HIn.out.1 fi z hzz
        rw [hz4] at hz4'
        cases hz4'
        exact hz5') (HBX.out.trans (hY.mono (by omega)))
      have HU' : Hid (z.1 ∈ zs.map (·.1) ∧ z.1.sum = s) := ⟨List.mem_map.2 ⟨z, List.mem_of_getElem? hzz, rfl⟩, by rw [hzf]; exact HFU.out.2⟩
      have hbX0 : Below (w.heap.size + 3) X X := Below.refl _ _
      obtain ⟨i0, i1, i2, i3, i4, i5, i6⟩ := sq7 (sbox_of (HXX.out _ hbX0).1)
      clear hz4 hz5 hzz hzf HFU HR30 hge hneg
      have HFM : Hid (∀ Y v, ORow Y (w.heap.size + 3) (.slice a' (ms.length + 1) vc') (ms ++ [s]) → Calls Tryz.prog 88 #[.slice a' (ms.length + 1) vc', .string v] Y fun e w' => e = .returned (.bool ((ms ++ [s]).any (fun x => decide (x = v)))) ∧ w' = Y) := fun Y v hY => by
        obtain ⟨a2, c2, e2, hs2⟩ := hY.row
        rw [List.length_append, List.length_cons, List.length_nil, Nat.zero_add] at e2
        cases e2
        have := has_any a' vc' (ms ++ [s]) v Y Y.heap.size hs2 (by rw [List.length_append]; simp; omega)
        rw [List.length_append, List.length_cons, List.length_nil, Nat.zero_add] at this
        exact this
      go_wp2
      go_loopw [6, 9] (fun v i wr => ∃ (k : Nat) (Qk : Value), k ≤ z.1.refs.length ∧ i = .int .i64 k ∧ v = Qk ∧ Hid (ORow wr (w.heap.size + 3) Qk (q0 ++ fresh (ms ++ [s]) (z.1.refs.take k)) ∧ ORow wr (w.heap.size + 3) (.slice a' (ms.length + 1) vc') (ms ++ [s]) ∧ (∀ g, sBlk Qk = some g → sBlk (.slice a' (ms.length + 1) vc') ≠ some g) ∧ Below (w.heap.size + 3) X wr)) (fun _ i _ => z.1.refs.length - (intOf i).toNat)
      case atStart => exact ⟨0, _, Nat.zero_le _, rfl, rfl, by simpa [fresh] using hqm.out.1, hqm.out.2.1, hqm.out.2.2, hbX0⟩
      case round =>
        clear hqm i0 i1 i2 i3 i4 i5 i6 hz3
        obtain ⟨k, Qk, hk, rfl, hv, HI⟩ := hrel
        have hv' := hv.symm
        subst hv'
        clear hv
        by_cases hlt : k < z.1.refs.length
        · obtain ⟨rb, ro_, ha, hb, hc⟩ := (HRR.out _ HI.out.2.2.2).at hlt
          cases ha
          have HG : Hid (z.1.refs[k]? = some z.1.refs[k]) := List.getElem?_eq_getElem hlt
          have c0 := hc k _ HG.out
          have HFS : Hid _ := fresh_snoc (ms := ms ++ [s]) HG.out
          have hfl : (q0 ++ fresh (ms ++ [s]) (z.1.refs.take k)).length ≤ 1048606 := by
            have : (fresh (ms ++ [s]) (z.1.refs.take k)).length ≤ (z.1.refs.take k).length := List.length_filter_le _ _
            simp at this ⊢
            omega
          clear hc
          generalize z.1.refs[k] = v at *
          generalize hO : q0 ++ fresh (ms ++ [s]) (z.1.refs.take k) = qk at *
          have HO : Hid _ := hO
          clear hO
          obtain ⟨⟨_, _⟩, ⟨_, _⟩, ⟨r2, _⟩, _⟩ := r6 (HXX.out _ HI.out.2.2.2).2.1
          have S0 : wr.drew.cell? ⟨w.heap.size + 1, 2, none⟩ = some (.slice a' (ms.length + 1) vc') ∧ wr.drew.cell? ⟨rb, ro_ + k, none⟩ = some (.string v) := ⟨r2, c0⟩
          have HD : Hid (ORow wr.drew (w.heap.size + 3) (.slice a' (ms.length + 1) vc') (ms ++ [s])) := HI.out.2.1.below ((Below.refl _ _).drew)
          have hkl : (k : Int) < z.1.refs.length := by omega
          obtain ⟨bb, hbb⟩ : ∃ bb, (ms ++ [s]).any (fun x => decide (x = v)) = bb := ⟨_, rfl⟩
          have hcall := HFM.out wr.drew v HD.out
          rw [hbb] at hcall
          have HCall : Hid _ := hcall
          have HBB : Hid ((ms ++ [s]).any (fun x => decide (x = v)) = bb) := hbb
          clear r2 c0 hbb hcall
          go_upto_region 17 with fail
          go_region_held3 (fun Y => Y.cell? ⟨w.heap.size + 1, 2, none⟩ = some (.slice a' (ms.length + 1) vc') ∧ Y.cell? ⟨rb, ro_ + k, none⟩ = some (.string v))
            (first | with_reducible exact S0)
            (first
              | (go_at_call 88; refine Calls.mono HCall.out ?_; rintro e w10 ⟨rfl, hw10⟩; subst hw10))
          have bD : Below wr.heap.size wr wr.drew := (Below.refl _ _).drew
          have HQ10 : Hid (ORow wr.drew (w.heap.size + 3) Qk qk) := HI.out.1.below bD
          have HB10 : Hid (Below (w.heap.size + 3) X wr.drew) := HI.out.2.2.2.drew
          have HAp : Hid (∀ g, sBlk Qk = some g → sBlk (.slice a' (ms.length + 1) vc') ≠ some g) := HI.out.2.2.1
          have hzr : w.heap.size + 3 ≤ wr.drew.heap.size := Nat.le_trans hzX HB10.out.size
          obtain ⟨_, c0⟩ := S0
          clear HI bD HCall
          generalize wr.drew = w10 at *
          cases bb with
          | true =>
            have hin : v ∈ ms ++ [s] := by
              obtain ⟨x, hx, e⟩ := List.any_eq_true.1 HBB.out
              simp at e
              exact e ▸ hx
            have HE : Hid (q0 ++ fresh (ms ++ [s]) (z.1.refs.take (k + 1)) = qk) := by show _ = _; rw [HFS.out.1 hin]; exact HO.out
            clear HBB hin c0
            go_wp2
            exact ⟨⟨k + 1, Qk, by omega, by go_num, rfl, ⟨by rw [HE.out]; exact HQ10.out, HD.out, HAp.out, HB10.out⟩⟩, by simp [intOf]; omega⟩
          | false =>
            have hin : ¬ v ∈ ms ++ [s] := fun e => by
              have := List.any_eq_false.1 HBB.out v e
              simp at this
            have HE : Hid (q0 ++ fresh (ms ++ [s]) (z.1.refs.take (k + 1)) = qk ++ [v]) := by
              show _ = _
              rw [HFS.out.2 hin, ← List.append_assoc, HO.out]
            have bA : Below w10.heap.size w10 (w10.alloc (.cells #[.string v] 9)) := (Below.refl _ _).alloc (Nat.le_refl _) _
            obtain ⟨Q', w11, hr, hQ11, hg11, hk11⟩ := oappend (w10.alloc (.cells #[.string v] 9)) (w.heap.size + 3) Qk qk (HQ10.out.below bA) ⟨w10.heap.size, 0, none⟩ 1 v (by simp [go_sem]) (by omega) (by simp; omega) 27
            have b11 : Below (w.heap.size + 3) w10 w11 := (bA.mono hzr).grown hg11 (by simp; omega) (fun q e => (HQ10.out.blk e).1)
            have hMb : ∀ g, sBlk (.slice a' (ms.length + 1) vc') = some g → g < w10.heap.size := fun g hg => (HD.out.blk hg).2
            have HEE : Hid (ORow w11 (w.heap.size + 3) Q' (qk ++ [v]) ∧ ORow w11 (w.heap.size + 3) (.slice a' (ms.length + 1) vc') (ms ++ [s]) ∧ (∀ g, sBlk Q' = some g → sBlk (.slice a' (ms.length + 1) vc') ≠ some g) ∧ Below (w.heap.size + 3) X w11) := by
              refine ⟨hQ11, (HD.out.below bA).stays hg11.size (fun g hg => hg11.block g (by have := hMb g hg; simp; omega) (fun e => HAp.out g e.symm hg)), fun g hg hg' => ?_, HB10.out.trans b11⟩
              rcases hk11 with e | e
              · exact HAp.out g (e ▸ hg) hg'
              · rw [e] at hg
                cases hg
                have := hMb _ hg'
                simp only [World.size_alloc] at this
                omega
            clear HBB hin hQ11 hg11 hk11 b11 bA
            go_wp2_with (at_builtin; refine wpList_append_run rfl _ _ 27 27 rfl rfl rfl hr ?_)
            clear hr
            go_wp2
            exact ⟨⟨k + 1, Q', by omega, by go_num, rfl, ⟨by rw [HE.out]; exact HEE.out.1, HEE.out.2.1, HEE.out.2.2.1, HEE.out.2.2.2⟩⟩, by simp [intOf]; omega⟩
        · obtain rfl : k = z.1.refs.length := by omega
          have hE := HI.out.1
          rw [List.take_of_length_le (Nat.le_refl _)] at hE
          have HE : Hid (ORow wr (w.heap.size + 3) Qk (q0 ++ fresh (ms ++ [s]) z.1.refs)) := hE
          obtain ⟨qa, qc, hQe, _⟩ := hE.row
          have hfl : (q0 ++ fresh (ms ++ [s]) z.1.refs).length ≤ 1048606 := by
            have : (fresh (ms ++ [s]) z.1.refs).length ≤ z.1.refs.length := List.length_filter_le _ _
            simp at this ⊢
            omega
          subst hQe
          have HB : Hid (Below w.heap.size w wr) := HBX.out.trans (HI.out.2.2.2.mono (by omega))
          obtain ⟨i0, i1, i2, i3, i4, i5, i6⟩ := sq7 (sbox_of (HXX.out _ HI.out.2.2.2).1)
          obtain ⟨⟨r0, f0⟩, ⟨r1, f1⟩, ⟨r2, f2⟩, ⟨r3, f3⟩, ⟨r4, f4⟩, ⟨r5, f5⟩⟩ := r6 (HXX.out _ HI.out.2.2.2).2.1
          obtain ⟨⟨u0, j0⟩, ⟨u1, j1⟩, ⟨u2, j2⟩, ⟨u3, j3⟩, ⟨u4, j4⟩, ⟨u5, j5⟩, ⟨u6, j6⟩, ⟨u7, j7⟩, ⟨u8, j8⟩, ⟨u9, j9⟩, ⟨u10, j10⟩, ⟨u11, j11⟩, ⟨u12, j12⟩, ⟨u13, j13⟩, u14, j14⟩ := c15 (HXX.out _ HI.out.2.2.2).2.2
          have hzr : w.heap.size + 3 ≤ wr.heap.size := Nat.le_trans hzX HI.out.2.2.2.size
          generalize hqq : q0 ++ fresh (ms ++ [s]) z.1.refs = qq at *
          clear hE
          go_wp2
          refine bodyPost_ret (v := .agg #[.int .i64 0, .int .i64 wd, .int .i64 now, .int .i64 given, .int .i64 births, .slice (some ⟨b, 0, none⟩) zs.length ac, .slice pa ps.length pc, .slice la ls.length lc, .int .i64 ph, .slice qa qq.length qc, .slice a' (ms.length + 1) vc', .int .i64 top, .int .i64 at_, .int .i64 ro, .slice none 0 0]) (by simp [results, Tryz.results34, go_sem, u0, u1, u2, u3, u4, u5, u6, u7, u8, u9, u10, u11, u12, u13, u14]) rfl ?_
          have hT := (tn1 wr (w.heap.size + 1) 1 (.slice qa qq.length qc)).mono (V' := [w.heap.size + 1, w.heap.size + 2]) (by simp)
          refine LU.from (X := wr) [w.heap.size + 1, w.heap.size + 2] ?_ (hT.trans ((tn15 _ (w.heap.size + 2) _ _ _ _ _ _ _ _ _ _ _ _ _ _ _).mono (by simp)))
          intro wf hT2
          have hB3 := HB.out.trans (hT2.below HB.out.size (by simp))
          obtain ⟨a, cc, e1, hS⟩ := (HE.out.turn hT2 (fun g hg e => by have := (HE.out.blk hg).1; simp at e; omega)).row
          cases e1
          obtain ⟨ma, mc, e2, hSM⟩ := (HI.out.2.1.turn hT2 (fun g hg e => by have := (HI.out.2.1.blk hg).1; simp at e; omega)).row
          rw [List.length_append, List.length_cons, List.length_nil, Nat.zero_add] at e2
          cases e2
          exact ⟨⟨⟨zs.map (·.1), ph, top, at_, ro, qq, (ms ++ [s]), []⟩, b, ac, zs, _, _, none, qc, vc', 0, (by simp), .mark hp0 s q0 _ _ rfl (.inr ⟨z.1, HU'.out.1, HU'.out.2, Hnin.out, rfl, hqq.symm⟩), rfl, HIn.out.1.below hB3 hbl, Nat.lt_of_lt_of_le hbl hB3.size, hS, hSM, .inl rfl, ⟨(fun p e => by cases e; exact .inl rfl), Far.own HE.out (by omega), Far.own HI.out.2.1 (by omega), Far.no⟩, fun z hz => hz⟩, hB3⟩

end Go.Proofs.YthkmpihfhkmaoaaGreat
