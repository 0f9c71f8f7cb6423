/-
  spec.l5Room, Room; impl.Room.
-/
import Derived.Test.YtbelneejghdmoaaStSV
namespace Go.Proofs.Ytbelneejghdmoaa
open Go.ChangeShapes Go.WideShapes Go.ChangeAt Go.RowKit

def kRoom (wd : Int) (k : Kd) : Int := 1 + k.refs.length * wd + k.text.size

def roomK (wd : Int) (ks : List Kd) : Int := (ks.map (kRoom wd)).sum

theorem roomK_snoc {wd : Int} {ks : List Kd} {k : Nat} {x : Kd} (hx : ks[k]? = some x) : roomK wd (ks.take (k + 1)) = roomK wd (ks.take k) + kRoom wd x := by
  unfold roomK
  rw [take_snoc hx, List.map_append, List.sum_append]
  simp

theorem kRoom_bd {wd : Int} {x : Kd} (h : okThing x.text x.refs wd = true) : 1 ≤ kRoom wd x ∧ kRoom wd x ≤ 2241 ∧ 0 ≤ (x.refs.length : Int) * wd ∧ (x.refs.length : Int) * wd ≤ 240 := by
  have h := okThing_parts h
  have h1 := h.lo
  have h2 := h.hi
  have h3 := h.refs
  have h4 := h.text
  have m0 : 0 ≤ (x.refs.length : Int) * wd := Int.mul_nonneg (by omega) (by omega)
  have m1 : (x.refs.length : Int) * wd ≤ 30 * 8 := Int.mul_le_mul (by omega) h2 (by omega) (by omega)
  unfold kRoom
  omega

theorem roomK_bd {wd : Int} {ks : List Kd} (h : ∀ (i : Nat) k, ks[i]? = some k → okThing k.text k.refs wd = true) : ∀ k, k ≤ ks.length → 0 ≤ roomK wd (ks.take k) ∧ roomK wd (ks.take k) ≤ 2241 * k
  | 0, _ => by simp [roomK]
  | k + 1, hk => by
    have ih := roomK_bd h k (by omega)
    have hx : ks[k]? = some (ks[k]'(by omega)) := List.getElem?_eq_getElem (by omega)
    have := kRoom_bd (h k _ hx)
    rw [roomK_snoc hx]
    omega

theorem formTxt_len {x : Kd} {wd : Int} (h : okThing x.text x.refs wd = true) : ((formTxt x.text x.refs wd).size : Int) = kRoom wd x := by
  have hp := okThing_parts h
  have hb := hp.bulk
  have h1 := hp.lo
  unfold formTxt
  rw [if_pos h]
  have : (ByteArray.mk (formB x.text x.refs).toArray).size = 1 + (bulk x.refs + x.text.size) := by
    show (formB x.text x.refs).toArray.size = _
    simp only [List.size_toArray, formB, List.length_cons, List.length_append, flat_length, Array.length_toList]
    show _ + x.text.size + 1 = _
    omega
  rw [this, hb]
  unfold kRoom
  have e : ((x.refs.length * wd.toNat : Nat) : Int) = (x.refs.length : Int) * wd := by
    rw [Int.natCast_mul, Int.toNat_of_nonneg (by omega)]
  omega

set_option maxRecDepth 20000 in
set_option maxHeartbeats 2000000 in
theorem l5Room_any (wd now given births : Int) (a : Option Addr) (ac : Nat) (P L : Value) (ks : List Kd) (w : World) (hrow : KRow w w.heap.size a ks) (hl : ks.length ≤ 600) (hok : ∀ (i : Nat) k, ks[i]? = some k → okThing k.text k.refs wd = true) :
    Calls Try.prog 56 #[.agg #[.int .i64 wd, .int .i64 now, .int .i64 given, .int .i64 births, .slice a ks.length ac, P, L]] w fun e w' => e = .returned (.int .i64 (roomK wd ks)) ∧ Below w.heap.size w w' := by
  have hb0 : Below w.heap.size w (w.alloc (.cells #[.int .i64 wd, .int .i64 now, .int .i64 given, .int .i64 births, .slice a ks.length ac, P, L] 33)) := (Below.refl _ _).alloc (Nat.le_refl _) _
  go_enter Try.func56, Try.ntmps56
  go_wp2
  go_loopw [3, 4] (fun n i wr => ∃ (k m : Nat), k ≤ ks.length ∧ i = .int .i64 k ∧ n = .int .i64 (roomK wd (ks.take k)) ∧ wr = (w.alloc (.cells #[.int .i64 wd, .int .i64 now, .int .i64 given, .int .i64 births, .slice a ks.length ac, P, L] 33)).drewN m) (fun _ i _ => ks.length - (intOf i).toNat)
  case atStart => exact ⟨0, 0, Nat.zero_le _, rfl, by simp [roomK], rfl⟩
  case round =>
    obtain ⟨k, m, hk, rfl, rfl, rfl⟩ := hrel
    by_cases hlt : k < ks.length
    · obtain ⟨b, off, ha, hb, hc⟩ := hrow.at hlt
      subst ha
      have HG : Hid (ks[k]? = some ks[k]) := List.getElem?_eq_getElem hlt
      obtain ⟨c0, c1, c2, ra, rc, c3, _⟩ := hc k _ HG.out
      have hkb := kRoom_bd (hok k _ HG.out)
      have hrb := roomK_bd hok k hk
      have HS : Hid _ := roomK_snoc (wd := wd) HG.out
      have hk0 : (0 : Int) ≤ (k : Int) := by omega
      have hk1 : (k : Int) < (ks.length : Int) := by omega
      obtain ⟨b1, b2, b3, b4⟩ := hkb
      obtain ⟨r1, r2⟩ := hrb
      have hR : roomK wd (ks.take k) ≤ 1344600 := by omega
      generalize ks[k] = x at *
      unfold kRoom at b1 b2
      generalize hRK : roomK wd (ks.take k) = R at *
      have e1 : IntKind.i64.wrap (R + 1) = R + 1 := wrap_big (by omega) (by omega)
      have e2 : IntKind.i64.wrap ((x.refs.length : Int) * wd) = (x.refs.length : Int) * wd := wrap_big (by omega) (by omega)
      have e3 : IntKind.i64.wrap (R + 1 + (x.refs.length : Int) * wd) = R + 1 + (x.refs.length : Int) * wd := wrap_big (by omega) (by omega)
      have e4 : IntKind.i64.wrap (R + 1 + (x.refs.length : Int) * wd + x.text.size) = R + 1 + (x.refs.length : Int) * wd + x.text.size := wrap_big (by omega) (by omega)
      clear hc hrow hok b1 b2 b3 b4 r1 r2 hR hRK
      go_wp2
      go_quiet (fail)
      go_wp2
      refine ⟨⟨k + 1, _, by omega, by go_num, ?_, rfl⟩, by simp [intOf]; omega⟩
      rw [HS.out]
      unfold kRoom
      congr 1
      omega
    · go_wp2
      go_ret
      exact ⟨ret_i (by rw [List.take_of_length_le (by omega)]), belowN hb0 _⟩

open Classical in
noncomputable def roomOf (wd now given births : Int) (ks : List Kd) (ps : List Pd) (ls : List Ld) : Int := if StateOk wd now given births ks ps ls then roomK wd ks else 0

set_option maxHeartbeats 2000000 in
theorem sRoom_any (wd now given births : Int) (a p l : Option Addr) (ac pc lc : Nat) (ks : List Kd) (ps : List Pd) (ls : List Ld) (w : World) (hrow : SRows w w.heap.size a p l ks ps ls) (hk : KMem ks) (hp : PMem ps) (hf : SFit ks ps ls) :
    Calls Try.prog 14 #[.agg #[.int .i64 wd, .int .i64 now, .int .i64 given, .int .i64 births, .slice a ks.length ac, .slice p ps.length pc, .slice l ls.length lc]] w fun e w' => e = .returned (.int .i64 (roomOf wd now given births ks ps ls)) ∧ Below w.heap.size w w' := by
  have hb0 : Below w.heap.size w (w.alloc (.cells #[.int .i64 wd, .int .i64 now, .int .i64 given, .int .i64 births, .slice a ks.length ac, .slice p ps.length pc, .slice l ls.length lc] 33)) := (Below.refl _ _).alloc (Nat.le_refl _) _
  have hx := SBox.new w wd now given births (.slice a ks.length ac) (.slice p ps.length pc) (.slice l ls.length lc) 33
  go_enter Try.func14, Try.ntmps14
  go_wp2_with fail
  refine (sValidState_any wd now given births a p l ac pc lc ks ps ls _ (hrow.below' hb0) hk hp hf).mono ?_
  rintro e w1 ⟨b1, rfl, hb1, hw1⟩
  have hB1 := hb0.trans (hw1.mono (by simp))
  have hx1 := hx.below hw1
  have HB1 : Hid _ := hb1
  clear hw1 hx hb1
  cases b1 with
  | false =>
    clear hx1
    go_wp2
    go_ret
    exact ⟨ret_i (by unfold roomOf; rw [if_neg (fun h => by have := HB1.out.2 h; cases this)]), hB1⟩
  | true =>
    have hS : StateOk wd now given births ks ps ls := HB1.out.1 rfl
    obtain ⟨x0, x1, x2, x3, x4, x5, x6, x7⟩ := hx1
    have HC : Hid _ := l5Room_any wd now given births a ac (.slice p ps.length pc) (.slice l ls.length lc) ks w1 (hrow.below' hB1).k hS.nth (fun i k h => (hS.th i k h).ok)
    have HS : Hid _ := hS
    clear hS HB1 hrow hk hp hf
    go_wp2_with fail
    refine Calls.mono HC.out ?_
    rintro e w2 ⟨rfl, hw2⟩
    clear x0 x1 x2 x3 x4 x5 x6 x7 HC
    go_wp2
    go_ret
    exact ⟨ret_i (by unfold roomOf; rw [if_pos HS.out]), hB1.trans (hw2.mono hB1.size)⟩

set_option maxHeartbeats 2000000 in
/-- impl.room, of a valid state's things. -/
theorem iroom_any (wd now given births : Int) (a p l : Option Addr) (ac pc lc : Nat) (ks : List Kd) (ps : List Pd) (ls : List Ld) (w : World) (hrow : KRow w w.heap.size a ks) (hn : ks.length ≤ 600) (hok : ∀ (i : Nat) k, ks[i]? = some k → okThing k.text k.refs wd = true) (hkt : ∀ k ∈ ks, k.text.size ≤ maxLen) (hfr : ∀ k ∈ ks, k.refs.length ≤ 1048576) :
    Calls Try.prog 57 #[.agg #[.int .i64 wd, .int .i64 now, .int .i64 given, .int .i64 births, .slice a ks.length ac, .slice p ps.length pc, .slice l ls.length lc]] w fun e w' => e = .returned (.int .i64 (roomK wd ks)) ∧ Below w.heap.size w w' := by
  have hB1 : Below w.heap.size w (w.alloc (.cells #[.int .i64 wd, .int .i64 now, .int .i64 given, .int .i64 births, .slice a ks.length ac, .slice p ps.length pc, .slice l ls.length lc] 33)) := (Below.refl _ _).alloc (Nat.le_refl _) _
  have hx1 := SBox.new w wd now given births (.slice a ks.length ac) (.slice p ps.length pc) (.slice l ls.length lc) 33
  have HOK : Hid (∀ (i : Nat) k, ks[i]? = some k → okThing k.text k.refs wd = true) := hok
  have HKR : Hid _ := hrow
  have HMM : Hid _ := And.intro hkt hfr
  go_enter Try.func57, Try.ntmps57
  have HX1 : Hid (SBox _ w.heap.size wd now given births (.slice a ks.length ac) (.slice p ps.length pc) (.slice l ls.length lc)) := hx1
  obtain ⟨x0, x1, x2, x3, x4, x5, x6, x7⟩ := hx1
  clear hrow hok hkt hfr
  go_wp2
  go_loopw [3, 9] (fun n i wr => ∃ k : Nat, k ≤ ks.length ∧ i = .int .i64 k ∧ n = .int .i64 (roomK wd (ks.take k)) ∧ Below w.heap.size w wr ∧ Hid (SBox wr w.heap.size wd now given births (.slice a ks.length ac) (.slice p ps.length pc) (.slice l ls.length lc))) (fun _ i _ => ks.length - (intOf i).toNat)
  case atStart => exact ⟨0, Nat.zero_le _, rfl, by simp [roomK], hB1, HX1⟩
  case round =>
    clear x0 x1 x2 x3 x4 x5 x6 x7 HX1 hB1
    obtain ⟨k, hk', rfl, rfl, hbel, HX⟩ := hrel
    obtain ⟨x0, x1, x2, x3, x4, x5, x6, x7⟩ := HX.out
    by_cases hlt : k < ks.length
    · obtain ⟨b, off, ha, hb, hc⟩ := (KRow.below HKR.out hbel).at hlt
      subst ha
      have HG : Hid (ks[k]? = some ks[k]) := List.getElem?_eq_getElem hlt
      obtain ⟨c0, c1, c2, ra, rc, c3, hr⟩ := hc k _ HG.out
      have hmem := List.getElem_mem hlt
      have m1 := HMM.out.1 _ hmem
      have m2 := HMM.out.2 _ hmem
      have HL : Hid _ := formTxt_len (HOK.out k _ HG.out)
      obtain ⟨b1, b2, _, _⟩ := kRoom_bd (HOK.out k _ HG.out)
      obtain ⟨r1, r2⟩ := roomK_bd HOK.out k hk'
      have HSn : Hid _ := roomK_snoc (wd := wd) HG.out
      have hbr : b < wr.heap.size := by omega
      have hR : roomK wd (ks.take k) ≤ 1344600 := by omega
      generalize ks[k] = x at *
      generalize kRoom wd x = RX at *
      generalize roomK wd (ks.take k) = R at *
      have hb1 : Below wr.heap.size wr (wr.alloc (Obj.cells #[Value.string x.sum, Value.int IntKind.i64 x.born, Value.string x.text, Value.slice ra x.refs.length rc] 92)) := (Below.refl _ _).alloc (Nat.le_refl _) _
      have HC : Hid _ := iForm_any x.text ra rc x.refs wd _ ((hr.mono hbel.size).below' hb1) m2 m1
      have HBB : Hid _ := And.intro hbel (And.intro hb1 HX.out)
      have hles := hbel.size
      clear hc hr hmem r2 hb1 hbel HX m1 m2
      go_wp2_with fail
      refine Calls.mono HC.out ?_
      rintro e w2 ⟨rfl, hw2⟩
      have hsz2 : ((formTxt x.text x.refs wd).size : Int) = RX := HL.out
      have HB2 : Hid (Below w.heap.size w w2) := (HBB.out.1.trans (HBB.out.2.1.mono hles)).trans (hw2.mono (by simp; omega))
      have HX2 : Hid (SBox w2 w.heap.size wd now given births (.slice (some ⟨b, off, none⟩) ks.length ac) (.slice p ps.length pc) (.slice l ls.length lc)) := SBox.below (SBox.below HBB.out.2.2 HBB.out.2.1) hw2
      clear hw2 HBB HC x0 x1 x2 x3 x4 x5 x6 c0 c1 c2 c3
      go_wp2
      refine ⟨⟨k + 1, by omega, by go_num, ?_, HB2.out, HX2⟩, by simp [intOf]; omega⟩
      rw [HSn.out]
    · clear x0 x1 x2 x3 x4 x5 x6
      go_wp2
      go_ret
      exact ⟨ret_i (by rw [List.take_of_length_le (by omega)]), hbel⟩

set_option maxHeartbeats 2000000 in
theorem iRoom_any (wd now given births : Int) (a p l : Option Addr) (ac pc lc : Nat) (ks : List Kd) (ps : List Pd) (ls : List Ld) (w : World) (hrow : SRows w w.heap.size a p l ks ps ls) (hk : KMem ks) (hp : PMem ps) (hl : LMem ls) (hf : SFit ks ps ls) (hbw : ∀ k ∈ ks, (Lit.int .i64 k.born).wf = true) :
    Calls Try.prog 15 #[.agg #[.int .i64 wd, .int .i64 now, .int .i64 given, .int .i64 births, .slice a ks.length ac, .slice p ps.length pc, .slice l ls.length lc]] w fun e w' => e = .returned (.int .i64 (roomOf wd now given births ks ps ls)) ∧ Below w.heap.size w w' := by
  have hb0 : Below w.heap.size w (w.alloc (.cells #[.int .i64 wd, .int .i64 now, .int .i64 given, .int .i64 births, .slice a ks.length ac, .slice p ps.length pc, .slice l ls.length lc] 33)) := (Below.refl _ _).alloc (Nat.le_refl _) _
  have hx := SBox.new w wd now given births (.slice a ks.length ac) (.slice p ps.length pc) (.slice l ls.length lc) 33
  go_enter Try.func15, Try.ntmps15
  go_wp2_with fail
  refine (iValidState_any wd now given births a p l ac pc lc ks ps ls _ (hrow.below' hb0) hk hp hl hf hbw).mono ?_
  rintro e w1 ⟨b1, rfl, hb1, hw1⟩
  have hB1 := hb0.trans (hw1.mono (by simp))
  have hx1 := hx.below hw1
  have HB1 : Hid _ := hb1
  clear hw1 hx hb1 hbw
  cases b1 with
  | false =>
    clear hx1
    go_wp2
    go_ret
    exact ⟨ret_i (by unfold roomOf; rw [if_neg (fun h => by have := HB1.out.2 h; cases this)]), hB1⟩
  | true =>
    have hS : StateOk wd now given births ks ps ls := HB1.out.1 rfl
    have HS : Hid _ := hS
    have hn := hS.nth
    obtain ⟨x0, x1, x2, x3, x4, x5, x6, x7⟩ := hx1
    have HC : Hid _ := iroom_any wd now given births a p l ac pc lc ks ps ls w1 (hrow.below' hB1).k hn (fun i k h => (hS.th i k h).ok) hk.text hf.r
    clear hS HB1 hrow hk hp hf hl
    go_wp2_with fail
    refine Calls.mono HC.out ?_
    rintro e w2 ⟨rfl, hw2⟩
    clear x0 x1 x2 x3 x4 x5 x6 x7 HC
    go_wp2
    go_ret
    exact ⟨ret_i (by unfold roomOf; rw [if_pos HS.out]), hB1.trans (hw2.mono hB1.size)⟩

end Go.Proofs.Ytbelneejghdmoaa
