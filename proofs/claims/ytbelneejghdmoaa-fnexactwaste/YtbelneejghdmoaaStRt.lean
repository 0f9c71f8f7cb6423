/-
  impl.roots, slices.Clone of keys.
-/
import Derived.Test.YtbelneejghdmoaaStQ
import Derived.Test.YtbelneejghdmoaaStIP
namespace Go.Proofs.Ytbelneejghdmoaa
open Go.ChangeShapes Go.WideShapes Go.ChangeAt Go.RowKit

/-- keyOf's answer, written out. -/
theorem key_out (s : ByteArray) (w : World) :
    Calls Try.prog 71 #[.string s] w fun e w' => e = .returned (.agg #[.int .u8 (kB s 0), .int .u8 (kB s 1), .int .u8 (kB s 2), .int .u8 (kB s 3), .int .u8 (kB s 4), .int .u8 (kB s 5), .int .u8 (kB s 6), .int .u8 (kB s 7)]) ∧ Below w.heap.size w w' := key_any s w

/-- The block of one key. -/
def oneK (s : ByteArray) : Obj := .cells #[.int .u8 (kB s 0), .int .u8 (kB s 1), .int .u8 (kB s 2), .int .u8 (kB s 3), .int .u8 (kB s 4), .int .u8 (kB s 5), .int .u8 (kB s 6), .int .u8 (kB s 7)] 96

theorem R8.one (w : World) (s : ByteArray) : R8 (w.alloc (oneK s)) (w.heap.size + 1) (.slice (some ⟨w.heap.size, 0, none⟩) 1 1) [s] := by
  refine .inr ⟨w.heap.size, 0, 1, rfl, by omega, fun i t ht j hj => ?_⟩
  cases i with
  | zero =>
    simp at ht
    subst ht
    rw [Nat.zero_mul, Nat.zero_add, Nat.zero_add]
    unfold oneK
    rw [World.cell?_alloc_at _ _ _ _ rfl]
    match j, hj with
    | 0, _ | 1, _ | 2, _ | 3, _ | 4, _ | 5, _ | 6, _ | 7, _ => rfl
  | succ i => simp at ht

theorem QRow.alloc {w : World} {base : Nat} {v : Value} {ss : List ByteArray} (h : QRow w base v ss) (o : Obj) : QRow (w.alloc o) base v ss := h.below ((Below.refl _ _).alloc (Nat.le_refl _) _)

/-- One key behind a queue, laid down first in a block of its own. -/
theorem qpush (w : World) (base : Nat) (v : Value) (ss : List ByteArray) (hq : QRow w base v ss) (s : ByteArray) (hn : ss.length ≤ 1000000) (hbase : base ≤ w.heap.size) (ty : TypeId) :
    ∃ v' w', (Builtin.append_ #[102, 102] ty #[v, .slice (some ⟨w.heap.size, 0, none⟩) 1 1]).run Try.prog (w.alloc (oneK s)) = .ok v' w' ∧ QRow w' base v' (ss ++ [s]) ∧ w.grownBy w' (sBlk v) ∧ (sBlk v' = sBlk v ∨ sBlk v' = some (w.heap.size + 1)) := by
  obtain ⟨v', w', h1, h2, h3, h4⟩ := qappend (w.alloc (oneK s)) base v ss (hq.alloc _) _ [s] _ (R8.one w s) (by simp; omega) (by simp; omega) ty
  refine ⟨v', w', h1, h2, (World.grownBy_alloc w (oneK s) (sBlk v)).trans h3, ?_⟩
  simpa using h4

set_option maxRecDepth 20000 in
set_option maxHeartbeats 4000000 in
theorem roots_any (wd now given births : Int) (T : Value) (p l : Option Addr) (pc lc : Nat) (ps : List Pd) (ls : List Ld) (w : World) (hp : PRow w w.heap.size p ps) (hq : LRow w w.heap.size l ls) (hpl : ps.length ≤ 100) (hll : ls.length ≤ 200) :
    Calls Try.prog 103 #[.agg #[.int .i64 wd, .int .i64 now, .int .i64 given, .int .i64 births, T, .slice p ps.length pc, .slice l ls.length lc]] w fun e w' => ∃ v, e = .returned v ∧ QRow w' (w.heap.size + 1) v (ps.map (·.sum) ++ ls.map (·.sum)) ∧ Below w.heap.size w w' := by
  have HPR : Hid _ := hp
  have HLR : Hid _ := hq
  have hx := SBox.new w wd now given births T (.slice p ps.length pc) (.slice l ls.length lc) 33
  have hb0 : Below w.heap.size w (w.alloc (.cells #[.int .i64 wd, .int .i64 now, .int .i64 given, .int .i64 births, T, .slice p ps.length pc, .slice l ls.length lc] 33)) := (Below.refl _ _).alloc (Nat.le_refl _) _
  clear hp hq
  go_enter Try.func103, Try.ntmps103
  obtain ⟨q0, q1, q2, q3, q4, q5, q6, q7⟩ := hx
  go_wp2
  go_loopw [3, 11] (fun v i wr => ∃ (k : Nat), k ≤ ps.length ∧ i = .int .i64 k ∧ Hid (QRow wr (w.heap.size + 1) v ((ps.map (·.sum)).take k)) ∧ Below w.heap.size w wr ∧ Hid (SBox wr w.heap.size wd now given births T (.slice p ps.length pc) (.slice l ls.length lc))) (fun _ i _ => ps.length - (intOf i).toNat)
  case atStart => exact ⟨0, Nat.zero_le _, rfl, .inl ⟨rfl, by simp⟩, hb0, ⟨q0, q1, q2, q3, q4, q5, q6, q7⟩⟩
  case round =>
    clear q0 q1 q2 q3 q4 q5 q6 q7
    obtain ⟨k, hk, rfl, HO, hbel, HX⟩ := hrel
    obtain ⟨x0, x1, x2, x3, x4, x5, x6, x7⟩ := HX.out
    by_cases hlt : k < ps.length
    · obtain ⟨b, off, ha, hb, hc⟩ := (PRow.below HPR.out hbel).at hlt
      subst ha
      have HG : Hid (ps[k]? = some ps[k]) := List.getElem?_eq_getElem hlt
      obtain ⟨c0, c1⟩ := hc k _ HG.out
      have hbr : b < wr.heap.size := by omega
      have HN : Hid ((ps.map (·.sum)).take (k + 1) = (ps.map (·.sum)).take k ++ [ps[k].sum]) := by
        show _ = _
        rw [List.take_succ_eq_append_getElem (by simpa using hlt)]
        simp
      have hln : ((ps.map (·.sum)).take k).length ≤ 100 := by simp; omega
      clear hc
      generalize ps[k] = x at *
      generalize (ps.map (·.sum)).take k = O at *
      go_wp2_with fail
      refine (key_out x.sum _).mono ?_
      rintro e w1 ⟨rfl, hb1⟩
      have hb1' : Below wr.heap.size wr w1 := ((Below.refl wr.heap.size wr).alloc (Nat.le_refl _) _).trans (hb1.mono (by simp))
      have hzb := hbel.size
      have hz1 := hb1'.size
      have hww : w.heap.size < wr.heap.size := x7
      obtain ⟨v', w2, hr, hq2, hg2, _⟩ := qpush w1 (w.heap.size + 1) u3 O (HO.out.below hb1') x.sum (by omega) (by omega) 102
      unfold oneK at hr
      have hgb : Below (w.heap.size + 1) w1 w2 := (Below.refl _ _).grown hg2 (by omega) (fun g hg => (HO.out.blk hg).1)
      have HX2 : Hid _ := SBox.keep (SBox.keep HX.out hb1' x7) hgb (by omega)
      have HB2 : Hid (Below w.heap.size w w2) := (hbel.trans (hb1'.mono (by omega))).trans (hgb.mono (by omega))
      clear hb1 hb1' hg2 hgb
      go_wp2_with (at_builtin; refine wpList_append_run rfl _ _ _ _ rfl rfl rfl hr ?_)
      exact ⟨⟨k + 1, by omega, by go_num, by rw [HN.out]; exact hq2, HB2.out, HX2⟩, by simp [intOf]; omega⟩
    · rw [List.take_of_length_le (by simp; omega)] at HO
      go_wp2
      go_loopw [3, 25] (fun v i wr => ∃ (k : Nat), k ≤ ls.length ∧ i = .int .i64 k ∧ Hid (QRow wr (w.heap.size + 1) v (ps.map (·.sum) ++ (ls.map (·.sum)).take k)) ∧ Below w.heap.size w wr ∧ Hid (SBox wr w.heap.size wd now given births T (.slice p ps.length pc) (.slice l ls.length lc))) (fun _ i _ => ls.length - (intOf i).toNat)
      case atStart => exact ⟨0, Nat.zero_le _, rfl, by simpa using HO, hbel, HX⟩
      case round =>
        clear x0 x1 x2 x3 x4 x5 x6 x7
        obtain ⟨k, hk, rfl, HO, hbel, HX⟩ := hrel
        obtain ⟨x0, x1, x2, x3, x4, x5, x6, x7⟩ := HX.out
        by_cases hlt : k < ls.length
        · obtain ⟨b, off, ha, hb, hc⟩ := (LRow.below HLR.out hbel).at hlt
          subst ha
          have HG : Hid (ls[k]? = some ls[k]) := List.getElem?_eq_getElem hlt
          obtain ⟨c0, c1, c2⟩ := hc k _ HG.out
          have hbr : b < wr.heap.size := by omega
          have HN : Hid (ps.map (·.sum) ++ (ls.map (·.sum)).take (k + 1) = (ps.map (·.sum) ++ (ls.map (·.sum)).take k) ++ [ls[k].sum]) := by
            show _ = _
            rw [List.take_succ_eq_append_getElem (by simpa using hlt)]
            simp
          have hln : (ps.map (·.sum) ++ (ls.map (·.sum)).take k).length ≤ 300 := by simp; omega
          clear hc
          generalize ls[k] = x at *
          generalize ps.map (·.sum) ++ (ls.map (·.sum)).take k = O at *
          go_wp2_with fail
          refine (key_out x.sum _).mono ?_
          rintro e w1 ⟨rfl, hb1⟩
          have hb1' : Below wr.heap.size wr w1 := ((Below.refl wr.heap.size wr).alloc (Nat.le_refl _) _).trans (hb1.mono (by simp))
          have hzb := hbel.size
          have hz1 := hb1'.size
          have hww : w.heap.size < wr.heap.size := x7
          obtain ⟨v', w2, hr, hq2, hg2, _⟩ := qpush w1 (w.heap.size + 1) u3 O (HO.out.below hb1') x.sum (by omega) (by omega) 102
          unfold oneK at hr
          have hgb : Below (w.heap.size + 1) w1 w2 := (Below.refl _ _).grown hg2 (by omega) (fun g hg => (HO.out.blk hg).1)
          have HX2 : Hid _ := SBox.keep (SBox.keep HX.out hb1' x7) hgb (by omega)
          have HB2 : Hid (Below w.heap.size w w2) := (hbel.trans (hb1'.mono (by omega))).trans (hgb.mono (by omega))
          clear hb1 hb1' hg2 hgb
          go_wp2_with (at_builtin; refine wpList_append_run rfl _ _ _ _ rfl rfl rfl hr ?_)
          exact ⟨⟨k + 1, by omega, by go_num, by rw [HN.out]; exact hq2, HB2.out, HX2⟩, by simp [intOf]; omega⟩
        · rw [List.take_of_length_le (by simp; omega)] at HO
          go_wp2
          go_ret
          exact ⟨_, rfl, HO.out, hbel⟩

end Go.Proofs.Ytbelneejghdmoaa
