/-
  spec.l5Roots.
-/
import Derived.Test.YtbelneejghdmoaaStHas
namespace Go.Proofs.Ytbelneejghdmoaa
open Go.ChangeShapes Go.WideShapes Go.ChangeAt Go.RowKit

/-- A text behind a list, once. -/
def addS (out : List ByteArray) (s : ByteArray) : List ByteArray := if out.any (fun x => decide (x = s)) = true then out else out ++ [s]

theorem addS_length (out : List ByteArray) (s : ByteArray) : (addS out s).length ≤ out.length + 1 := by
  unfold addS
  split <;> simp

theorem fold_snoc {xs : List ByteArray} {k : Nat} {x : ByteArray} (o : List ByteArray) (hx : xs[k]? = some x) : (xs.take (k + 1)).foldl addS o = addS ((xs.take k).foldl addS o) x := by
  obtain ⟨h, rfl⟩ := List.getElem?_eq_some_iff.1 hx
  rw [List.take_succ_eq_append_getElem h, List.foldl_append]
  rfl

theorem fold_length (xs o : List ByteArray) : (xs.foldl addS o).length ≤ o.length + xs.length := by
  induction xs generalizing o with
  | nil => simp
  | cons x xs ih =>
    have h1 := ih (addS o x)
    have h2 := addS_length o x
    simp only [List.foldl_cons, List.length_cons]
    omega

theorem own_row' {w : World} {base : Nat} {a : Option Addr} {c : Nat} {ss : List ByteArray} (h : w.ownsRow base 9 1 (.slice a ss.length c) ss.length (ss.map Value.string)) : SRow w w.heap.size a ss := by
  rcases h.2 with ⟨hv, h0⟩ | ⟨g, cap, cur, hv, _⟩
  · exact .inl (List.eq_nil_of_length_eq_zero h0)
  · cases hv
    exact SRow.own h

def rootsL (ps : List Pd) (ls : List Ld) : List ByteArray := (ls.map (·.sum)).foldl addS ((ps.map (·.sum)).foldl addS [])

set_option maxRecDepth 20000 in
set_option maxHeartbeats 4000000 in
theorem sRoots_any (wd now given births : Int) (T : Value) (p l : Option Addr) (pc lc : Nat) (ps : List Pd) (ls : List Ld) (w : World) (hp : PRow w w.heap.size p ps) (hq : LRow w w.heap.size l ls) (hpl : ps.length ≤ 100) (hll : ls.length ≤ 200) :
    Calls Try.prog 102 #[.agg #[.int .i64 wd, .int .i64 now, .int .i64 given, .int .i64 births, T, .slice p ps.length pc, .slice l ls.length lc]] w fun e w' => ∃ g c, e = .returned (.slice (some ⟨g, 0, none⟩) (rootsL ps ls).length c) ∧ w'.ownsRow (w.heap.size + 1) 9 1 (.slice (some ⟨g, 0, none⟩) (rootsL ps ls).length c) (rootsL ps ls).length ((rootsL ps ls).map Value.string) ∧ Below w.heap.size w w' := by
  obtain ⟨i0, hi, hz0, hz1, hz2⟩ := info_parts Try.infoStr
  have HPR : Hid _ := hp
  have HLR : Hid _ := hq
  have hx := SBox.new w wd now given births T (.slice p ps.length pc) (.slice l ls.length lc) 33
  have hb0 : Below w.heap.size w (w.alloc (.cells #[.int .i64 wd, .int .i64 now, .int .i64 given, .int .i64 births, T, .slice p ps.length pc, .slice l ls.length lc] 33)) := (Below.refl _ _).alloc (Nat.le_refl _) _
  clear hp hq
  unfold rootsL
  go_enter Try.func102, Try.ntmps102
  go_wp2
  go_loopw [3, 4] (fun v i wr => ∃ (k g c : Nat), k ≤ ps.length ∧ i = .int .i64 k ∧ v = .slice (some ⟨g, 0, none⟩) (((ps.map (·.sum)).take (k)).foldl addS []).length c ∧ Hid (wr.ownsRow (w.heap.size + 1) 9 1 (.slice (some ⟨g, 0, none⟩) (((ps.map (·.sum)).take (k)).foldl addS []).length c) (((ps.map (·.sum)).take (k)).foldl addS []).length ((((ps.map (·.sum)).take (k)).foldl addS []).map Value.string)) ∧ Below w.heap.size w wr ∧ Hid (SBox wr w.heap.size wd now given births T (.slice p ps.length pc) (.slice l ls.length lc))) (fun _ i _ => ps.length - (intOf i).toNat)
  case atStart =>
    refine ⟨0, w.heap.size + 1, 0, Nat.zero_le _, rfl, by simp, ?_, hb0.alloc hb0.size _, hx.keep ((Below.refl _ _).alloc (Nat.le_refl _) _) hx.2.2.2.2.2.2.2⟩
    have := World.ownsRow_lit (e := 9) (w.alloc (.cells #[.int .i64 wd, .int .i64 now, .int .i64 given, .int .i64 births, T, .slice p ps.length pc, .slice l ls.length lc] 33)) #[] (size := 1) 0 (base := w.heap.size + 1) (by simp) (by simp [maxLen]) rfl
    rw [show (w.alloc (.cells #[.int .i64 wd, .int .i64 now, .int .i64 given, .int .i64 births, T, .slice p ps.length pc, .slice l ls.length lc] 33)).heap.size = w.heap.size + 1 from by simp] at this
    exact this
  case round =>
    clear hx
    obtain ⟨k, g, c, hk, rfl, rfl, HO, hbel, HX⟩ := hrel
    obtain ⟨x0, x1, x2, x3, x4, x5, x6, x7⟩ := HX.out
    by_cases hlt : k < ps.length
    · obtain ⟨b, off, ha, hb, hc⟩ := (PRow.below HPR.out hbel).at hlt
      subst ha
      have HG : Hid (ps[k]? = some ps[k]) := List.getElem?_eq_getElem hlt
      obtain ⟨_, c1⟩ := hc k _ HG.out
      have hbr : b < wr.heap.size := by omega
      have HN : Hid ((ps.map (·.sum))[k]? = some ps[k].sum) := by show _ = _; rw [List.getElem?_map, HG.out]; rfl
      clear hc
      generalize ps[k] = x at *
      have hlen : (((ps.map (·.sum)).take (k)).foldl addS []).length ≤ 0 + k := by
        have := fold_length ((ps.map (·.sum)).take k) ([])
        skip
        simp at this
        omega
      have HF : Hid _ := fold_snoc ([]) HN.out
      generalize hO : ((ps.map (·.sum)).take (k)).foldl addS [] = O at *
      have hgb := (HO.out.lt g rfl).1
      have hgl := (HO.out.lt g rfl).2
      have HR : Hid (SRow wr wr.heap.size (some ⟨g, 0, none⟩) O) := own_row' HO.out
      go_wp2_with fail
      refine (has_any _ c O x.sum wr _ HR.out (by omega)).mono ?_
      rintro e w1 ⟨rfl, rfl⟩
      cases hin : O.any (fun y => decide (y = x.sum)) with
      | true =>
        have HE : Hid (((ps.map (·.sum)).take (k + 1)).foldl addS [] = O) := by show _ = _; rw [HF.out]; unfold addS; rw [if_pos hin]
        go_wp2
        refine ⟨⟨k + 1, g, c, by omega, by go_num, by rw [HE.out], ?_, hbel, HX⟩, by simp [intOf]; omega⟩
        rw [HE.out]; exact HO
      | false =>
        have HE : Hid (((ps.map (·.sum)).take (k + 1)).foldl addS [] = O ++ [x.sum]) := by show _ = _; rw [HF.out]; unfold addS; rw [if_neg (by rw [hin]; decide)]
        go_wp2_with (first
          | (at_builtin; refine wpList_append_own _ rfl _ _ 38 rfl (w.heap.size + 1) 9 i0 (.string ⟨#[]⟩) 1 16 Try.underlying38 hi hz0 hz1 hz2 rfl (by decide) _ O.length (O.map Value.string) rfl ?d0 ⟨w1.heap.size, 0, none⟩ 1 1 [.string x.sum] rfl rfl ?d1 ?d2 ?d3 ?d4 ?d5 ?_)
          | go_in)
        case d0 => exact HO.out.alloc _
        case d1 => exact cell_one_new _ _ _
        case d2 => intro u hu; simp at hu; subst hu; rfl
        case d3 => unfold maxLen; omega
        case d4 => omega
        case d5 => simp; omega
        intro v' w2 hown' hgrow _
        obtain ⟨g', c', hv', _, _⟩ := hown'.form (by omega)
        subst hv'
        have hbG : Below (w.heap.size + 1) w1 w2 := ((Below.refl _ _).alloc (by omega) _).grown hgrow (by simp; omega) (by intro j hj; simp [Value.ownBlock] at hj; omega)
        have HB : Hid (Below w.heap.size w w2) := hbel.trans (hbG.mono (by omega))
        have HX2 : Hid _ := SBox.keep HX.out hbG (by omega)
        have HN2 : Hid (w2.ownsRow (w.heap.size + 1) 9 1 (.slice (some ⟨g', 0, none⟩) (O.length + 1) c') (O.length + 1) ((O ++ [x.sum]).map Value.string)) := (by simpa using hown' : World.ownsRow w2 (w.heap.size + 1) 9 1 (.slice (some ⟨g', 0, none⟩) (O.length + 1) c') (O.length + 1) ((O ++ [x.sum]).map Value.string))
        clear hown' hgrow hbG
        go_wp2
        refine ⟨⟨k + 1, g', c', by omega, by go_num, by rw [HE.out]; simp, ?_, HB.out, HX2⟩, by simp [intOf]; omega⟩
        rw [HE.out, List.length_append]
        exact HN2
    · rw [List.take_of_length_le (by simp; omega)] at HO ⊢
      go_wp2
      go_loopw [3, 5] (fun v i wr => ∃ (k g c : Nat), k ≤ ls.length ∧ i = .int .i64 k ∧ v = .slice (some ⟨g, 0, none⟩) (((ls.map (·.sum)).take (k)).foldl addS ((ps.map (·.sum)).foldl addS [])).length c ∧ Hid (wr.ownsRow (w.heap.size + 1) 9 1 (.slice (some ⟨g, 0, none⟩) (((ls.map (·.sum)).take (k)).foldl addS ((ps.map (·.sum)).foldl addS [])).length c) (((ls.map (·.sum)).take (k)).foldl addS ((ps.map (·.sum)).foldl addS [])).length ((((ls.map (·.sum)).take (k)).foldl addS ((ps.map (·.sum)).foldl addS [])).map Value.string)) ∧ Below w.heap.size w wr ∧ Hid (SBox wr w.heap.size wd now given births T (.slice p ps.length pc) (.slice l ls.length lc))) (fun _ i _ => ls.length - (intOf i).toNat)
      case atStart => exact ⟨0, g, c, Nat.zero_le _, rfl, rfl, HO, hbel, HX⟩
      case round =>
        clear x0 x1 x2 x3 x4 x5 x6 x7
        obtain ⟨k, g, c, hk, rfl, rfl, HO, hbel, HX⟩ := hrel
        obtain ⟨x0, x1, x2, x3, x4, x5, x6, x7⟩ := HX.out
        by_cases hlt : k < ls.length
        · obtain ⟨b, off, ha, hb, hc⟩ := (LRow.below HLR.out hbel).at hlt
          subst ha
          have HG : Hid (ls[k]? = some ls[k]) := List.getElem?_eq_getElem hlt
          obtain ⟨_, c1, _⟩ := hc k _ HG.out
          have hbr : b < wr.heap.size := by omega
          have HN : Hid ((ls.map (·.sum))[k]? = some ls[k].sum) := by show _ = _; rw [List.getElem?_map, HG.out]; rfl
          clear hc
          generalize ls[k] = x at *
          have hlen : (((ls.map (·.sum)).take (k)).foldl addS ((ps.map (·.sum)).foldl addS [])).length ≤ ps.length + k := by
            have := fold_length ((ls.map (·.sum)).take k) ((ps.map (·.sum)).foldl addS [])
            have hbase := fold_length (ps.map (·.sum)) []
            simp at hbase
            simp at this
            omega
          have HF : Hid _ := fold_snoc ((ps.map (·.sum)).foldl addS []) HN.out
          generalize hO : ((ls.map (·.sum)).take (k)).foldl addS ((ps.map (·.sum)).foldl addS []) = O at *
          have hgb := (HO.out.lt g rfl).1
          have hgl := (HO.out.lt g rfl).2
          have HR : Hid (SRow wr wr.heap.size (some ⟨g, 0, none⟩) O) := own_row' HO.out
          go_wp2_with fail
          refine (has_any _ c O x.sum wr _ HR.out (by omega)).mono ?_
          rintro e w1 ⟨rfl, rfl⟩
          cases hin : O.any (fun y => decide (y = x.sum)) with
          | true =>
            have HE : Hid (((ls.map (·.sum)).take (k + 1)).foldl addS ((ps.map (·.sum)).foldl addS []) = O) := by show _ = _; rw [HF.out]; unfold addS; rw [if_pos hin]
            go_wp2
            refine ⟨⟨k + 1, g, c, by omega, by go_num, by rw [HE.out], ?_, hbel, HX⟩, by simp [intOf]; omega⟩
            rw [HE.out]; exact HO
          | false =>
            have HE : Hid (((ls.map (·.sum)).take (k + 1)).foldl addS ((ps.map (·.sum)).foldl addS []) = O ++ [x.sum]) := by show _ = _; rw [HF.out]; unfold addS; rw [if_neg (by rw [hin]; decide)]
            go_wp2_with (first
              | (at_builtin; refine wpList_append_own _ rfl _ _ 38 rfl (w.heap.size + 1) 9 i0 (.string ⟨#[]⟩) 1 16 Try.underlying38 hi hz0 hz1 hz2 rfl (by decide) _ O.length (O.map Value.string) rfl ?d0 ⟨w1.heap.size, 0, none⟩ 1 1 [.string x.sum] rfl rfl ?d1 ?d2 ?d3 ?d4 ?d5 ?_)
              | go_in)
            case d0 => exact HO.out.alloc _
            case d1 => exact cell_one_new _ _ _
            case d2 => intro u hu; simp at hu; subst hu; rfl
            case d3 => unfold maxLen; omega
            case d4 => omega
            case d5 => simp; omega
            intro v' w2 hown' hgrow _
            obtain ⟨g', c', hv', _, _⟩ := hown'.form (by omega)
            subst hv'
            have hbG : Below (w.heap.size + 1) w1 w2 := ((Below.refl _ _).alloc (by omega) _).grown hgrow (by simp; omega) (by intro j hj; simp [Value.ownBlock] at hj; omega)
            have HB : Hid (Below w.heap.size w w2) := hbel.trans (hbG.mono (by omega))
            have HX2 : Hid _ := SBox.keep HX.out hbG (by omega)
            have HN2 : Hid (w2.ownsRow (w.heap.size + 1) 9 1 (.slice (some ⟨g', 0, none⟩) (O.length + 1) c') (O.length + 1) ((O ++ [x.sum]).map Value.string)) := (by simpa using hown' : World.ownsRow w2 (w.heap.size + 1) 9 1 (.slice (some ⟨g', 0, none⟩) (O.length + 1) c') (O.length + 1) ((O ++ [x.sum]).map Value.string))
            clear hown' hgrow hbG
            go_wp2
            refine ⟨⟨k + 1, g', c', by omega, by go_num, by rw [HE.out]; simp, ?_, HB.out, HX2⟩, by simp [intOf]; omega⟩
            rw [HE.out, List.length_append]
            exact HN2
        · rw [List.take_of_length_le (by simp; omega)] at HO ⊢
          go_wp2
          go_ret
          exact ⟨_, _, rfl, HO.out, hbel⟩


end Go.Proofs.Ytbelneejghdmoaa
