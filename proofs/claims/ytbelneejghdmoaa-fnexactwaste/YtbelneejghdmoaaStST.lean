/-
  spec.l4Range, l4ThingsOk.
-/
import Derived.Test.YtbelneejghdmoaaStIT
namespace Go.Proofs.Ytbelneejghdmoaa
open Go.ChangeShapes Go.WideShapes Go.ChangeAt Go.RowKit
attribute [local go_sem ↓] Go.wp_at_zero Go.wp_at_succ

theorem range_any (n lo hi : Int) (w : World) :
    Calls Try.prog 40 #[.int .i64 n, .int .i64 lo, .int .i64 hi] w fun e w' => e = .returned (.bool (decide (lo ≤ n ∧ n ≤ hi))) ∧ w' = w := by
  by_cases h1 : lo ≤ n
  · by_cases h2 : n ≤ hi
    · go_enter Try.func40, Try.ntmps40
      go_wp2
      go_ret
      exact ⟨ret_b (by simp [h1, h2]), rfl⟩
    · go_enter Try.func40, Try.ntmps40
      go_wp2
      go_ret
      exact ⟨ret_b (by simp [h2]), rfl⟩
  · have h1' : decide (lo ≤ n) = false := by simpa using h1
    go_enter Try.func40, Try.ntmps40
    go_wp2
    go_ret
    exact ⟨ret_b (by simp), rfl⟩

/-! What the first loop remembers: the births up to 600 as flags, the others as a list. -/

def seen (ks : List Kd) (k : Nat) (n : Int) : Bool := (ks.take k).any (fun x => decide (x.born = n))

def flags (ks : List Kd) (k : Nat) : List Value := (List.range 601).map (fun (n : Nat) => Value.bool (seen ks k n))

def later (ks : List Kd) (k : Nat) : List Int := ((ks.take k).map (·.born)).filter (fun b => decide (600 < b))

theorem take_snoc {ks : List Kd} {k : Nat} {x : Kd} (hx : ks[k]? = some x) : ks.take (k + 1) = ks.take k ++ [x] := by
  obtain ⟨h, rfl⟩ := List.getElem?_eq_some_iff.1 hx
  exact List.take_succ_eq_append_getElem h

theorem seen_snoc {ks : List Kd} {k : Nat} {x : Kd} (hx : ks[k]? = some x) (n : Int) : seen ks (k + 1) n = (seen ks k n || decide (x.born = n)) := by
  unfold seen
  rw [take_snoc hx, List.any_append]
  simp

theorem flags_length (ks : List Kd) (k : Nat) : (flags ks k).length = 601 := by simp [flags]

theorem flags_get (ks : List Kd) (k n : Nat) (h : n < 601) : (flags ks k)[n]? = some (.bool (seen ks k n)) := by simp [flags, h]

theorem flags_zero (ks : List Kd) : flags ks 0 = List.replicate 601 (.bool false) := by
  unfold flags
  rw [List.eq_replicate_iff]
  refine ⟨by simp, fun b hb => ?_⟩
  obtain ⟨n, _, rfl⟩ := List.mem_map.1 hb
  simp [seen]

theorem flags_set {ks : List Kd} {k : Nat} {x : Kd} (hx : ks[k]? = some x) (h0 : 0 ≤ x.born) (h1 : x.born ≤ 600) : (flags ks k).set x.born.toNat (.bool true) = flags ks (k + 1) := by
  apply List.ext_getElem?
  intro n
  by_cases hn : n < 601
  · by_cases he : x.born.toNat = n
    · subst he
      rw [List.getElem?_set_self (by rw [flags_length]; omega), flags_get _ _ _ hn, seen_snoc hx]
      have : decide (x.born = (x.born.toNat : Int)) = true := by simp; omega
      rw [this]; simp
    · rw [List.getElem?_set_ne he, flags_get _ _ _ hn, flags_get _ _ _ hn, seen_snoc hx]
      have : decide (x.born = (n : Int)) = false := by simp; omega
      rw [this]; simp
  · rw [List.getElem?_eq_none (by simp [flags_length]; omega), List.getElem?_eq_none (by simp [flags_length]; omega)]

theorem flags_far {ks : List Kd} {k : Nat} {x : Kd} (hx : ks[k]? = some x) (h1 : 600 < x.born) : flags ks (k + 1) = flags ks k := by
  apply List.ext_getElem?
  intro n
  by_cases hn : n < 601
  · rw [flags_get _ _ _ hn, flags_get _ _ _ hn, seen_snoc hx]
    have : decide (x.born = (n : Int)) = false := by simp; omega
    rw [this]; simp
  · rw [List.getElem?_eq_none (by simp [flags_length]; omega), List.getElem?_eq_none (by simp [flags_length]; omega)]

theorem later_snoc {ks : List Kd} {k : Nat} {x : Kd} (hx : ks[k]? = some x) : later ks (k + 1) = later ks k ++ (if 600 < x.born then [x.born] else []) := by
  unfold later
  rw [take_snoc hx, List.map_append, List.filter_append]
  by_cases h : 600 < x.born <;> simp [h]

theorem later_length (ks : List Kd) (k : Nat) : (later ks k).length ≤ k := by
  unfold later
  refine Nat.le_trans (List.length_filter_le _ _) ?_
  simp; omega

theorem seen_iff {ks : List Kd} {k : Nat} {n : Int} : seen ks k n = true ↔ ∃ j p, j < k ∧ ks[j]? = some p ∧ p.born = n := by
  unfold seen
  rw [List.any_eq_true]
  constructor
  · rintro ⟨p, hp, h⟩
    obtain ⟨j, hj⟩ := List.getElem?_of_mem hp
    have hjk := (List.getElem?_eq_some_iff.1 hj).1
    simp at hjk
    rw [List.getElem?_take_of_lt (by omega)] at hj
    exact ⟨j, p, by omega, hj, by simpa using h⟩
  · rintro ⟨j, p, hj, hp, h⟩
    exact ⟨p, List.mem_of_getElem? (i := j) (by rw [List.getElem?_take_of_lt hj]; exact hp), by simpa using h⟩

theorem later_mem {ks : List Kd} {k : Nat} {n : Int} (h : 600 < n) : n ∈ later ks k ↔ seen ks k n = true := by
  unfold later seen
  simp only [List.mem_filter, List.mem_map, List.any_eq_true, decide_eq_true_eq]
  constructor
  · rintro ⟨⟨p, hp, rfl⟩, _⟩; exact ⟨p, hp, rfl⟩
  · rintro ⟨p, hp, rfl⟩; exact ⟨⟨p, hp, rfl⟩, h⟩

theorem Try.infoBool : (Try.prog.info? 4).map (fun i => (i.zero, i.size, i.bytes)) = some (some (.bool false), 1, 1) := by kernel_rfl
theorem Try.infoInt : (Try.prog.info? 3).map (fun i => (i.zero, i.size, i.bytes)) = some (some (.int .i64 0), 1, 8) := by kernel_rfl

theorem sums_less {wd : Int} {ks : List Kd} (h : ∀ (i : Nat) k, ks[i]? = some k → ThAt wd ks i k) : ∀ (d i : Nat) u v, ks[i]? = some u → ks[i + d + 1]? = some v → less u.sum v.sum = true
  | 0, i, u, v, hu, hv => (h _ _ hv).up i u rfl hu
  | d + 1, i, u, v, hu, hv => by
    have hlt := (List.getElem?_eq_some_iff.1 hv).1
    have hm : ks[i + d + 1]? = some (ks[i + d + 1]'(by omega)) := List.getElem?_eq_getElem (by omega)
    exact less_trans (sums_less h d i u _ hu hm) ((h _ _ hv).up _ _ (by omega) hm)

theorem sums_inj {wd : Int} {ks : List Kd} (h : ∀ (i : Nat) k, ks[i]? = some k → ThAt wd ks i k) {i j : Nat} {u v : Kd} (hu : ks[i]? = some u) (hv : ks[j]? = some v) (e : u.sum = v.sum) : u = v := by
  rcases Nat.lt_trichotomy i j with h' | h' | h'
  · have := sums_less h (j - i - 1) i u v hu (by rw [show i + (j - i - 1) + 1 = j from by omega]; exact hv)
    rw [e, less_irrefl] at this
    cases this
  · subst h'; rw [hu] at hv; cases hv; rfl
  · have := sums_less h (i - j - 1) j v u hv (by rw [show j + (i - j - 1) + 1 = i from by omega]; exact hu)
    rw [e, less_irrefl] at this
    cases this

/-- What the first loop carries. -/
structure L1 (w wr : World) (ks : List Kd) (k : Nat) (v : Value) : Prop where
  bel : Below w.heap.size w wr
  fl : wr.ownsRow (w.heap.size + 1) 4 1 (.slice (some ⟨w.heap.size + 1, 0, none⟩) 601 601) 601 (flags ks k)
  la : wr.ownsRow (w.heap.size + 2) 3 1 v (later ks k).length ((later ks k).map (Value.int .i64))

theorem L1.keep {w wr wr' : World} {ks : List Kd} {k : Nat} {v : Value} (h : L1 w wr ks k v) (hb : Below wr.heap.size wr wr') : L1 w wr' ks k v :=
  ⟨h.bel.trans (hb.mono h.bel.size), h.fl.kept (grown_below none hb) (.inr (by simp [Value.ownBlock])), h.la.kept (grown_below none hb) (by cases v.ownBlock <;> simp)⟩

def Firsts (wd births : Int) (ks : List Kd) : Prop := (∀ (i : Nat) k, ks[i]? = some k → ThAt wd ks i k) ∧ (∀ (i : Nat) k, ks[i]? = some k → BornAt births ks i k) ∧ (∀ (i : Nat) k, ks[i]? = some k → RefAt ks k)

set_option maxRecDepth 100000 in
set_option maxHeartbeats 8000000 in
theorem sThings_any (wd now given births : Int) (a : Option Addr) (ac : Nat) (P L : Value) (ks : List Kd) (w : World) (hrow : KRow w w.heap.size a ks) (hm : KMem ks) (hl : ks.length ≤ 600) (hrl : ∀ k ∈ ks, k.refs.length ≤ 1048576) (h1 : 1 ≤ wd) (h8 : wd ≤ 8) :
    Calls Try.prog 41 #[.agg #[.int .i64 wd, .int .i64 now, .int .i64 given, .int .i64 births, .slice a ks.length ac, P, L]] w fun e w' => ∃ b, e = .returned (.bool b) ∧ (b = true ↔ Firsts wd births ks) ∧ Below w.heap.size w w' := by
  obtain ⟨i0, hi, hz0, hz1, hz2⟩ := info_parts Try.infoBool
  obtain ⟨i1, hi', hy0, hy1, hy2⟩ := info_parts Try.infoInt
  have hb0 : Below w.heap.size w (w.alloc (.cells #[.int .i64 wd, .int .i64 now, .int .i64 given, .int .i64 births, .slice a ks.length ac, P, L] 33)) := (Below.refl _ _).alloc (Nat.le_refl _) _
  have hx := SBox.new w wd now given births (.slice a ks.length ac) P L 33
  go_enter Try.func41, Try.ntmps41
  go_wp2_with (at_make; refine wpList_make_full _ rfl _ _ 114 rfl (w.heap.size + 1) 4 i0 (.bool false) 1 Try.underlying114 hi hz0 hz1 .i64 .i64 _ _ 601 rfl rfl rfl rfl ?c1 ?c2 ?c3 ?_)
  case c1 => rw [hz2]; omega
  case c2 => unfold maxLen; omega
  case c3 => simp
  intro w1 hown hgrow
  rw [toList_madeCells_one] at hown
  have hb1 : Below (w.heap.size + 1) (w.alloc (.cells #[.int .i64 wd, .int .i64 now, .int .i64 given, .int .i64 births, .slice a ks.length ac, P, L] 33)) w1 := (Below.refl _ _).grown hgrow (by simp) (by simp)
  have hx1 := hx.keep hb1 (by omega)
  have hB1 := hb0.trans (hb1.mono (by omega))
  have hsz1 : w.heap.size + 1 < w1.heap.size := by have := (hown.lt _ rfl).2; simpa using this
  clear hgrow hb1 hx
  go_wp2
  go_loopw [4, 5] (fun v i wr => ∃ (k g c : Nat), k ≤ ks.length ∧ i = .int .i64 k ∧ v = .slice (some ⟨g, 0, none⟩) (later ks k).length c ∧ Hid (L1 w wr ks k (.slice (some ⟨g, 0, none⟩) (later ks k).length c)) ∧ Hid (SBox wr w.heap.size wd now given births (.slice a ks.length ac) P L) ∧ Hid (∀ (j : Nat) x, j < k → ks[j]? = some x → ThAt wd ks j x ∧ BornAt births ks j x)) (fun _ i _ => ks.length - (intOf i).toNat)
  case atStart =>
    refine ⟨0, w1.heap.size, 0, Nat.zero_le _, rfl, rfl, ⟨hB1.alloc hB1.size _, ?_, ?_⟩, hx1.keep ((Below.refl _ _).alloc (Nat.le_refl _) _) hx1.2.2.2.2.2.2.2, fun j x h => by omega⟩
    · rw [flags_zero]; exact hown.alloc _
    · exact World.ownsRow_lit w1 #[] 0 (by omega) (by simp [maxLen]) rfl
  case round =>
    obtain ⟨k, g, c, hk, rfl, rfl, HL, HX, hall⟩ := hrel
    obtain ⟨x0, x1, x2, x3, x4, x5, x6, x7⟩ := HX.out
    by_cases hlt : k < ks.length
    · obtain ⟨b, off, ha, hb, hc⟩ := (hrow.below HL.out.bel).at hlt
      subst ha
      have hg : ks[k]? = some ks[k] := List.getElem?_eq_getElem hlt
      obtain ⟨c0, c1, c2, ra, rc, c3, hr⟩ := hc k _ hg
      have hmem := List.getElem_mem hlt
      have m1 := hm.text _ hmem
      have m2 := hrl _ hmem
      have hbr : b < wr.heap.size := by omega
      have hL := HL.out
      clear HX HL hown
      match k, hk, hlt, hall, hg, c0, c1, c2, c3, hr, m1, m2, hL with
      | 0, hk, hlt, hall, hg, c0, c1, c2, c3, hr, m1, m2, hL =>
        have HG : Hid _ := hg
        clear hc hrow hm hrl hmem hg
        simp only [Nat.zero_mul, Nat.add_zero] at c0 c1 c2 c3
        generalize ks[0] = x at *
        go_wp2
        have hb1 : Below wr.heap.size wr (wr.alloc (Obj.cells #[Value.string x.sum, Value.int IntKind.i64 x.born, Value.string x.text, Value.slice ra x.refs.length rc] 92)) := (Below.refl _ _).alloc (Nat.le_refl _) _
        have z1 : (wr.alloc (Obj.cells #[Value.string x.sum, Value.int IntKind.i64 x.born, Value.string x.text, Value.slice ra x.refs.length rc] 92)).heap.size = wr.heap.size + 1 := by simp
        have t1 : (wr.alloc (Obj.cells #[Value.string x.sum, Value.int IntKind.i64 x.born, Value.string x.text, Value.slice ra x.refs.length rc] 92)).cell? ⟨wr.heap.size, 0, none⟩ = some (.string x.sum) := by simp
        have t4' : (wr.alloc (Obj.cells #[Value.string x.sum, Value.int IntKind.i64 x.born, Value.string x.text, Value.slice ra x.refs.length rc] 92)).cell? ⟨wr.heap.size, 1, none⟩ = some (.int .i64 x.born) := by simp
        have t2 : (wr.alloc (Obj.cells #[Value.string x.sum, Value.int IntKind.i64 x.born, Value.string x.text, Value.slice ra x.refs.length rc] 92)).cell? ⟨wr.heap.size, 2, none⟩ = some (.string x.text) := by simp
        have t3 : (wr.alloc (Obj.cells #[Value.string x.sum, Value.int IntKind.i64 x.born, Value.string x.text, Value.slice ra x.refs.length rc] 92)).cell? ⟨wr.heap.size, 3, none⟩ = some (.slice ra x.refs.length rc) := by simp
        have hbx : SBox (wr.alloc (Obj.cells #[Value.string x.sum, Value.int IntKind.i64 x.born, Value.string x.text, Value.slice ra x.refs.length rc] 92)) w.heap.size wd now given births (.slice (some ⟨b, off, none⟩) ks.length ac) P L := SBox.keep ⟨x0, x1, x2, x3, x4, x5, x6, x7⟩ hb1 x7
        generalize hW1 : wr.alloc (Obj.cells #[Value.string x.sum, Value.int IntKind.i64 x.born, Value.string x.text, Value.slice ra x.refs.length rc] 92) = W1 at *
        have hr1 : SRow W1 W1.heap.size ra x.refs := (hr.mono hL.bel.size).below' hb1
        have q0 := Cls.cell hbx.1 (by omega)
        have q3' := Cls.cell hbx.2.2.2.1 (by omega)
        have q4' := Cls.cell hbx.2.2.2.2.1 (by omega)
        have q1 := Cls.cell t1 (by omega)
        have q2 := Cls.cell t2 (by omega)
        have q3 := Cls.cell t3 (by omega)
        have q5 := Cls.cell t4' (by omega)
        have hne := Cls.ne W1
        have hV : ∀ n : Cls W1, Calls Try.prog 81 #[.agg #[.string x.text, .slice ra x.refs.length rc], .int .i64 wd] n.w fun e w' => e = .returned (.bool (okThing x.text x.refs wd)) ∧ Below n.w.heap.size n.w w' := fun n => sThingOk_any x.text ra rc x.refs wd _ (hr1.below' n.h) m2 m1
        have hF : ∀ n : Cls W1, Calls Try.prog 83 #[.agg #[.string x.text, .slice ra x.refs.length rc], .int .i64 wd] n.w fun e w' => e = .returned (.string (formTxt x.text x.refs wd)) ∧ Below n.w.heap.size n.w w' := fun n => sForm_any x.text ra rc x.refs wd _ (hr1.below' n.h) m2 m1
        have hS : ∀ n : Cls W1, Calls Try.prog 82 #[.string (formTxt x.text x.refs wd), .int .i64 wd] n.w fun e w' => e = .returned (.string (sumOf x wd)) ∧ Below n.w.heap.size n.w w' := fun n => ssum_any _ wd _ (formTxt_size _ _ _) h1 h8
        have hR : ∀ n : Cls W1, Calls Try.prog 40 #[.int .i64 x.born, .int .i64 1, .int .i64 births] n.w fun e w' => e = .returned (.bool (decide (1 ≤ x.born ∧ x.born ≤ births))) ∧ Below n.w.heap.size n.w w' := fun n => (range_any _ _ _ _).mono (by rintro e w' ⟨rfl, rfl⟩; exact ⟨rfl, Below.refl _ _⟩)
        have HF : Hid _ := And.intro hF hS
        have HV : Hid _ := hV
        have HR : Hid _ := hR
        clear hF hS hV hR
        generalize formTxt x.text x.refs wd = fx at *
        generalize hsx : sumOf x wd = sx at *
        have hB1 := hL.bel.trans (hb1.mono hL.bel.size)
        cases hok : okThing x.text x.refs wd with
        | false =>
          rw [hok] at HV
          refine region_cls_lit (by kernel_rfl) (by kernel_rfl) ?_
          repeat (go_big_quiet_step (first | exact Cls.calls (HV.out _) | exact Cls.calls (HF.out.1 _) | exact Cls.calls (HF.out.2 _) | exact Cls.calls (HR.out _)))
          refine wpQuiet_nil ?_
          intro n
          go_wp2
          go_ret
          refine ⟨_, rfl, ?_, hB1.trans (n.h.mono hB1.size)⟩
          simp only [Bool.false_eq_true, false_iff]
          exact fun h => by have := (h.1 _ _ HG.out).ok; rw [hok] at this; cases this
        | true =>
          rw [hok] at HV
          by_cases hs : x.sum = sx
          · have hs' : (x.sum.toList != sx.toList) = false := by rw [hs]; simp
            by_cases hrg : 1 ≤ x.born ∧ x.born ≤ births
            · rw [decide_eq_true hrg] at HR
              refine region_cls_lit (by kernel_rfl) (by kernel_rfl) ?_
              repeat (go_big_quiet_step (first | exact Cls.calls (HV.out _) | exact Cls.calls (HF.out.1 _) | exact Cls.calls (HF.out.2 _) | exact Cls.calls (HR.out _)))
              refine wpQuiet_nil ?_
              intro n
              have hL1 : L1 w n.w ks (0) (.slice (some ⟨g, 0, none⟩) (later ks (0)).length c) := hL.keep (hb1.trans (n.h.mono (by omega)))
              have hbn := hbx.keep n.h (by omega)
              obtain ⟨y0, y1, y2, y3, y4, y5, y6, y7⟩ := hbn
              have n1 := Cls.cell t4' (by omega) n
              have nz := n.size
              by_cases hlow : x.born ≤ 600
              · have hfc := hL1.fl.cellAt x.born.toNat (by omega)
                rw [flags_get _ _ _ (by omega), Int.toNat_of_nonneg (by omega)] at hfc
                have hff := hL1.fl.frozenAt x.born.toNat
                cases hse : seen ks (0) x.born with
                | true =>
                  rw [hse] at hfc
                  have HH : Hid _ := hL1
                  clear hL1 hL HV HF HR
                  go_wp2
                  go_ret
                  refine ⟨_, rfl, ?_, HH.out.bel⟩
                  simp only [Bool.false_eq_true, false_iff]
                  obtain ⟨j', p', hj', hp', he'⟩ := seen_iff.1 hse
                  exact fun h => (h.2.1 _ _ HG.out).new j' p' hj' hp' he'
                | false =>
                  rw [hse] at hfc
                  have hst := hL1.fl.stored x.born.toNat (.bool true)
                  rw [flags_set HG.out (by omega) hlow] at hst
                  have hla : later ks (0 + 1) = later ks (0) := by rw [later_snoc HG.out, if_neg (by omega)]; simp
                  have hbS := hL1.bel.setCell (p := ⟨w.heap.size + 1, x.born.toNat, none⟩) (by simp) (.bool true)
                  have hla1 := ownsRow_setCell_below hL1.la (a := ⟨w.heap.size + 1, x.born.toNat, none⟩) (by simp) (.bool true)
                  rw [← hla] at hla1
                  have HN : Hid (L1 w (n.w.setCell ⟨w.heap.size + 1, x.born.toNat, none⟩ (.bool true)) ks (0 + 1) (.slice (some ⟨g, 0, none⟩) (later ks (0)).length c)) := ⟨hbS, hst.1, by rw [← hla]; exact hla1⟩
                  have HB : Hid (SBox (n.w.setCell ⟨w.heap.size + 1, x.born.toNat, none⟩ (.bool true)) w.heap.size wd now given births (.slice (some ⟨b, off, none⟩) ks.length ac) P L) := by
                    refine ⟨?_, ?_, ?_, ?_, ?_, ?_, ?_, by simpa using y7⟩ <;> (rw [World.cell?_setCell_other _ _ _ _ (by simp)]; assumption)
                  have HA : Hid (∀ (j' : Nat) y, j' < 0 + 1 → ks[j']? = some y → ThAt wd ks j' y ∧ BornAt births ks j' y) := by
                    intro j' y hj hy
                    rcases Nat.lt_or_ge j' (0) with h' | h'
                    · exact hall.out j' y h' hy
                    · obtain rfl : j' = 0 := by omega
                      rw [HG.out] at hy
                      cases hy
                      refine ⟨⟨hok, by rw [hsx]; exact hs, fun j p h => by omega⟩, ⟨by omega, by omega, fun j2 p2 hj2 hp2 he => ?_⟩⟩
                      have := seen_iff.2 ⟨j2, p2, hj2, hp2, he⟩
                      rw [hse] at this
                      cases this
                  have HL' : Hid (later ks (0 + 1) = later ks (0)) := hla
                  clear hL1 hL HV HF HR hst hla hla1 hbS
                  go_wp2
                  refine ⟨⟨0 + 1, g, c, by omega, by go_num, by rw [HL'.out], ?_, HB, HA⟩, by simp [intOf]; omega⟩
                  rw [HL'.out]; exact HN
              · have hla := hL1.la
                have hfl := hL1.fl
                have hbelN := hL1.bel
                have hlen := later_length ks (0)
                have hfar : Hid (flags ks (0 + 1) = flags ks (0)) := flags_far HG.out (by omega)
                have hlat : Hid (later ks (0 + 1) = later ks (0) ++ [x.born]) := by show _ = _; rw [later_snoc HG.out, if_pos (by omega)]
                have hmemL : Hid (x.born ∈ later ks (0) ↔ seen ks (0) x.born = true) := later_mem (by omega)
                have HB0 : Hid (SBox n.w w.heap.size wd now given births (.slice (some ⟨b, off, none⟩) ks.length ac) P L) := ⟨y0, y1, y2, y3, y4, y5, y6, y7⟩
                have HT : Hid (ThAt wd ks (0) x) := ⟨hok, by rw [hsx]; exact hs, fun j p h => by omega⟩
                have HLl : Hid (later ks (0) = later ks (0)) := rfl
                generalize hlv : later ks (0) = lv at *
                have HH : Hid _ := And.intro hla (And.intro hfl hbelN)
                clear hL HV HF HR hL1 hs' HLl hla hfl
                go_wp2
                go_loopw [7] (fun jv wq => ∃ q m : Nat, q ≤ lv.length ∧ jv = .int .i64 q ∧ wq = n.w.drewN m ∧ Hid (∀ r z, r < q → lv[r]? = some z → z ≠ x.born)) (fun jv _ => lv.length - (intOf jv).toNat)
                case atStart => exact ⟨0, 0, Nat.zero_le _, rfl, rfl, fun r z h => by omega⟩
                case round =>
                  obtain ⟨q, m, hq, rfl, rfl, hno⟩ := hrel
                  by_cases hqlt : q < lv.length
                  · have hcq := HH.out.1.cellAt q (by simpa using hqlt)
                    rw [List.getElem?_map, List.getElem?_eq_getElem hqlt] at hcq
                    simp only [Option.map_some] at hcq
                    have HQ : Hid (lv[q]? = some lv[q]) := List.getElem?_eq_getElem hqlt
                    have hmem : Hid (lv[q] ∈ lv) := List.getElem_mem hqlt
                    have hq0 : (0 : Int) ≤ (q : Int) := by omega
                    have hq1 : (q : Int) < (lv.length : Int) := by omega
                    generalize lv[q] = z at *
                    by_cases hz : z = x.born
                    · subst hz
                      go_wp2
                      go_quiet (fail)
                      go_wp2
                      go_ret
                      refine ⟨_, rfl, ?_, belowN (belowN hbelN _) _⟩
                      simp only [Bool.false_eq_true, false_iff]
                      obtain ⟨j', p', hj', hp', he'⟩ := seen_iff.1 (hmemL.out.1 hmem.out)
                      exact fun h => (h.2.1 _ _ HG.out).new j' p' hj' hp' he'
                    · have hz' : (z == x.born) = false := by simpa using hz
                      have HN : Hid (∀ r z, r < q + 1 → lv[r]? = some z → z ≠ x.born) := by
                        intro r z' hr' hz''
                        rcases Nat.lt_or_ge r q with h' | h'
                        · exact hno.out r z' h' hz''
                        · obtain rfl : r = q := by omega
                          rw [HQ.out] at hz''
                          cases hz''
                          exact hz
                      clear hz
                      go_wp2
                      go_quiet (fail)
                      go_wp2
                      exact ⟨⟨q + 1, m + nq, by omega, by go_num, rfl, HN⟩, by simp [intOf]; omega⟩
                  · obtain rfl : q = lv.length := by omega
                    have hnew : Hid (seen ks (0) x.born = false) := by
                      show _ = _
                      cases hse : seen ks (0) x.born with
                      | false => rfl
                      | true =>
                        obtain ⟨r, hr'⟩ := List.getElem?_of_mem (hmemL.out.2 hse)
                        exact absurd rfl (hno.out r _ (List.getElem?_eq_some_iff.1 hr').1 hr')
                    have hlaD : (n.w.drewN m).ownsRow (w.heap.size + 2) 3 1 (.slice (some ⟨g, 0, none⟩) lv.length c) lv.length (lv.map (Value.int .i64)) := HH.out.1
                    have hflD : (n.w.drewN m).ownsRow (w.heap.size + 1) 4 1 (.slice (some ⟨w.heap.size + 1, 0, none⟩) 601 601) 601 (flags ks (0)) := HH.out.2.1
                    have hgb := (hlaD.lt g rfl).1
                    have HD : Hid _ := And.intro hlaD hflD
                    have hbD : Below w.heap.size w (n.w.drewN m) := belowN hbelN _
                    have hsD : w.heap.size + 2 ≤ (n.w.drewN m).heap.size := by have := (hlaD.lt g rfl).2; omega
                    clear hlaD hflD
                    go_wp2_with (first
                      | (at_builtin; refine wpList_append_own _ rfl _ _ 54 rfl (w.heap.size + 2) 3 i1 (.int .i64 0) 1 8 Try.underlying54 hi' hy0 hy1 hy2 rfl (by decide) _ lv.length (lv.map (Value.int .i64)) rfl ?d0 ⟨n.w.heap.size, 0, none⟩ 1 1 [.int .i64 x.born] rfl rfl ?d1 ?d2 ?d3 ?d4 ?d5 ?_)
                      | go_in)
                    case d0 => exact HD.out.1.alloc _
                    case d1 => exact cell_one_new _ _ _
                    case d2 => intro u hu; simp at hu; subst hu; rfl
                    case d3 => unfold maxLen; omega
                    case d4 => omega
                    case d5 => simp at hsD ⊢; omega
                    intro v' w2 hown' hgrow _
                    obtain ⟨g', c', hv', hg1, hg2⟩ := hown'.form (by omega)
                    subst hv'
                    have hbG : Below (w.heap.size + 2) (n.w.drewN m) w2 := ((Below.refl _ _).alloc hsD _).grown hgrow (by simp at hsD ⊢; omega) (by intro k hk; simp [Value.ownBlock] at hk; omega)
                    have HBox : Hid _ := HB0.out.keep ((belowN (Below.refl _ _) m : Below (w.heap.size + 2) n.w (n.w.drewN m)).trans hbG) (by omega)
                    have hfl2 := (HD.out.2.alloc (.cells #[.int .i64 x.born] 3)).kept hgrow (.inr (by simp [Value.ownBlock]; omega))
                    have HN : Hid (L1 w w2 ks (0 + 1) (.slice (some ⟨g', 0, none⟩) (lv.length + 1) c')) := ⟨hbD.trans (hbG.mono (by omega)), by rw [hfar.out]; exact hfl2, by rw [hlat.out]; simpa using hown'⟩
                    have HA : Hid (∀ (j' : Nat) y, j' < 0 + 1 → ks[j']? = some y → ThAt wd ks j' y ∧ BornAt births ks j' y) := by
                      intro j' y hj hy
                      rcases Nat.lt_or_ge j' (0) with h' | h'
                      · exact hall.out j' y h' hy
                      · obtain rfl : j' = 0 := by omega
                        rw [HG.out] at hy
                        cases hy
                        refine ⟨HT.out, ⟨by omega, by omega, fun j2 p2 hj2 hp2 he => ?_⟩⟩
                        have := seen_iff.2 ⟨j2, p2, hj2, hp2, he⟩
                        rw [hnew.out] at this
                        cases this
                    clear hown' hgrow hfl2 hbG
                    go_wp2
                    refine ⟨⟨0 + 1, g', c', by omega, by go_num, by rw [hlat.out]; simp, ?_, HBox, HA⟩, by simp [intOf]; omega⟩
                    rw [hlat.out, List.length_append]
                    exact HN
            · rw [decide_eq_false hrg] at HR
              refine region_cls_lit (by kernel_rfl) (by kernel_rfl) ?_
              repeat (go_big_quiet_step (first | exact Cls.calls (HV.out _) | exact Cls.calls (HF.out.1 _) | exact Cls.calls (HF.out.2 _) | exact Cls.calls (HR.out _)))
              refine wpQuiet_nil ?_
              intro n
              go_wp2
              go_ret
              refine ⟨_, rfl, ?_, hB1.trans (n.h.mono hB1.size)⟩
              simp only [Bool.false_eq_true, false_iff]
              exact fun h => hrg ⟨(h.2.1 _ _ HG.out).lo, (h.2.1 _ _ HG.out).hi⟩

          · have hs' : (x.sum.toList != sx.toList) = true := by simp [beq_ne hs, bne]
            have hs'' := beq_ne hs
            refine region_cls_lit (by kernel_rfl) (by kernel_rfl) ?_
            repeat (go_big_quiet_step (first | exact Cls.calls (HV.out _) | exact Cls.calls (HF.out.1 _) | exact Cls.calls (HF.out.2 _) | exact Cls.calls (HR.out _)))
            refine wpQuiet_nil ?_
            intro n
            go_wp2
            go_ret
            refine ⟨_, rfl, ?_, hB1.trans (n.h.mono hB1.size)⟩
            simp only [Bool.false_eq_true, false_iff]
            exact fun h => hs (by rw [← hsx]; exact (h.1 _ _ HG.out).sum)

      | j + 1, hk, hlt, hall, hg, c0, c1, c2, c3, hr, m1, m2, hL =>
        have HG : Hid _ := hg
        have HP : Hid (ks[j]? = some ks[j]) := List.getElem?_eq_getElem (by omega)
        obtain ⟨d0, _, _, _⟩ := hc j _ HP.out
        clear hc hrow hm hrl hmem hg
        generalize ks[j + 1] = x at *
        generalize ks[j] = p at *
        have hwj : IntKind.i64.wrap (j : Int) = (j : Int) := wrap_small (by omega) (by omega)
        have hj0 : (0 : Int) ≤ (j : Int) := by omega
        have hj1 : (j : Int) < (ks.length : Int) := by omega
        go_wp2
        have hb1 : Below wr.heap.size wr (wr.alloc (Obj.cells #[Value.string x.sum, Value.int IntKind.i64 x.born, Value.string x.text, Value.slice ra x.refs.length rc] 92)) := (Below.refl _ _).alloc (Nat.le_refl _) _
        have z1 : (wr.alloc (Obj.cells #[Value.string x.sum, Value.int IntKind.i64 x.born, Value.string x.text, Value.slice ra x.refs.length rc] 92)).heap.size = wr.heap.size + 1 := by simp
        have t1 : (wr.alloc (Obj.cells #[Value.string x.sum, Value.int IntKind.i64 x.born, Value.string x.text, Value.slice ra x.refs.length rc] 92)).cell? ⟨wr.heap.size, 0, none⟩ = some (.string x.sum) := by simp
        have t4' : (wr.alloc (Obj.cells #[Value.string x.sum, Value.int IntKind.i64 x.born, Value.string x.text, Value.slice ra x.refs.length rc] 92)).cell? ⟨wr.heap.size, 1, none⟩ = some (.int .i64 x.born) := by simp
        have t2 : (wr.alloc (Obj.cells #[Value.string x.sum, Value.int IntKind.i64 x.born, Value.string x.text, Value.slice ra x.refs.length rc] 92)).cell? ⟨wr.heap.size, 2, none⟩ = some (.string x.text) := by simp
        have t3 : (wr.alloc (Obj.cells #[Value.string x.sum, Value.int IntKind.i64 x.born, Value.string x.text, Value.slice ra x.refs.length rc] 92)).cell? ⟨wr.heap.size, 3, none⟩ = some (.slice ra x.refs.length rc) := by simp
        have hbx : SBox (wr.alloc (Obj.cells #[Value.string x.sum, Value.int IntKind.i64 x.born, Value.string x.text, Value.slice ra x.refs.length rc] 92)) w.heap.size wd now given births (.slice (some ⟨b, off, none⟩) ks.length ac) P L := SBox.keep ⟨x0, x1, x2, x3, x4, x5, x6, x7⟩ hb1 x7
        generalize hW1 : wr.alloc (Obj.cells #[Value.string x.sum, Value.int IntKind.i64 x.born, Value.string x.text, Value.slice ra x.refs.length rc] 92) = W1 at *
        have hr1 : SRow W1 W1.heap.size ra x.refs := (hr.mono hL.bel.size).below' hb1
        have q0 := Cls.cell hbx.1 (by omega)
        have q3' := Cls.cell hbx.2.2.2.1 (by omega)
        have q4' := Cls.cell hbx.2.2.2.2.1 (by omega)
        have q1 := Cls.cell t1 (by omega)
        have q2 := Cls.cell t2 (by omega)
        have q3 := Cls.cell t3 (by omega)
        have q5 := Cls.cell t4' (by omega)
        have q6 := Cls.cell ((hb1.cell (p := ⟨b, off + j * 4, none⟩) hbr).trans d0) (by omega)
        have hne := Cls.ne W1
        have hV : ∀ n : Cls W1, Calls Try.prog 81 #[.agg #[.string x.text, .slice ra x.refs.length rc], .int .i64 wd] n.w fun e w' => e = .returned (.bool (okThing x.text x.refs wd)) ∧ Below n.w.heap.size n.w w' := fun n => sThingOk_any x.text ra rc x.refs wd _ (hr1.below' n.h) m2 m1
        have hF : ∀ n : Cls W1, Calls Try.prog 83 #[.agg #[.string x.text, .slice ra x.refs.length rc], .int .i64 wd] n.w fun e w' => e = .returned (.string (formTxt x.text x.refs wd)) ∧ Below n.w.heap.size n.w w' := fun n => sForm_any x.text ra rc x.refs wd _ (hr1.below' n.h) m2 m1
        have hS : ∀ n : Cls W1, Calls Try.prog 82 #[.string (formTxt x.text x.refs wd), .int .i64 wd] n.w fun e w' => e = .returned (.string (sumOf x wd)) ∧ Below n.w.heap.size n.w w' := fun n => ssum_any _ wd _ (formTxt_size _ _ _) h1 h8
        have hR : ∀ n : Cls W1, Calls Try.prog 40 #[.int .i64 x.born, .int .i64 1, .int .i64 births] n.w fun e w' => e = .returned (.bool (decide (1 ≤ x.born ∧ x.born ≤ births))) ∧ Below n.w.heap.size n.w w' := fun n => (range_any _ _ _ _).mono (by rintro e w' ⟨rfl, rfl⟩; exact ⟨rfl, Below.refl _ _⟩)
        have HF : Hid _ := And.intro hF hS
        have HV : Hid _ := hV
        have HR : Hid _ := hR
        clear hF hS hV hR
        generalize formTxt x.text x.refs wd = fx at *
        generalize hsx : sumOf x wd = sx at *
        have hB1 := hL.bel.trans (hb1.mono hL.bel.size)
        cases hok : okThing x.text x.refs wd with
        | false =>
          rw [hok] at HV
          refine region_cls_lit (by kernel_rfl) (by kernel_rfl) ?_
          repeat (go_big_quiet_step (first | exact Cls.calls (HV.out _) | exact Cls.calls (HF.out.1 _) | exact Cls.calls (HF.out.2 _) | exact Cls.calls (HR.out _)))
          refine wpQuiet_nil ?_
          intro n
          go_wp2
          go_ret
          refine ⟨_, rfl, ?_, hB1.trans (n.h.mono hB1.size)⟩
          simp only [Bool.false_eq_true, false_iff]
          exact fun h => by have := (h.1 _ _ HG.out).ok; rw [hok] at this; cases this
        | true =>
          rw [hok] at HV
          by_cases hs : x.sum = sx
          · have hs' : (x.sum.toList != sx.toList) = false := by rw [hs]; simp
            cases hless : Op.bytesLess p.sum.toList sx.toList with
            | false =>
              refine region_cls_lit (by kernel_rfl) (by kernel_rfl) ?_
              repeat (go_big_quiet_step (first | exact Cls.calls (HV.out _) | exact Cls.calls (HF.out.1 _) | exact Cls.calls (HF.out.2 _) | exact Cls.calls (HR.out _)))
              refine wpQuiet_nil ?_
              intro n
              go_wp2
              go_ret
              refine ⟨_, rfl, ?_, hB1.trans (n.h.mono hB1.size)⟩
              simp only [Bool.false_eq_true, false_iff]
              exact fun h => by have := (h.1 _ _ HG.out).up j p rfl HP.out; unfold less at this; rw [hs, hless] at this; cases this
            | true =>
              by_cases hrg : 1 ≤ x.born ∧ x.born ≤ births
              · rw [decide_eq_true hrg] at HR
                refine region_cls_lit (by kernel_rfl) (by kernel_rfl) ?_
                repeat (go_big_quiet_step (first | exact Cls.calls (HV.out _) | exact Cls.calls (HF.out.1 _) | exact Cls.calls (HF.out.2 _) | exact Cls.calls (HR.out _)))
                refine wpQuiet_nil ?_
                intro n
                have hL1 : L1 w n.w ks ((j + 1)) (.slice (some ⟨g, 0, none⟩) (later ks ((j + 1))).length c) := hL.keep (hb1.trans (n.h.mono (by omega)))
                have hbn := hbx.keep n.h (by omega)
                obtain ⟨y0, y1, y2, y3, y4, y5, y6, y7⟩ := hbn
                have n1 := Cls.cell t4' (by omega) n
                have nz := n.size
                by_cases hlow : x.born ≤ 600
                · have hfc := hL1.fl.cellAt x.born.toNat (by omega)
                  rw [flags_get _ _ _ (by omega), Int.toNat_of_nonneg (by omega)] at hfc
                  have hff := hL1.fl.frozenAt x.born.toNat
                  cases hse : seen ks ((j + 1)) x.born with
                  | true =>
                    rw [hse] at hfc
                    have HH : Hid _ := hL1
                    clear hL1 hL HV HF HR
                    go_wp2
                    go_ret
                    refine ⟨_, rfl, ?_, HH.out.bel⟩
                    simp only [Bool.false_eq_true, false_iff]
                    obtain ⟨j', p', hj', hp', he'⟩ := seen_iff.1 hse
                    exact fun h => (h.2.1 _ _ HG.out).new j' p' hj' hp' he'
                  | false =>
                    rw [hse] at hfc
                    have hst := hL1.fl.stored x.born.toNat (.bool true)
                    rw [flags_set HG.out (by omega) hlow] at hst
                    have hla : later ks ((j + 1) + 1) = later ks ((j + 1)) := by rw [later_snoc HG.out, if_neg (by omega)]; simp
                    have hbS := hL1.bel.setCell (p := ⟨w.heap.size + 1, x.born.toNat, none⟩) (by simp) (.bool true)
                    have hla1 := ownsRow_setCell_below hL1.la (a := ⟨w.heap.size + 1, x.born.toNat, none⟩) (by simp) (.bool true)
                    rw [← hla] at hla1
                    have HN : Hid (L1 w (n.w.setCell ⟨w.heap.size + 1, x.born.toNat, none⟩ (.bool true)) ks ((j + 1) + 1) (.slice (some ⟨g, 0, none⟩) (later ks ((j + 1))).length c)) := ⟨hbS, hst.1, by rw [← hla]; exact hla1⟩
                    have HB : Hid (SBox (n.w.setCell ⟨w.heap.size + 1, x.born.toNat, none⟩ (.bool true)) w.heap.size wd now given births (.slice (some ⟨b, off, none⟩) ks.length ac) P L) := by
                      refine ⟨?_, ?_, ?_, ?_, ?_, ?_, ?_, by simpa using y7⟩ <;> (rw [World.cell?_setCell_other _ _ _ _ (by simp)]; assumption)
                    have HA : Hid (∀ (j' : Nat) y, j' < (j + 1) + 1 → ks[j']? = some y → ThAt wd ks j' y ∧ BornAt births ks j' y) := by
                      intro j' y hj hy
                      rcases Nat.lt_or_ge j' ((j + 1)) with h' | h'
                      · exact hall.out j' y h' hy
                      · obtain rfl : j' = (j + 1) := by omega
                        rw [HG.out] at hy
                        cases hy
                        refine ⟨⟨hok, by rw [hsx]; exact hs, fun j2 p2 h hp2 => by cases h; rw [HP.out] at hp2; cases hp2; unfold less; rw [hs]; exact hless⟩, ⟨by omega, by omega, fun j2 p2 hj2 hp2 he => ?_⟩⟩
                        have := seen_iff.2 ⟨j2, p2, hj2, hp2, he⟩
                        rw [hse] at this
                        cases this
                    have HL' : Hid (later ks ((j + 1) + 1) = later ks ((j + 1))) := hla
                    clear hL1 hL HV HF HR hst hla hla1 hbS
                    go_wp2
                    refine ⟨⟨(j + 1) + 1, g, c, by omega, by go_num, by rw [HL'.out], ?_, HB, HA⟩, by simp [intOf]; omega⟩
                    rw [HL'.out]; exact HN
                · have hla := hL1.la
                  have hfl := hL1.fl
                  have hbelN := hL1.bel
                  have hlen := later_length ks ((j + 1))
                  have hfar : Hid (flags ks ((j + 1) + 1) = flags ks ((j + 1))) := flags_far HG.out (by omega)
                  have hlat : Hid (later ks ((j + 1) + 1) = later ks ((j + 1)) ++ [x.born]) := by show _ = _; rw [later_snoc HG.out, if_pos (by omega)]
                  have hmemL : Hid (x.born ∈ later ks ((j + 1)) ↔ seen ks ((j + 1)) x.born = true) := later_mem (by omega)
                  have HB0 : Hid (SBox n.w w.heap.size wd now given births (.slice (some ⟨b, off, none⟩) ks.length ac) P L) := ⟨y0, y1, y2, y3, y4, y5, y6, y7⟩
                  have HT : Hid (ThAt wd ks ((j + 1)) x) := ⟨hok, by rw [hsx]; exact hs, fun j2 p2 h hp2 => by cases h; rw [HP.out] at hp2; cases hp2; unfold less; rw [hs]; exact hless⟩
                  have HLl : Hid (later ks ((j + 1)) = later ks ((j + 1))) := rfl
                  generalize hlv : later ks ((j + 1)) = lv at *
                  have HH : Hid _ := And.intro hla (And.intro hfl hbelN)
                  clear hL HV HF HR hL1 hs' HLl hla hfl
                  go_wp2
                  go_loopw [7] (fun jv wq => ∃ q m : Nat, q ≤ lv.length ∧ jv = .int .i64 q ∧ wq = n.w.drewN m ∧ Hid (∀ r z, r < q → lv[r]? = some z → z ≠ x.born)) (fun jv _ => lv.length - (intOf jv).toNat)
                  case atStart => exact ⟨0, 0, Nat.zero_le _, rfl, rfl, fun r z h => by omega⟩
                  case round =>
                    obtain ⟨q, m, hq, rfl, rfl, hno⟩ := hrel
                    by_cases hqlt : q < lv.length
                    · have hcq := HH.out.1.cellAt q (by simpa using hqlt)
                      rw [List.getElem?_map, List.getElem?_eq_getElem hqlt] at hcq
                      simp only [Option.map_some] at hcq
                      have HQ : Hid (lv[q]? = some lv[q]) := List.getElem?_eq_getElem hqlt
                      have hmem : Hid (lv[q] ∈ lv) := List.getElem_mem hqlt
                      have hq0 : (0 : Int) ≤ (q : Int) := by omega
                      have hq1 : (q : Int) < (lv.length : Int) := by omega
                      generalize lv[q] = z at *
                      by_cases hz : z = x.born
                      · subst hz
                        go_wp2
                        go_quiet (fail)
                        go_wp2
                        go_ret
                        refine ⟨_, rfl, ?_, belowN (belowN hbelN _) _⟩
                        simp only [Bool.false_eq_true, false_iff]
                        obtain ⟨j', p', hj', hp', he'⟩ := seen_iff.1 (hmemL.out.1 hmem.out)
                        exact fun h => (h.2.1 _ _ HG.out).new j' p' hj' hp' he'
                      · have hz' : (z == x.born) = false := by simpa using hz
                        have HN : Hid (∀ r z, r < q + 1 → lv[r]? = some z → z ≠ x.born) := by
                          intro r z' hr' hz''
                          rcases Nat.lt_or_ge r q with h' | h'
                          · exact hno.out r z' h' hz''
                          · obtain rfl : r = q := by omega
                            rw [HQ.out] at hz''
                            cases hz''
                            exact hz
                        clear hz
                        go_wp2
                        go_quiet (fail)
                        go_wp2
                        exact ⟨⟨q + 1, m + nq, by omega, by go_num, rfl, HN⟩, by simp [intOf]; omega⟩
                    · obtain rfl : q = lv.length := by omega
                      have hnew : Hid (seen ks ((j + 1)) x.born = false) := by
                        show _ = _
                        cases hse : seen ks ((j + 1)) x.born with
                        | false => rfl
                        | true =>
                          obtain ⟨r, hr'⟩ := List.getElem?_of_mem (hmemL.out.2 hse)
                          exact absurd rfl (hno.out r _ (List.getElem?_eq_some_iff.1 hr').1 hr')
                      have hlaD : (n.w.drewN m).ownsRow (w.heap.size + 2) 3 1 (.slice (some ⟨g, 0, none⟩) lv.length c) lv.length (lv.map (Value.int .i64)) := HH.out.1
                      have hflD : (n.w.drewN m).ownsRow (w.heap.size + 1) 4 1 (.slice (some ⟨w.heap.size + 1, 0, none⟩) 601 601) 601 (flags ks ((j + 1))) := HH.out.2.1
                      have hgb := (hlaD.lt g rfl).1
                      have HD : Hid _ := And.intro hlaD hflD
                      have hbD : Below w.heap.size w (n.w.drewN m) := belowN hbelN _
                      have hsD : w.heap.size + 2 ≤ (n.w.drewN m).heap.size := by have := (hlaD.lt g rfl).2; omega
                      clear hlaD hflD
                      go_wp2_with (first
                        | (at_builtin; refine wpList_append_own _ rfl _ _ 54 rfl (w.heap.size + 2) 3 i1 (.int .i64 0) 1 8 Try.underlying54 hi' hy0 hy1 hy2 rfl (by decide) _ lv.length (lv.map (Value.int .i64)) rfl ?d0 ⟨n.w.heap.size, 0, none⟩ 1 1 [.int .i64 x.born] rfl rfl ?d1 ?d2 ?d3 ?d4 ?d5 ?_)
                        | go_in)
                      case d0 => exact HD.out.1.alloc _
                      case d1 => exact cell_one_new _ _ _
                      case d2 => intro u hu; simp at hu; subst hu; rfl
                      case d3 => unfold maxLen; omega
                      case d4 => omega
                      case d5 => simp at hsD ⊢; omega
                      intro v' w2 hown' hgrow _
                      obtain ⟨g', c', hv', hg1, hg2⟩ := hown'.form (by omega)
                      subst hv'
                      have hbG : Below (w.heap.size + 2) (n.w.drewN m) w2 := ((Below.refl _ _).alloc hsD _).grown hgrow (by simp at hsD ⊢; omega) (by intro k hk; simp [Value.ownBlock] at hk; omega)
                      have HBox : Hid _ := HB0.out.keep ((belowN (Below.refl _ _) m : Below (w.heap.size + 2) n.w (n.w.drewN m)).trans hbG) (by omega)
                      have hfl2 := (HD.out.2.alloc (.cells #[.int .i64 x.born] 3)).kept hgrow (.inr (by simp [Value.ownBlock]; omega))
                      have HN : Hid (L1 w w2 ks ((j + 1) + 1) (.slice (some ⟨g', 0, none⟩) (lv.length + 1) c')) := ⟨hbD.trans (hbG.mono (by omega)), by rw [hfar.out]; exact hfl2, by rw [hlat.out]; simpa using hown'⟩
                      have HA : Hid (∀ (j' : Nat) y, j' < (j + 1) + 1 → ks[j']? = some y → ThAt wd ks j' y ∧ BornAt births ks j' y) := by
                        intro j' y hj hy
                        rcases Nat.lt_or_ge j' ((j + 1)) with h' | h'
                        · exact hall.out j' y h' hy
                        · obtain rfl : j' = (j + 1) := by omega
                          rw [HG.out] at hy
                          cases hy
                          refine ⟨HT.out, ⟨by omega, by omega, fun j2 p2 hj2 hp2 he => ?_⟩⟩
                          have := seen_iff.2 ⟨j2, p2, hj2, hp2, he⟩
                          rw [hnew.out] at this
                          cases this
                      clear hown' hgrow hfl2 hbG
                      go_wp2
                      refine ⟨⟨(j + 1) + 1, g', c', by omega, by go_num, by rw [hlat.out]; simp, ?_, HBox, HA⟩, by simp [intOf]; omega⟩
                      rw [hlat.out, List.length_append]
                      exact HN
              · rw [decide_eq_false hrg] at HR
                refine region_cls_lit (by kernel_rfl) (by kernel_rfl) ?_
                repeat (go_big_quiet_step (first | exact Cls.calls (HV.out _) | exact Cls.calls (HF.out.1 _) | exact Cls.calls (HF.out.2 _) | exact Cls.calls (HR.out _)))
                refine wpQuiet_nil ?_
                intro n
                go_wp2
                go_ret
                refine ⟨_, rfl, ?_, hB1.trans (n.h.mono hB1.size)⟩
                simp only [Bool.false_eq_true, false_iff]
                exact fun h => hrg ⟨(h.2.1 _ _ HG.out).lo, (h.2.1 _ _ HG.out).hi⟩

          · have hs' : (x.sum.toList != sx.toList) = true := by simp [beq_ne hs, bne]
            have hs'' := beq_ne hs
            refine region_cls_lit (by kernel_rfl) (by kernel_rfl) ?_
            repeat (go_big_quiet_step (first | exact Cls.calls (HV.out _) | exact Cls.calls (HF.out.1 _) | exact Cls.calls (HF.out.2 _) | exact Cls.calls (HR.out _)))
            refine wpQuiet_nil ?_
            intro n
            go_wp2
            go_ret
            refine ⟨_, rfl, ?_, hB1.trans (n.h.mono hB1.size)⟩
            simp only [Bool.false_eq_true, false_iff]
            exact fun h => hs (by rw [← hsx]; exact (h.1 _ _ HG.out).sum)

    · have HAll : Hid (∀ (j : Nat) x, ks[j]? = some x → ThAt wd ks j x ∧ BornAt births ks j x) := fun j x hx => hall.out j x (by have := (List.getElem?_eq_some_iff.1 hx).1; omega) hx
      have hbelR := HL.out.bel
      have HX' := HX
      clear hown HL hall HX
      go_wp2
      go_loopw [8] (fun iv wq => ∃ i : Nat, i ≤ ks.length ∧ iv = .int .i64 i ∧ Below w.heap.size w wq ∧ Hid (SBox wq w.heap.size wd now given births (.slice a ks.length ac) P L) ∧ Hid (∀ (j : Nat) x, j < i → ks[j]? = some x → RefAt ks x)) (fun iv _ => ks.length - (intOf iv).toNat)
      case atStart => exact ⟨0, Nat.zero_le _, rfl, hbelR, HX', fun j x h => by omega⟩
      case round =>
        obtain ⟨i, hi2, rfl, hbel2, HX2, href⟩ := hrel
        obtain ⟨x0, x1, x2, x3, x4, x5, x6, x7⟩ := HX2.out
        by_cases hilt : i < ks.length
        · have hrow2 := hrow.below hbel2
          obtain ⟨b, off, ha, hb, hc⟩ := hrow2.at hilt
          subst ha
          have HG : Hid (ks[i]? = some ks[i]) := List.getElem?_eq_getElem hilt
          have HC : Hid _ := hc
          generalize ks[i] = x at *
          clear hc
          have hrx := hrl x (List.mem_of_getElem? HG.out)
          go_wp2
          go_loopw [9] (fun jv wz => ∃ q : Nat, q ≤ x.refs.length ∧ jv = .int .i64 q ∧ Below w.heap.size w wz ∧ Hid (SBox wz w.heap.size wd now given births (.slice (some ⟨b, off, none⟩) ks.length ac) P L) ∧ Hid (∀ (r : Nat) s, r < q → x.refs[r]? = some s → ∃ u ∈ ks, u.sum = s ∧ u.born < x.born)) (fun jv _ => x.refs.length - (intOf jv).toNat)
          case atStart => exact ⟨0, Nat.zero_le _, rfl, hbel2, HX2, fun r s h => by omega⟩
          case round =>
            obtain ⟨q, hq, rfl, hbel3, HX3, hrs⟩ := hrel
            have hrow3 := hrow.below hbel3
            obtain ⟨b', off', ha', _, hc3⟩ := hrow3.at hilt
            cases ha'
            obtain ⟨_, e1, _, ra, rc, e3, hr3⟩ := hc3 i _ HG.out
            obtain ⟨y0, y1, y2, y3, y4, y5, y6, y7⟩ := HX3.out
            clear x0 x1 x2 x3 x4 x5 x6 x7
            have hi0 : (0 : Int) ≤ (i : Int) := by omega
            have hi1 : (i : Int) < (ks.length : Int) := by omega
            have hbw : b < wr.heap.size := by omega
            by_cases hql : q < x.refs.length
            · obtain ⟨rb, roff, hra, hrb, hrc⟩ := hr3.at hql
              subst hra
              have HS : Hid (x.refs[q]? = some x.refs[q]) := List.getElem?_eq_getElem hql
              have es := hrc q _ HS.out
              have hq0 : (0 : Int) ≤ (q : Int) := by omega
              have hq1 : (q : Int) < (x.refs.length : Int) := by omega
              have hrbw : rb < wr.heap.size := by omega
              generalize x.refs[q] = s at *
              have hFd : ∀ n : Cls wr, Calls Try.prog 43 #[.agg #[.int .i64 wd, .int .i64 now, .int .i64 given, .int .i64 births, .slice (some ⟨b, off, none⟩) ks.length ac, P, L], .string s] n.w fun e w' => e = .returned (.int .i64 (findI ks s)) ∧ Below n.w.heap.size n.w w' := fun n => find_any wd now given births _ ac P L ks s n.w w.heap.size (hrow3.below (n.h.mono (by omega))) (by have := n.h.size; omega) (by omega)
              have HFd : Hid _ := hFd
              have q0 := Cls.cell y0 y7
              have q1 := Cls.cell y1 y7
              have q2 := Cls.cell y2 y7
              have q3 := Cls.cell y3 y7
              have q4 := Cls.cell y4 y7
              have q5 := Cls.cell y5 y7
              have q6 := Cls.cell y6 y7
              have q7 := Cls.cell e3 hbw
              have q8 := Cls.cell es hrbw
              have hne := Cls.ne wr
              have HK : Hid _ := hrow3
              clear hFd hc3 hrc hr3 hrow3
              go_wp2
              refine region_cls_lit (by kernel_rfl) (by kernel_rfl) ?_
              repeat (go_big_quiet_step (exact Cls.calls (HFd.out _)))
              refine wpQuiet_nil ?_
              intro n
              have hbn : Below w.heap.size w n.w := hbel3.trans (n.h.mono (by omega))
              have hKn : KRow n.w w.heap.size (some ⟨b, off, none⟩) ks := KRow.below HK.out (n.h.mono (by omega))
              have HXn : Hid (SBox n.w w.heap.size wd now given births (.slice (some ⟨b, off, none⟩) ks.length ac) P L) := SBox.keep HX3.out n.h y7
              obtain ⟨z0, z1, z2, z3, z4, z5, z6, z7⟩ := HXn.out
              obtain ⟨b', off', ha', _, hc4⟩ := hKn.at hilt
              cases ha'
              obtain ⟨_, f1, _, _⟩ := hc4 i _ HG.out
              rcases findI_cases ks s with ⟨hf, hno⟩ | ⟨i2, u, hf, hu, hus⟩
              · rw [hf]
                clear hc4 hKn
                go_wp2
                go_quiet (fail)
                go_wp2
                go_ret
                refine ⟨_, rfl, ?_, belowN hbn _⟩
                simp only [Bool.false_eq_true, false_iff]
                intro h
                obtain ⟨u, hu, hus, _⟩ := h.2.2 _ _ HG.out s (List.mem_of_getElem? HS.out)
                exact hno ⟨u, hu, hus⟩
              · rw [hf]
                obtain ⟨_, g1, _, _⟩ := hc4 i2 _ hu
                have hi2l := (List.getElem?_eq_some_iff.1 hu).1
                have hj0 : (0 : Int) ≤ (i2 : Int) := by omega
                have hj1 : (i2 : Int) < (ks.length : Int) := by omega
                have hneg : decide ((i2 : Int) < 0) = false := by simp
                have HU : Hid _ := And.intro hu hus
                clear hc4 hKn hu hus
                by_cases hlt2 : u.born < x.born
                · have hd : decide (x.born ≤ u.born) = false := by simp; omega
                  have HN : Hid (∀ (r : Nat) s, r < q + 1 → x.refs[r]? = some s → ∃ u ∈ ks, u.sum = s ∧ u.born < x.born) := by
                    intro r s' hr' hs'
                    rcases Nat.lt_or_ge r q with h' | h'
                    · exact hrs.out r s' h' hs'
                    · obtain rfl : r = q := by omega
                      rw [HS.out] at hs'
                      cases hs'
                      exact ⟨u, List.mem_of_getElem? HU.out.1, HU.out.2, hlt2⟩
                  go_wp2
                  go_quiet (fail)
                  go_wp2
                  exact ⟨⟨q + 1, by omega, by go_num, belowN hbn _, SBox.keep HXn.out (belowN (Below.refl _ _) nq) z7, HN⟩, by simp [intOf]; omega⟩
                · have hd : decide (x.born ≤ u.born) = true := by simp; omega
                  go_wp2
                  go_quiet (fail)
                  go_wp2
                  go_ret
                  refine ⟨_, rfl, ?_, belowN hbn _⟩
                  simp only [Bool.false_eq_true, false_iff]
                  intro h
                  obtain ⟨u', hu', hus', hb'⟩ := h.2.2 _ _ HG.out s (List.mem_of_getElem? HS.out)
                  obtain ⟨i3, hi3⟩ := List.getElem?_of_mem hu'
                  have := sums_inj h.1 HU.out.1 hi3 (by rw [HU.out.2, hus'])
                  subst this
                  omega
            · have HN : Hid (∀ (j : Nat) y, j < i + 1 → ks[j]? = some y → RefAt ks y) := by
                intro j y hj hy
                rcases Nat.lt_or_ge j i with h' | h'
                · exact href.out j y h' hy
                · obtain rfl : j = i := by omega
                  rw [HG.out] at hy
                  cases hy
                  intro r hr'
                  obtain ⟨p, hp⟩ := List.getElem?_of_mem hr'
                  exact hrs.out p r (by have := (List.getElem?_eq_some_iff.1 hp).1; omega) hp
              clear hc3 hr3 hrow3
              go_wp2
              exact ⟨⟨i + 1, by omega, by go_num, hbel3, HX3, HN⟩, by simp [intOf]; omega⟩
        · go_wp2
          go_ret
          refine ⟨_, rfl, ?_, hbel2⟩
          simp only [true_iff]
          exact ⟨fun i k h => (HAll.out i k h).1, fun i k h => (HAll.out i k h).2, fun i k h => href.out i k (by have := (List.getElem?_eq_some_iff.1 h).1; omega) h⟩

end Go.Proofs.Ytbelneejghdmoaa
