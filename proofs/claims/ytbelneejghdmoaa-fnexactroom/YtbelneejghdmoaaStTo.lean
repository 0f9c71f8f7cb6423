/-
  laws.toState and what it calls.
-/
import Derived.Test.YtbelneejghdmoaaStSz
import Derived.Test.YtbelneejghdmoaaMarkS
namespace Go.Proofs.Ytbelneejghdmoaa
open Go.ChangeShapes Go.WideShapes Go.ChangeAt Go.RowKit

/-- A thing's own row of Refs. -/
def RefsOwn (w : World) (lo g c : Nat) (rs : List ByteArray) : Prop := w.ownsRow lo 9 1 (.slice (some ⟨g, 0, none⟩) rs.length c) rs.length (rs.map Value.string)

set_option maxHeartbeats 400000 in
theorem toKept_any (k : Kd) (a : Option Addr) (cap : Nat) (w : World) (hrow : SRow w w.heap.size a k.refs) (hl : k.refs.length ≤ 1048576) :
    Calls Try.prog 84 #[.agg #[.string k.sum, .int .i64 k.born, .string k.text, .slice a k.refs.length cap]] w fun e w' => ∃ g, e = .returned (.agg #[.string k.sum, .int .i64 k.born, .string k.text, .slice (some ⟨g, 0, none⟩) k.refs.length k.refs.length]) ∧
      RefsOwn w' w.heap.size g k.refs.length k.refs ∧ Below w.heap.size w w' := by
  go_enter Try.func84, Try.ntmps84
  go_wp2_with fail
  refine (toThing_any k.text a cap k.refs _ (hrow.below' ((((Below.refl _ _).alloc (Nat.le_refl _) _).alloc (by simp) _).alloc (by simp; omega) _)) hl).mono ?_
  rintro e w1 ⟨g, rfl, hg, hown, hb⟩
  obtain ⟨hc, hf⟩ := bcell hb
  have hz := hb.size
  simp at hz hg
  go_wp2
  refine bodyPost_ret (v := .agg #[.string k.sum, .int .i64 k.born, .string k.text, .slice (some ⟨g, 0, none⟩) k.refs.length k.refs.length]) (by simp [results, Try.results84, go_sem, hc]) rfl ⟨g, rfl, ?_, ?_⟩
  · exact (ownsRow_setCell_below (ownsRow_setCell_below (ownsRow_setCell_below (ownsRow_setCell_below (ownsRow_setCell_below (ownsRow_setCell_below hown (by simp) _) (by simp) _) (by simp) _) (by simp) _) (by simp) _) (by simp) _).mono (by simp; omega)
  · exact ((((((((Below.refl _ _).alloc (Nat.le_refl _) _).alloc (by simp) _).alloc (by simp; omega) _).trans (hb.mono (by simp; omega))).setCell (by simp; omega) _ |>.setCell (by simp; omega) _ |>.setCell (by simp) _ |>.setCell (by simp) _ |>.setCell (by simp) _ |>.setCell (by simp) _)))

/-- The cells of one thing in a row of the call's own. -/
def KCells (w : World) (lo : Nat) (xs : List Value) (i : Nat) (x : Kd) : Prop :=
  xs[i * 4]? = some (.string x.sum) ∧ xs[i * 4 + 1]? = some (.int .i64 x.born) ∧ xs[i * 4 + 2]? = some (.string x.text) ∧
    ∃ g, xs[i * 4 + 3]? = some (.slice (some ⟨g, 0, none⟩) x.refs.length x.refs.length) ∧ RefsOwn w lo g x.refs.length x.refs

theorem Try.infoKept : (Try.prog.info? 92).map (fun i => (i.zero, i.size, i.bytes)) = some (some (.agg #[.string ⟨#[]⟩, .int .i64 0, .string ⟨#[]⟩, .slice none 0 0]), 4, 64) := by kernel_rfl

theorem RefsOwn.keep {w w' : World} {lo g c : Nat} {rs : List ByteArray} (h : RefsOwn w lo g c rs) (hb : Below w.heap.size w w') : RefsOwn w' lo g c rs :=
  World.ownsRow.kept h (row := none) ⟨hb.os, hb.tape, hb.output, hb.size, fun k hk _ => hb.block k hk⟩ (.inr (by simp [Value.ownBlock]))

theorem KCells.keep {w w' : World} {lo i : Nat} {xs : List Value} {x : Kd} (h : KCells w lo xs i x) (hb : Below w.heap.size w w') : KCells w' lo xs i x := by
  obtain ⟨h0, h1, h2, g, h3, h4⟩ := h
  exact ⟨h0, h1, h2, g, h3, h4.keep hb⟩

theorem KCells.set4 {w w' : World} {lo i j : Nat} {xs : List Value} {x : Kd} (h : KCells w lo xs i x) (hij : i < j) (u0 u1 u2 u3 : Value) (hw : ∀ g c rs, RefsOwn w lo g c rs → RefsOwn w' lo g c rs) :
    KCells w' lo ((((xs.set (j * 4) u0).set (j * 4 + 1) u1).set (j * 4 + 2) u2).set (j * 4 + 3) u3) i x := by
  obtain ⟨h0, h1, h2, g, h3, h4⟩ := h
  refine ⟨?_, ?_, ?_, g, ?_, hw _ _ _ h4⟩
  all_goals
    rw [List.getElem?_set_ne (by omega), List.getElem?_set_ne (by omega), List.getElem?_set_ne (by omega), List.getElem?_set_ne (by omega)]
    assumption

theorem KCells.new4 {w : World} {lo j g : Nat} {xs : List Value} (x : Kd) (hl : j * 4 + 3 < xs.length) (ho : RefsOwn w lo g x.refs.length x.refs) :
    KCells w lo ((((xs.set (j * 4) (.string x.sum)).set (j * 4 + 1) (.int .i64 x.born)).set (j * 4 + 2) (.string x.text)).set (j * 4 + 3) (.slice (some ⟨g, 0, none⟩) x.refs.length x.refs.length)) j x := by
  refine ⟨?_, ?_, ?_, g, ?_, ho⟩
  · rw [List.getElem?_set_ne (by omega), List.getElem?_set_ne (by omega), List.getElem?_set_ne (by omega), List.getElem?_set_self (by omega)]
  · rw [List.getElem?_set_ne (by omega), List.getElem?_set_ne (by omega), List.getElem?_set_self (by simp; omega)]
  · rw [List.getElem?_set_ne (by omega), List.getElem?_set_self (by simp; omega)]
  · rw [List.getElem?_set_self (by simp; omega)]

/-- A row of things of the call's own. -/
def KOwn (w : World) (lo g : Nat) (ks : List Kd) : Prop :=
  ∃ xs, w.ownsRow lo 92 4 (.slice (some ⟨g, 0, none⟩) ks.length ks.length) ks.length xs ∧ ∀ i x, ks[i]? = some x → KCells w (g + 1) xs i x

theorem KOwn.row {w : World} {lo g : Nat} {ks : List Kd} (h : KOwn w lo g ks) : KRow w w.heap.size (some ⟨g, 0, none⟩) ks := by
  obtain ⟨xs, ho, hk⟩ := h
  refine .inr ⟨g, 0, rfl, (ho.lt g rfl).2, fun i x hx => ?_⟩
  have hi := (List.getElem?_eq_some_iff.1 hx).1
  obtain ⟨h0, h1, h2, q, h3, h4⟩ := hk i x hx
  rw [Nat.zero_add]
  exact ⟨(ho.cellAt _ (by omega)).trans h0, (ho.cellAt _ (by omega)).trans h1, (ho.cellAt _ (by omega)).trans h2, _, _, (ho.cellAt _ (by omega)).trans h3, SRow.own h4⟩

set_option maxHeartbeats 400000 in
theorem toKeptS_any (a : Option Addr) (cap : Nat) (ks : List Kd) (w : World) (hrow : KRow w w.heap.size a ks) (hl : ks.length ≤ 1048576) (hrl : ∀ k ∈ ks, k.refs.length ≤ 1048576) :
    Calls Try.prog 44 #[.slice a ks.length cap] w fun e w' => ∃ g, e = .returned (.slice (some ⟨g, 0, none⟩) ks.length ks.length) ∧ w.heap.size ≤ g ∧ KOwn w' w.heap.size g ks ∧ Below w.heap.size w w' := by
  obtain ⟨i0, hi, hz0, hz1, hz2⟩ := info_parts Try.infoKept
  go_enter Try.func44, Try.ntmps44
  go_wp2_with (at_make; refine wpList_make_full _ rfl _ _ 29 rfl w.heap.size 92 i0 _ 4 Try.underlying29 hi hz0 hz1 .i64 .i64 _ _ ks.length rfl rfl rfl rfl ?c1 ?c2 ?c3 ?_)
  case c1 => rw [hz2]; omega
  case c2 => unfold maxLen; omega
  case c3 => exact Nat.le_refl _
  intro w1 hown hgrow
  have hb1 : Below w.heap.size w w1 := (Below.refl _ _).grown hgrow (Nat.le_refl _) (by simp)
  have hsz1 : w.heap.size < w1.heap.size := (hown.lt _ rfl).2
  generalize (madeCells _ _).toList = ys at hown
  clear hgrow
  go_wp2
  go_loopw [4] (fun i wr => ∃ (k : Nat) (xs : List Value), k ≤ ks.length ∧ i = .int .i64 k ∧ wr.ownsRow w.heap.size 92 4 (.slice (some ⟨w.heap.size, 0, none⟩) ks.length ks.length) ks.length xs ∧ Hid (∀ i, i < k → ∀ x, ks[i]? = some x → KCells wr (w.heap.size + 1) xs i x) ∧ Below w.heap.size w wr) (fun i _ => ks.length - (intOf i).toNat)
  case atStart => exact ⟨0, ys, Nat.zero_le _, rfl, hown, fun i h => by omega, hb1⟩
  case round =>
    obtain ⟨k, xs, hk, rfl, hown, hall, hbel⟩ := hrel
    by_cases hlt : k < ks.length
    · obtain ⟨b, off, ha, hb, hc⟩ := hrow.at hlt
      subst ha
      have hg : ks[k]? = some ks[k] := List.getElem?_eq_getElem hlt
      obtain ⟨c0, c1, c2, ra, rc, c3, hrr⟩ := (hc k _ hg).below hbel hb
      have hrk := hrl _ (List.getElem_mem hlt)
      have hsz := (hown.lt _ rfl).2
      have HO : Hid _ := hown
      have HG : Hid _ := hg
      clear hc hrow hg hown hrl
      generalize ks[k] = x at *
      have hcon := toKept_any x ra rc wr (hrr.mono hbel.size) hrk
      have HC : Hid _ := hcon
      clear hcon hrr
      go_wp2_with fail
      refine Calls.mono HC.out ?_
      rintro e w1 ⟨g, rfl, hro, hb1⟩
      have ho1 := World.ownsRow.kept HO.out (grown_below none hb1) (.inr (by simp [Value.ownBlock]))
      have hxl := ho1.1
      have e0 : w1.cell? ⟨w.heap.size, k * 4, none⟩ = xs[k * 4]? := ho1.cellAt _ (by omega)
      have e1 : w1.cell? ⟨w.heap.size, k * 4 + 1, none⟩ = xs[k * 4 + 1]? := ho1.cellAt _ (by omega)
      have e2 : w1.cell? ⟨w.heap.size, k * 4 + 2, none⟩ = xs[k * 4 + 2]? := ho1.cellAt _ (by omega)
      have e3 : w1.cell? ⟨w.heap.size, k * 4 + 3, none⟩ = xs[k * 4 + 3]? := ho1.cellAt _ (by omega)
      rw [List.getElem?_eq_getElem (by omega)] at e0 e1 e2 e3
      have f := ho1.frozenAt
      go_wp2
      have hB1 := hbel.trans (hb1.mono hbel.size)
      refine ⟨⟨k + 1, ((((xs.set (k * 4) (.string x.sum)).set (k * 4 + 1) (.int .i64 x.born)).set (k * 4 + 2) (.string x.text)).set (k * 4 + 3) (.slice (some ⟨g, 0, none⟩) x.refs.length x.refs.length)), by omega, by go_num, ((((ho1.stored (k * 4) _).1.stored (k * 4 + 1) _).1.stored (k * 4 + 2) _).1.stored (k * 4 + 3) _).1, ?_, ?_⟩, by simp [intOf]; omega⟩
      · have hw : ∀ q c rs, RefsOwn w1 (w.heap.size + 1) q c rs → RefsOwn ((((w1.setCell ⟨w.heap.size, k * 4, none⟩ (Value.string x.sum)).setCell ⟨w.heap.size, k * 4 + 1, none⟩ (Value.int IntKind.i64 x.born)).setCell ⟨w.heap.size, k * 4 + 2, none⟩ (Value.string x.text)).setCell ⟨w.heap.size, k * 4 + 3, none⟩ (Value.slice (some ⟨g, 0, none⟩) x.refs.length x.refs.length)) (w.heap.size + 1) q c rs :=
          fun q c rs h => ownsRow_setCell_below (ownsRow_setCell_below (ownsRow_setCell_below (ownsRow_setCell_below h (by simp) _) (by simp) _) (by simp) _) (by simp) _
        intro i hi y hy
        rcases Nat.lt_or_ge i k with h' | h'
        · exact ((hall i h' y hy).keep hb1).set4 h' _ _ _ _ hw
        · obtain rfl : i = k := by omega
          rw [HG.out] at hy
          cases hy
          exact KCells.new4 x (by omega) (hw _ _ _ (World.ownsRow.mono hro (by omega)))
      · exact (((hB1.setCell (by simp) _).setCell (by simp) _).setCell (by simp) _).setCell (by simp) _
    · go_wp2
      go_ret
      exact ⟨_, rfl, Nat.le_refl _, ⟨xs, hown, fun i x hx => hall i (by have := (List.getElem?_eq_some_iff.1 hx).1; omega) x hx⟩, hbel⟩

theorem Try.infoPin : (Try.prog.info? 67).map (fun i => (i.zero, i.size, i.bytes)) = some (some (.agg #[.string ⟨#[]⟩, .string ⟨#[]⟩]), 2, 32) := by kernel_rfl

set_option maxHeartbeats 400000 in
theorem toPin_any (x : Pd) (w : World) :
    Calls Try.prog 85 #[.agg #[.string x.name, .string x.sum]] w fun e w' => e = .returned (.agg #[.string x.name, .string x.sum]) ∧ Below w.heap.size w w' := by
  go_enter Try.func85, Try.ntmps85
  go_wp2
  refine bodyPost_ret (v := .agg #[.string x.name, .string x.sum]) (by simp [results, Try.results85, go_sem]) rfl ⟨rfl, ?_⟩
  exact ((((Below.refl _ _).alloc (Nat.le_refl _) _).alloc (by simp) _).alloc (by simp; omega) _)

/-- A row of the call's own. -/
def POwn (w : World) (lo g : Nat) (ps : List Pd) : Prop :=
  ∃ xs, w.ownsRow lo 67 2 (.slice (some ⟨g, 0, none⟩) ps.length ps.length) ps.length xs ∧ ∀ i x, ps[i]? = some x → xs[i * 2]? = some (.string x.name) ∧ xs[i * 2 + 1]? = some (.string x.sum)

theorem POwn.row {w : World} {lo g : Nat} {ps : List Pd} (h : POwn w lo g ps) : PRow w w.heap.size (some ⟨g, 0, none⟩) ps := by
  obtain ⟨xs, ho, hk⟩ := h
  refine .inr ⟨g, 0, rfl, (ho.lt g rfl).2, fun i x hx => ?_⟩
  have hi := (List.getElem?_eq_some_iff.1 hx).1
  obtain ⟨h0, h1⟩ := hk i x hx
  rw [Nat.zero_add]
  exact ⟨(ho.cellAt _ (by omega)).trans h0, (ho.cellAt _ (by omega)).trans h1⟩

set_option maxHeartbeats 400000 in
theorem toPinS_any (a : Option Addr) (cap : Nat) (ps : List Pd) (w : World) (hrow : PRow w w.heap.size a ps) (hl : ps.length ≤ 1048576) :
    Calls Try.prog 45 #[.slice a ps.length cap] w fun e w' => ∃ g, e = .returned (.slice (some ⟨g, 0, none⟩) ps.length ps.length) ∧ w.heap.size ≤ g ∧ POwn w' w.heap.size g ps ∧ Below w.heap.size w w' := by
  obtain ⟨i0, hi, hz0, hz1, hz2⟩ := info_parts Try.infoPin
  go_enter Try.func45, Try.ntmps45
  go_wp2_with (at_make; refine wpList_make_full _ rfl _ _ 30 rfl w.heap.size 67 i0 _ 2 Try.underlying30 hi hz0 hz1 .i64 .i64 _ _ ps.length rfl rfl rfl rfl ?c1 ?c2 ?c3 ?_)
  case c1 => rw [hz2]; omega
  case c2 => unfold maxLen; omega
  case c3 => exact Nat.le_refl _
  intro w1 hown hgrow
  have hb1 : Below w.heap.size w w1 := (Below.refl _ _).grown hgrow (Nat.le_refl _) (by simp)
  have hsz1 : w.heap.size < w1.heap.size := (hown.lt _ rfl).2
  generalize (madeCells _ _).toList = ys at hown
  clear hgrow
  go_wp2
  go_loopw [4] (fun i wr => ∃ (k : Nat) (xs : List Value), k ≤ ps.length ∧ i = .int .i64 k ∧ wr.ownsRow w.heap.size 67 2 (.slice (some ⟨w.heap.size, 0, none⟩) ps.length ps.length) ps.length xs ∧ Hid (∀ i, i < k → ∀ x, ps[i]? = some x → xs[i * 2]? = some (.string x.name) ∧ xs[i * 2 + 1]? = some (.string x.sum)) ∧ Below w.heap.size w wr) (fun i _ => ps.length - (intOf i).toNat)
  case atStart => exact ⟨0, ys, Nat.zero_le _, rfl, hown, fun i h => by omega, hb1⟩
  case round =>
    obtain ⟨k, xs, hk, rfl, hown, hall, hbel⟩ := hrel
    by_cases hlt : k < ps.length
    · obtain ⟨b, off, ha, hb, hc⟩ := (hrow.below hbel).at hlt
      subst ha
      have hg : ps[k]? = some ps[k] := List.getElem?_eq_getElem hlt
      obtain ⟨c0, c1⟩ := hc k _ hg
      have hsz := (hown.lt _ rfl).2
      have HO : Hid _ := hown
      have HG : Hid _ := hg
      clear hc hrow hg hown
      generalize ps[k] = x at *
      go_wp2_with fail
      refine (toPin_any x wr).mono ?_
      rintro e w1 ⟨rfl, hb1⟩
      have ho1 := World.ownsRow.kept HO.out (grown_below none hb1) (.inr (by simp [Value.ownBlock]))
      have hxl := ho1.1
      have e0 : w1.cell? ⟨w.heap.size, k * 2, none⟩ = xs[k * 2]? := ho1.cellAt _ (by omega)
      have e1 : w1.cell? ⟨w.heap.size, k * 2 + 1, none⟩ = xs[k * 2 + 1]? := ho1.cellAt _ (by omega)
      rw [List.getElem?_eq_getElem (by omega)] at e0 e1
      have f := ho1.frozenAt
      go_wp2
      have hB1 := hbel.trans (hb1.mono hbel.size)
      refine ⟨⟨k + 1, ((xs.set (k * 2) (.string x.name)).set (k * 2 + 1) (.string x.sum)), by omega, by go_num, ((ho1.stored (k * 2) _).1.stored (k * 2 + 1) _).1, ?_, ((hB1.setCell (by simp) _).setCell (by simp) _)⟩, by simp [intOf]; omega⟩
      intro i hi y hy
      rcases Nat.lt_or_ge i k with h' | h'
      · obtain ⟨q0, q1⟩ := hall i h' y hy
        exact ⟨(by rw [List.getElem?_set_ne (by omega), List.getElem?_set_ne (by omega)]; exact q0), (by rw [List.getElem?_set_ne (by omega), List.getElem?_set_ne (by omega)]; exact q1)⟩
      · obtain rfl : i = k := by omega
        rw [HG.out] at hy
        cases hy
        exact ⟨(by rw [List.getElem?_set_ne (by omega), List.getElem?_set_self (by first | omega | (simp; omega))]), (by rw [List.getElem?_set_self (by first | omega | (simp; omega))])⟩
    · go_wp2
      go_ret
      exact ⟨_, rfl, Nat.le_refl _, ⟨xs, hown, fun i x hx => hall i (by have := (List.getElem?_eq_some_iff.1 hx).1; omega) x hx⟩, hbel⟩

theorem Try.infoLease : (Try.prog.info? 70).map (fun i => (i.zero, i.size, i.bytes)) = some (some (.agg #[.int .i64 0, .string ⟨#[]⟩, .int .i64 0]), 3, 32) := by kernel_rfl

set_option maxHeartbeats 400000 in
theorem toLease_any (x : Ld) (w : World) :
    Calls Try.prog 86 #[.agg #[.int .i64 x.num, .string x.sum, .int .i64 x.til]] w fun e w' => e = .returned (.agg #[.int .i64 x.num, .string x.sum, .int .i64 x.til]) ∧ Below w.heap.size w w' := by
  go_enter Try.func86, Try.ntmps86
  go_wp2
  refine bodyPost_ret (v := .agg #[.int .i64 x.num, .string x.sum, .int .i64 x.til]) (by simp [results, Try.results86, go_sem]) rfl ⟨rfl, ?_⟩
  exact ((((Below.refl _ _).alloc (Nat.le_refl _) _).alloc (by simp) _).alloc (by simp; omega) _)

/-- A row of the call's own. -/
def LOwn (w : World) (lo g : Nat) (ls : List Ld) : Prop :=
  ∃ xs, w.ownsRow lo 70 3 (.slice (some ⟨g, 0, none⟩) ls.length ls.length) ls.length xs ∧ ∀ i x, ls[i]? = some x → xs[i * 3]? = some (.int .i64 x.num) ∧ xs[i * 3 + 1]? = some (.string x.sum) ∧ xs[i * 3 + 2]? = some (.int .i64 x.til)

theorem LOwn.row {w : World} {lo g : Nat} {ls : List Ld} (h : LOwn w lo g ls) : LRow w w.heap.size (some ⟨g, 0, none⟩) ls := by
  obtain ⟨xs, ho, hk⟩ := h
  refine .inr ⟨g, 0, rfl, (ho.lt g rfl).2, fun i x hx => ?_⟩
  have hi := (List.getElem?_eq_some_iff.1 hx).1
  obtain ⟨h0, h1, h2⟩ := hk i x hx
  rw [Nat.zero_add]
  exact ⟨(ho.cellAt _ (by omega)).trans h0, (ho.cellAt _ (by omega)).trans h1, (ho.cellAt _ (by omega)).trans h2⟩

set_option maxHeartbeats 400000 in
theorem toLeaseS_any (a : Option Addr) (cap : Nat) (ls : List Ld) (w : World) (hrow : LRow w w.heap.size a ls) (hl : ls.length ≤ 1048576) :
    Calls Try.prog 46 #[.slice a ls.length cap] w fun e w' => ∃ g, e = .returned (.slice (some ⟨g, 0, none⟩) ls.length ls.length) ∧ w.heap.size ≤ g ∧ LOwn w' w.heap.size g ls ∧ Below w.heap.size w w' := by
  obtain ⟨i0, hi, hz0, hz1, hz2⟩ := info_parts Try.infoLease
  go_enter Try.func46, Try.ntmps46
  go_wp2_with (at_make; refine wpList_make_full _ rfl _ _ 31 rfl w.heap.size 70 i0 _ 3 Try.underlying31 hi hz0 hz1 .i64 .i64 _ _ ls.length rfl rfl rfl rfl ?c1 ?c2 ?c3 ?_)
  case c1 => rw [hz2]; omega
  case c2 => unfold maxLen; omega
  case c3 => exact Nat.le_refl _
  intro w1 hown hgrow
  have hb1 : Below w.heap.size w w1 := (Below.refl _ _).grown hgrow (Nat.le_refl _) (by simp)
  have hsz1 : w.heap.size < w1.heap.size := (hown.lt _ rfl).2
  generalize (madeCells _ _).toList = ys at hown
  clear hgrow
  go_wp2
  go_loopw [4] (fun i wr => ∃ (k : Nat) (xs : List Value), k ≤ ls.length ∧ i = .int .i64 k ∧ wr.ownsRow w.heap.size 70 3 (.slice (some ⟨w.heap.size, 0, none⟩) ls.length ls.length) ls.length xs ∧ Hid (∀ i, i < k → ∀ x, ls[i]? = some x → xs[i * 3]? = some (.int .i64 x.num) ∧ xs[i * 3 + 1]? = some (.string x.sum) ∧ xs[i * 3 + 2]? = some (.int .i64 x.til)) ∧ Below w.heap.size w wr) (fun i _ => ls.length - (intOf i).toNat)
  case atStart => exact ⟨0, ys, Nat.zero_le _, rfl, hown, fun i h => by omega, hb1⟩
  case round =>
    obtain ⟨k, xs, hk, rfl, hown, hall, hbel⟩ := hrel
    by_cases hlt : k < ls.length
    · obtain ⟨b, off, ha, hb, hc⟩ := (hrow.below hbel).at hlt
      subst ha
      have hg : ls[k]? = some ls[k] := List.getElem?_eq_getElem hlt
      obtain ⟨c0, c1, c2⟩ := hc k _ hg
      have hsz := (hown.lt _ rfl).2
      have HO : Hid _ := hown
      have HG : Hid _ := hg
      clear hc hrow hg hown
      generalize ls[k] = x at *
      go_wp2_with fail
      refine (toLease_any x wr).mono ?_
      rintro e w1 ⟨rfl, hb1⟩
      have ho1 := World.ownsRow.kept HO.out (grown_below none hb1) (.inr (by simp [Value.ownBlock]))
      have hxl := ho1.1
      have e0 : w1.cell? ⟨w.heap.size, k * 3, none⟩ = xs[k * 3]? := ho1.cellAt _ (by omega)
      have e1 : w1.cell? ⟨w.heap.size, k * 3 + 1, none⟩ = xs[k * 3 + 1]? := ho1.cellAt _ (by omega)
      have e2 : w1.cell? ⟨w.heap.size, k * 3 + 2, none⟩ = xs[k * 3 + 2]? := ho1.cellAt _ (by omega)
      rw [List.getElem?_eq_getElem (by omega)] at e0 e1 e2
      have f := ho1.frozenAt
      go_wp2
      have hB1 := hbel.trans (hb1.mono hbel.size)
      refine ⟨⟨k + 1, (((xs.set (k * 3) (.int .i64 x.num)).set (k * 3 + 1) (.string x.sum)).set (k * 3 + 2) (.int .i64 x.til)), by omega, by go_num, (((ho1.stored (k * 3) _).1.stored (k * 3 + 1) _).1.stored (k * 3 + 2) _).1, ?_, (((hB1.setCell (by simp) _).setCell (by simp) _).setCell (by simp) _)⟩, by simp [intOf]; omega⟩
      intro i hi y hy
      rcases Nat.lt_or_ge i k with h' | h'
      · obtain ⟨q0, q1, q2⟩ := hall i h' y hy
        exact ⟨(by rw [List.getElem?_set_ne (by omega), List.getElem?_set_ne (by omega), List.getElem?_set_ne (by omega)]; exact q0), (by rw [List.getElem?_set_ne (by omega), List.getElem?_set_ne (by omega), List.getElem?_set_ne (by omega)]; exact q1), (by rw [List.getElem?_set_ne (by omega), List.getElem?_set_ne (by omega), List.getElem?_set_ne (by omega)]; exact q2)⟩
      · obtain rfl : i = k := by omega
        rw [HG.out] at hy
        cases hy
        exact ⟨(by rw [List.getElem?_set_ne (by omega), List.getElem?_set_ne (by omega), List.getElem?_set_self (by first | omega | (simp; omega))]), (by rw [List.getElem?_set_ne (by omega), List.getElem?_set_self (by first | omega | (simp; omega))]), (by rw [List.getElem?_set_self (by first | omega | (simp; omega))])⟩
    · go_wp2
      go_ret
      exact ⟨_, rfl, Nat.le_refl _, ⟨xs, hown, fun i x hx => hall i (by have := (List.getElem?_eq_some_iff.1 hx).1; omega) x hx⟩, hbel⟩

theorem KOwn.keep {w w' : World} {lo g : Nat} {ks : List Kd} (h : KOwn w lo g ks) (hb : Below w.heap.size w w') : KOwn w' lo g ks := by
  obtain ⟨xs, ho, hk⟩ := h
  exact ⟨xs, ho.kept (grown_below none hb) (.inr (by simp [Value.ownBlock])), fun i x hx => (hk i x hx).keep hb⟩

theorem POwn.keep {w w' : World} {lo g : Nat} {ps : List Pd} (h : POwn w lo g ps) (hb : Below w.heap.size w w') : POwn w' lo g ps := by
  obtain ⟨xs, ho, hk⟩ := h
  exact ⟨xs, ho.kept (grown_below none hb) (.inr (by simp [Value.ownBlock])), hk⟩

theorem LOwn.keep {w w' : World} {lo g : Nat} {ls : List Ld} (h : LOwn w lo g ls) (hb : Below w.heap.size w w') : LOwn w' lo g ls := by
  obtain ⟨xs, ho, hk⟩ := h
  exact ⟨xs, ho.kept (grown_below none hb) (.inr (by simp [Value.ownBlock])), hk⟩

theorem KOwn.setCell {w : World} {lo g : Nat} {ks : List Kd} (h : KOwn w lo g ks) {a : Addr} (ha : a.block < lo) (u : Value) : KOwn (w.setCell a u) lo g ks := by
  obtain ⟨xs, ho, hk⟩ := h
  have := (ho.lt g rfl).1
  refine ⟨xs, ownsRow_setCell_below ho ha u, fun i x hx => ?_⟩
  obtain ⟨h0, h1, h2, q, h3, h4⟩ := hk i x hx
  exact ⟨h0, h1, h2, q, h3, ownsRow_setCell_below h4 (by omega) u⟩

theorem POwn.setCell {w : World} {lo g : Nat} {ps : List Pd} (h : POwn w lo g ps) {a : Addr} (ha : a.block < lo) (u : Value) : POwn (w.setCell a u) lo g ps := by
  obtain ⟨xs, ho, hk⟩ := h
  exact ⟨xs, ownsRow_setCell_below ho ha u, hk⟩

theorem LOwn.setCell {w : World} {lo g : Nat} {ls : List Ld} (h : LOwn w lo g ls) {a : Addr} (ha : a.block < lo) (u : Value) : LOwn (w.setCell a u) lo g ls := by
  obtain ⟨xs, ho, hk⟩ := h
  exact ⟨xs, ownsRow_setCell_below ho ha u, hk⟩

theorem KOwn.mono {w : World} {lo lo' g : Nat} {ks : List Kd} (h : KOwn w lo g ks) (hl : lo' ≤ lo) : KOwn w lo' g ks := by
  obtain ⟨xs, ho, hk⟩ := h
  exact ⟨xs, ho.mono hl, hk⟩

theorem POwn.mono {w : World} {lo lo' g : Nat} {ps : List Pd} (h : POwn w lo g ps) (hl : lo' ≤ lo) : POwn w lo' g ps := by
  obtain ⟨xs, ho, hk⟩ := h
  exact ⟨xs, ho.mono hl, hk⟩

theorem LOwn.mono {w : World} {lo lo' g : Nat} {ls : List Ld} (h : LOwn w lo g ls) (hl : lo' ≤ lo) : LOwn w lo' g ls := by
  obtain ⟨xs, ho, hk⟩ := h
  exact ⟨xs, ho.mono hl, hk⟩

/-- A state of the call's own. -/
structure SOwn (w : World) (lo g p l : Nat) (ks : List Kd) (ps : List Pd) (ls : List Ld) : Prop where
  k : KOwn w lo g ks
  p : POwn w lo p ps
  l : LOwn w lo l ls

theorem SOwn.rows {w : World} {lo g p l : Nat} {ks : List Kd} {ps : List Pd} {ls : List Ld} (h : SOwn w lo g p l ks ps ls) : SRows w w.heap.size (some ⟨g, 0, none⟩) (some ⟨p, 0, none⟩) (some ⟨l, 0, none⟩) ks ps ls := ⟨h.k.row, h.p.row, h.l.row⟩

set_option maxHeartbeats 1000000 in
theorem toState_any (wd now given births : Int) (a p l : Option Addr) (ac pc lc : Nat) (ks : List Kd) (ps : List Pd) (ls : List Ld) (w : World) (hrow : SRows w w.heap.size a p l ks ps ls) (hf : SFit ks ps ls) :
    Calls Try.prog 11 #[.agg #[.int .i64 wd, .int .i64 now, .int .i64 given, .int .i64 births, .slice a ks.length ac, .slice p ps.length pc, .slice l ls.length lc]] w fun e w' =>
      ∃ g q r, e = .returned (.agg #[.int .i64 wd, .int .i64 now, .int .i64 given, .int .i64 births, .slice (some ⟨g, 0, none⟩) ks.length ks.length, .slice (some ⟨q, 0, none⟩) ps.length ps.length, .slice (some ⟨r, 0, none⟩) ls.length ls.length]) ∧
      SOwn w' w.heap.size g q r ks ps ls ∧ Below w.heap.size w w' := by
  go_enter Try.func11, Try.ntmps11
  go_wp2_with fail
  have hb0 : ∀ o1 o2 o3, Below w.heap.size w (((w.alloc o1).alloc o2).alloc o3) := fun o1 o2 o3 => (((Below.refl _ _).alloc (Nat.le_refl _) _).alloc (by simp) _).alloc (by simp; omega) _
  refine (toKeptS_any a ac ks _ (hrow.below' (hb0 _ _ _)).k hf.k hf.r).mono ?_
  rintro e w1 ⟨g, rfl, hg, hk1, hb1⟩
  have hB1 := (hb0 _ _ _).trans (hb1.mono (by simp; omega))
  have hz1 := hb1.size
  simp at hz1 hg
  have x5 : w1.cell? ⟨w.heap.size, 5, none⟩ = some (.slice p ps.length pc) := by rw [hb1.cell (p := ⟨w.heap.size, 5, none⟩) (by simp; omega)]; simp [go_sem, go_sem]
  have x6 : w1.cell? ⟨w.heap.size, 6, none⟩ = some (.slice l ls.length lc) := by rw [hb1.cell (p := ⟨w.heap.size, 6, none⟩) (by simp; omega)]; simp [go_sem, go_sem]
  have o0 : w1.cell? ⟨w.heap.size + 1 + 1, 0, none⟩ = some (.int .i64 wd) := by rw [hb1.cell (p := ⟨w.heap.size + 1 + 1, 0, none⟩) (by simp)]; simp [go_sem, go_sem]
  have o1 : w1.cell? ⟨w.heap.size + 1 + 1, 1, none⟩ = some (.int .i64 now) := by rw [hb1.cell (p := ⟨w.heap.size + 1 + 1, 1, none⟩) (by simp)]; simp [go_sem, go_sem]
  have o2 : w1.cell? ⟨w.heap.size + 1 + 1, 2, none⟩ = some (.int .i64 given) := by rw [hb1.cell (p := ⟨w.heap.size + 1 + 1, 2, none⟩) (by simp)]; simp [go_sem, go_sem]
  have o3 : w1.cell? ⟨w.heap.size + 1 + 1, 3, none⟩ = some (.int .i64 births) := by rw [hb1.cell (p := ⟨w.heap.size + 1 + 1, 3, none⟩) (by simp)]; simp [go_sem, go_sem]
  have o4 : w1.cell? ⟨w.heap.size + 1 + 1, 4, none⟩ = some (.slice none 0 0) := by rw [hb1.cell (p := ⟨w.heap.size + 1 + 1, 4, none⟩) (by simp)]; simp [go_sem, go_sem]
  have o5 : w1.cell? ⟨w.heap.size + 1 + 1, 5, none⟩ = some (.slice none 0 0) := by rw [hb1.cell (p := ⟨w.heap.size + 1 + 1, 5, none⟩) (by simp)]; simp [go_sem, go_sem]
  have o6 : w1.cell? ⟨w.heap.size + 1 + 1, 6, none⟩ = some (.slice none 0 0) := by rw [hb1.cell (p := ⟨w.heap.size + 1 + 1, 6, none⟩) (by simp)]; simp [go_sem, go_sem]
  have fo : ∀ j, w1.frozen? ⟨w.heap.size + 1 + 1, j, none⟩ = false := fun j => by rw [hb1.frozen (p := ⟨w.heap.size + 1 + 1, j, none⟩) (by simp)]; simp [go_sem, go_sem]
  have fr : ∀ j, w1.frozen? ⟨w.heap.size + 1, j, none⟩ = false := fun j => by rw [hb1.frozen (p := ⟨w.heap.size + 1, j, none⟩) (by simp)]; simp [go_sem, go_sem]
  have rr : ∀ j, j < 7 → ∃ v, w1.cell? ⟨w.heap.size + 1, j, none⟩ = some v := fun j hj => by
    rw [hb1.cell (p := ⟨w.heap.size + 1, j, none⟩) (by simp)]
    match j, hj with
    | 0, _ | 1, _ | 2, _ | 3, _ | 4, _ | 5, _ | 6, _ => simp [go_sem]
  clear hb1
  obtain ⟨W1, hW1⟩ : ∃ W, W = w1.setCell ⟨w.heap.size + 1 + 1, 4, none⟩ (.slice (some ⟨g, 0, none⟩) ks.length ks.length) := ⟨_, rfl⟩
  have hBW1 : Below w.heap.size w W1 := hW1 ▸ hB1.setCell (by simp; omega) _
  have hk1 : KOwn W1 (w.heap.size + 3) g ks := hW1 ▸ (hk1.mono (by simp)).setCell (by simp) _
  have hzW1 : W1.heap.size = w1.heap.size := by rw [hW1]; simp [go_sem, go_sem]
  have HW1 : Hid _ := hW1
  clear hW1
  go_wp2_with fail
  rw [← HW1.out]
  refine (toPinS_any p pc ps _ (hrow.below' hBW1).p hf.p).mono ?_
  rintro e w2 ⟨q, rfl, hq, hp2, hb2⟩
  have hB2 := hBW1.trans (hb2.mono hBW1.size)
  have hz2 := hb2.size
  have cell2 : ∀ b j, b < w1.heap.size → w2.cell? ⟨b, j, none⟩ = (w1.setCell ⟨w.heap.size + 1 + 1, 4, none⟩ (.slice (some ⟨g, 0, none⟩) ks.length ks.length)).cell? ⟨b, j, none⟩ := fun b j hb => by rw [← HW1.out]; exact hb2.cell (p := ⟨b, j, none⟩) (by simp; omega)
  have froz2 : ∀ b j, b < w1.heap.size → w2.frozen? ⟨b, j, none⟩ = (w1.setCell ⟨w.heap.size + 1 + 1, 4, none⟩ (.slice (some ⟨g, 0, none⟩) ks.length ks.length)).frozen? ⟨b, j, none⟩ := fun b j hb => by rw [← HW1.out]; exact hb2.frozen (p := ⟨b, j, none⟩) (by simp; omega)
  have x6' : w2.cell? ⟨w.heap.size, 6, none⟩ = some (.slice l ls.length lc) := by rw [cell2 _ _ (by omega)]; simp [go_sem, x6]
  have p0 : w2.cell? ⟨w.heap.size + 1 + 1, 0, none⟩ = some (.int .i64 wd) := by rw [cell2 _ _ (by omega)]; simp [go_sem, o0]
  have p1 : w2.cell? ⟨w.heap.size + 1 + 1, 1, none⟩ = some (.int .i64 now) := by rw [cell2 _ _ (by omega)]; simp [go_sem, o1]
  have p2 : w2.cell? ⟨w.heap.size + 1 + 1, 2, none⟩ = some (.int .i64 given) := by rw [cell2 _ _ (by omega)]; simp [go_sem, o2]
  have p3 : w2.cell? ⟨w.heap.size + 1 + 1, 3, none⟩ = some (.int .i64 births) := by rw [cell2 _ _ (by omega)]; simp [go_sem, o3]
  have p4 : w2.cell? ⟨w.heap.size + 1 + 1, 4, none⟩ = some (.slice (some ⟨g, 0, none⟩) ks.length ks.length) := by rw [cell2 _ _ (by omega)]; simp [go_sem, o4]
  have p5 : w2.cell? ⟨w.heap.size + 1 + 1, 5, none⟩ = some (.slice none 0 0) := by rw [cell2 _ _ (by omega)]; simp [go_sem, o5]
  have p6 : w2.cell? ⟨w.heap.size + 1 + 1, 6, none⟩ = some (.slice none 0 0) := by rw [cell2 _ _ (by omega)]; simp [go_sem, o6]
  have fo2 : ∀ j, w2.frozen? ⟨w.heap.size + 1 + 1, j, none⟩ = false := fun j => by rw [froz2 _ _ (by omega)]; simp [go_sem, fo]
  have fr2 : ∀ j, w2.frozen? ⟨w.heap.size + 1, j, none⟩ = false := fun j => by rw [froz2 _ _ (by omega)]; simp [go_sem, fr]
  have rr2 : ∀ j, j < 7 → ∃ v, w2.cell? ⟨w.heap.size + 1, j, none⟩ = some v := fun j hj => by
    obtain ⟨v, hv⟩ := rr j hj
    exact ⟨v, by rw [cell2 _ _ (by omega)]; simp [go_sem, hv]⟩
  replace hk1 := hk1.keep hb2
  clear hb2 cell2 froz2 x5 x6 o0 o1 o2 o3 o4 o5 o6 fo fr rr HW1
  obtain ⟨W2, hW2⟩ : ∃ W, W = w2.setCell ⟨w.heap.size + 1 + 1, 5, none⟩ (.slice (some ⟨q, 0, none⟩) ps.length ps.length) := ⟨_, rfl⟩
  have hBW2 : Below w.heap.size w W2 := hW2 ▸ hB2.setCell (by simp; omega) _
  have hk2 : KOwn W2 (w.heap.size + 3) g ks := hW2 ▸ hk1.setCell (by simp) _
  have hp2 : POwn W2 (w.heap.size + 3) q ps := hW2 ▸ (hp2.mono (by omega)).setCell (by simp) _
  have hzW2 : W2.heap.size = w2.heap.size := by rw [hW2]; simp [go_sem, go_sem]
  have HW2 : Hid _ := hW2
  clear hW2 hk1
  go_wp2_with fail
  rw [← HW2.out]
  refine (toLeaseS_any l lc ls _ (hrow.below' hBW2).l hf.l).mono ?_
  rintro e w3 ⟨r, rfl, hr, hl3, hb3⟩
  have hB3 := hBW2.trans (hb3.mono hBW2.size)
  have hz3 := hb3.size
  have cell2 : ∀ b j, b < w2.heap.size → w3.cell? ⟨b, j, none⟩ = (w2.setCell ⟨w.heap.size + 1 + 1, 5, none⟩ (.slice (some ⟨q, 0, none⟩) ps.length ps.length)).cell? ⟨b, j, none⟩ := fun b j hb => by rw [← HW2.out]; exact hb3.cell (p := ⟨b, j, none⟩) (by simp; omega)
  have froz2 : ∀ b j, b < w2.heap.size → w3.frozen? ⟨b, j, none⟩ = (w2.setCell ⟨w.heap.size + 1 + 1, 5, none⟩ (.slice (some ⟨q, 0, none⟩) ps.length ps.length)).frozen? ⟨b, j, none⟩ := fun b j hb => by rw [← HW2.out]; exact hb3.frozen (p := ⟨b, j, none⟩) (by simp; omega)
  have q0 : w3.cell? ⟨w.heap.size + 1 + 1, 0, none⟩ = some (.int .i64 wd) := by rw [cell2 _ _ (by omega)]; simp [go_sem, p0]
  have q1 : w3.cell? ⟨w.heap.size + 1 + 1, 1, none⟩ = some (.int .i64 now) := by rw [cell2 _ _ (by omega)]; simp [go_sem, p1]
  have q2 : w3.cell? ⟨w.heap.size + 1 + 1, 2, none⟩ = some (.int .i64 given) := by rw [cell2 _ _ (by omega)]; simp [go_sem, p2]
  have q3 : w3.cell? ⟨w.heap.size + 1 + 1, 3, none⟩ = some (.int .i64 births) := by rw [cell2 _ _ (by omega)]; simp [go_sem, p3]
  have q4 : w3.cell? ⟨w.heap.size + 1 + 1, 4, none⟩ = some (.slice (some ⟨g, 0, none⟩) ks.length ks.length) := by rw [cell2 _ _ (by omega)]; simp [go_sem, p4]
  have q5 : w3.cell? ⟨w.heap.size + 1 + 1, 5, none⟩ = some (.slice (some ⟨q, 0, none⟩) ps.length ps.length) := by rw [cell2 _ _ (by omega)]; simp [go_sem, p5]
  have q6 : w3.cell? ⟨w.heap.size + 1 + 1, 6, none⟩ = some (.slice none 0 0) := by rw [cell2 _ _ (by omega)]; simp [go_sem, p6]
  have fo3 : ∀ j, w3.frozen? ⟨w.heap.size + 1 + 1, j, none⟩ = false := fun j => by rw [froz2 _ _ (by omega)]; simp [go_sem, fo2]
  have fr3 : ∀ j, w3.frozen? ⟨w.heap.size + 1, j, none⟩ = false := fun j => by rw [froz2 _ _ (by omega)]; simp [go_sem, fr2]
  have rr3 : ∀ j, j < 7 → ∃ v, w3.cell? ⟨w.heap.size + 1, j, none⟩ = some v := fun j hj => by
    obtain ⟨v, hv⟩ := rr2 j hj
    exact ⟨v, by rw [cell2 _ _ (by omega)]; simp [go_sem, hv]⟩
  obtain ⟨_, r0⟩ := rr3 0 (by omega)
  obtain ⟨_, r1⟩ := rr3 1 (by omega)
  obtain ⟨_, r2⟩ := rr3 2 (by omega)
  obtain ⟨_, r3⟩ := rr3 3 (by omega)
  obtain ⟨_, r4⟩ := rr3 4 (by omega)
  obtain ⟨_, r5⟩ := rr3 5 (by omega)
  obtain ⟨_, r6⟩ := rr3 6 (by omega)
  replace hk2 := hk2.keep hb3
  replace hp2 := hp2.keep hb3
  replace hl3 := hl3.mono (lo' := w.heap.size + 3) (by omega)
  clear hb3 cell2 froz2 x6' p0 p1 p2 p3 p4 p5 p6 fo2 fr2 rr2 rr3 HW2
  go_wp2
  refine bodyPost_ret (v := .agg #[.int .i64 wd, .int .i64 now, .int .i64 given, .int .i64 births, .slice (some ⟨g, 0, none⟩) ks.length ks.length, .slice (some ⟨q, 0, none⟩) ps.length ps.length, .slice (some ⟨r, 0, none⟩) ls.length ls.length]) (by simp [results, Try.results11, go_sem, *]) rfl ⟨g, q, r, rfl, ⟨?_, ?_, ?_⟩, ?_⟩
  · exact ((((((((hk2.setCell (by simp) _).setCell (by simp) _).setCell (by simp) _).setCell (by simp) _).setCell (by simp) _).setCell (by simp) _).setCell (by simp) _).setCell (by simp) _).mono (by omega)
  · exact ((((((((hp2.setCell (by simp) _).setCell (by simp) _).setCell (by simp) _).setCell (by simp) _).setCell (by simp) _).setCell (by simp) _).setCell (by simp) _).setCell (by simp) _).mono (by omega)
  · exact ((((((((hl3.setCell (by simp) _).setCell (by simp) _).setCell (by simp) _).setCell (by simp) _).setCell (by simp) _).setCell (by simp) _).setCell (by simp) _).setCell (by simp) _).mono (by omega)
  · exact ((((((((hB3.setCell (by simp; omega) _).setCell (by simp) _).setCell (by simp) _).setCell (by simp) _).setCell (by simp) _).setCell (by simp) _).setCell (by simp) _).setCell (by simp) _)

end Go.Proofs.Ytbelneejghdmoaa
