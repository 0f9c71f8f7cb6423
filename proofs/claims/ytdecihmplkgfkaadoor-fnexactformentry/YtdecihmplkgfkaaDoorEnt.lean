/-
  Entries: what is valid, on both sides.
-/
import Derived.Test.YtdecihmplkgfkaaDoorForm
import Derived.Test.YtdecihmplkgfkaaDoorName
namespace Go.Proofs.YtdecihmplkgfkaaDoor
open Go.ChangeShapes Go.WideShapes Go.ChangeAt Go.RowKit

/-! What a kind uses. -/
def kSum (k : Nat) : Bool := k == 2 || k == 4 || k == 7
def kName (k : Nat) : Bool := k == 2 || k == 3
def kThing (k : Nat) : Bool := k == 1
def kMost (k : Nat) : Int := if k = 1 ∨ k = 4 ∨ k = 6 then 100000 else if k = 5 then 1000000000 else 0

def sumOk (u : Bool) (s : ByteArray) (wd : Int) : Bool := if u then decide ((s.size : Int) = wd) else decide (s.size = 0)
def nmOk (u : Bool) (s : ByteArray) : Bool := if u then nameOk s else decide (s.size = 0)
def numOk (m n : Int) : Bool := if m = 0 then decide (n = 0) else decide (1 ≤ n ∧ n ≤ m)
def thOk (u : Bool) (t : ByteArray) (ss : List ByteArray) (wd : Int) : Bool := if u then okThing t ss wd else decide (t.size = 0 ∧ ss.length = 0)

theorem isE {s : ByteArray} : s.toList.isEmpty = decide (s.size = 0) := by
  have : s.toList.length = s.size := by rw [ByteArray.toList_eq]; simp
  rw [← this]
  cases s.toList <;> simp

theorem sumFits_any (s : ByteArray) (a b c : Bool) (m wd : Int) (w : World) :
    Calls Tryd.prog 55 #[.string s, .agg #[.bool a, .bool b, .bool c, .int .i64 m], .int .i64 wd] w fun e w' => e = .returned (.bool (sumOk b s wd)) ∧ Below w.heap.size w w' := by
  cases b with
  | true =>
    go_enter Tryd.func55, Tryd.ntmps55
    go_wp2
    go_ret
    exact ⟨ret_b rfl, (Below.refl _ _).alloc (Nat.le_refl _) _⟩
  | false =>
    have he := isE (s := s)
    have HE : Hid _ := he
    clear he
    go_enter Tryd.func55, Tryd.ntmps55
    go_wp2
    go_ret
    exact ⟨ret_b HE.out, (Below.refl _ _).alloc (Nat.le_refl _) _⟩

theorem nameFits_any (s : ByteArray) (a b c : Bool) (m : Int) (w : World) (hs : s.size ≤ maxLen) :
    Calls Tryd.prog 56 #[.string s, .agg #[.bool a, .bool b, .bool c, .int .i64 m]] w fun e w' => e = .returned (.bool (nmOk a s)) ∧ Below w.heap.size w w' := by
  cases a with
  | true =>
    go_enter Tryd.func56, Tryd.ntmps56
    go_wp2_with fail
    refine (iName_any s _ hs).mono ?_
    rintro e w1 ⟨rfl, rfl⟩
    go_wp2
    go_ret
    exact ⟨ret_b rfl, (Below.refl _ _).alloc (Nat.le_refl _) _⟩
  | false =>
    have HE : Hid _ := isE (s := s)
    go_enter Tryd.func56, Tryd.ntmps56
    go_wp2
    go_ret
    exact ⟨ret_b HE.out, (Below.refl _ _).alloc (Nat.le_refl _) _⟩

theorem numFits_any (n : Int) (a b c : Bool) (m : Int) (w : World) :
    Calls Tryd.prog 57 #[.int .i64 n, .agg #[.bool a, .bool b, .bool c, .int .i64 m]] w fun e w' => e = .returned (.bool (numOk m n)) ∧ Below w.heap.size w w' := by
  by_cases hm : m = 0
  · subst hm
    go_enter Tryd.func57, Tryd.ntmps57
    go_wp2
    go_ret
    exact ⟨ret_b (by unfold numOk; rw [if_pos rfl]; rfl), (Below.refl _ _).alloc (Nat.le_refl _) _⟩
  · have hm' : (m == 0) = false := by simpa using hm
    have HM : Hid _ := hm
    clear hm
    by_cases h1 : 1 ≤ n
    · go_enter Tryd.func57, Tryd.ntmps57
      go_wp2
      go_ret
      exact ⟨ret_b (by unfold numOk; rw [if_neg HM.out]; simp [h1]), (Below.refl _ _).alloc (Nat.le_refl _) _⟩
    · have h1' : decide (1 ≤ n) = false := by simpa using h1
      go_enter Tryd.func57, Tryd.ntmps57
      go_wp2
      go_ret
      exact ⟨ret_b (by unfold numOk; rw [if_neg HM.out, decide_eq_false (by omega)]), (Below.refl _ _).alloc (Nat.le_refl _) _⟩

set_option maxHeartbeats 400000 in
theorem thingFits_any (t : ByteArray) (ad : Option Addr) (cap : Nat) (ss : List ByteArray) (a b c : Bool) (m wd : Int) (w : World) (hrow : SRow w w.heap.size ad ss) (hl : ss.length ≤ 1048576) (ht : t.size ≤ maxLen) :
    Calls Tryd.prog 58 #[.agg #[.string t, .slice ad ss.length cap], .agg #[.bool a, .bool b, .bool c, .int .i64 m], .int .i64 wd] w fun e w' => e = .returned (.bool (thOk c t ss wd)) ∧ Below w.heap.size w w' := by
  have hb0 : Below w.heap.size w ((w.alloc (.cells #[.string t, .slice ad ss.length cap] 29)).alloc (.cells #[.bool a, .bool b, .bool c, .int .i64 m] 89)) := ((Below.refl _ _).alloc (Nat.le_refl _) _).alloc (by simp) _
  cases c with
  | true =>
    go_enter Tryd.func58, Tryd.ntmps58
    go_wp2_with fail
    refine (ivalidThing_any t ad cap ss wd _ (hrow.below' hb0) hl ht).mono ?_
    rintro e w1 ⟨rfl, rfl⟩
    go_wp2
    go_ret
    exact ⟨ret_b rfl, hb0.alloc (by simp; omega) _⟩
  | false =>
    by_cases h1 : t.size = 0
    · have he : t.toList.isEmpty = true := by rw [isE]; simpa using h1
      have HE : Hid _ := h1
      clear h1
      go_enter Tryd.func58, Tryd.ntmps58
      go_wp2
      go_ret
      refine ⟨ret_b ?_, hb0⟩
      unfold thOk
      rw [if_neg (by decide)]
      have h0 := HE.out
      by_cases hs0 : ss.length = 0
      · rw [decide_eq_true ⟨h0, hs0⟩]
        simp [hs0]
      · rw [decide_eq_false (fun h => hs0 h.2)]
        simp
        intro h
        exact hs0 (by rw [h]; rfl)
    · have he : t.toList.isEmpty = false := by rw [isE]; simpa using h1
      have HE : Hid _ := h1
      clear h1
      go_enter Tryd.func58, Tryd.ntmps58
      go_wp2
      go_ret
      refine ⟨ret_b ?_, hb0⟩
      unfold thOk
      rw [if_neg (by decide), decide_eq_false (fun h => HE.out h.1)]

/-- The table of kinds lies as it was laid. -/
def Tab (w : World) : Prop := ∀ k, 1 ≤ k → k ≤ 7 → w.cell? ⟨5, k * 4, none⟩ = some (.bool (kName k)) ∧ w.cell? ⟨5, k * 4 + 1, none⟩ = some (.bool (kSum k)) ∧ w.cell? ⟨5, k * 4 + 2, none⟩ = some (.bool (kThing k)) ∧ w.cell? ⟨5, k * 4 + 3, none⟩ = some (.int .i64 (kMost k))

theorem Tab.below {w w' : World} (h : Tab w) (hb : Below w.heap.size w w') : Tab w' := by
  intro k h1 h2
  obtain ⟨a, b, c, d⟩ := h k h1 h2
  have hlt : 5 < w.heap.size := World.block_lt_of_cell? w _ a
  exact ⟨(hb.cell (p := ⟨5, k * 4, none⟩) hlt).trans a, (hb.cell (p := ⟨5, k * 4 + 1, none⟩) hlt).trans b, (hb.cell (p := ⟨5, k * 4 + 2, none⟩) hlt).trans c, (hb.cell (p := ⟨5, k * 4 + 3, none⟩) hlt).trans d⟩

set_option maxHeartbeats 400000 in
theorem partsOf_yes (k : Nat) (w : World) (hT : Tab w) (h1 : 1 ≤ k) (h2 : k ≤ 7) :
    Calls Tryd.prog 54 #[.int .i64 k] w fun e w' => e = .returned (.tuple #[.agg #[.bool (kName k), .bool (kSum k), .bool (kThing k), .int .i64 (kMost k)], .bool true]) ∧ Below w.heap.size w w' := by
  obtain ⟨c0, c1, c2, c3⟩ := hT k h1 h2
  have hlt : 5 < w.heap.size := World.block_lt_of_cell? w _ c0
  have e1 : decide ((k : Int) < 1) = false := by simp; omega
  have e2 : decide ((7 : Int) < k) = false := by simp; omega
  have e3 : (k : Int) < 8 := by omega
  go_enter Tryd.func54, Tryd.ntmps54
  go_wp2
  exact bodyPost_ret (v := .tuple #[.agg #[.bool (kName k), .bool (kSum k), .bool (kThing k), .int .i64 (kMost k)], .bool true]) (by simp [results, Tryd.results54, go_sem]) rfl ⟨rfl, (Below.refl _ _).alloc (Nat.le_refl _) _⟩

theorem partsOf_no (k : Int) (w : World) (h : ¬ (1 ≤ k ∧ k ≤ 7)) :
    Calls Tryd.prog 54 #[.int .i64 k] w fun e w' => e = .returned (.tuple #[.agg #[.bool false, .bool false, .bool false, .int .i64 0], .bool false]) ∧ Below w.heap.size w w' := by
  by_cases h1 : k < 1
  · have e1 : decide (k < 1) = true := by simpa using h1
    go_enter Tryd.func54, Tryd.ntmps54
    go_wp2
    exact bodyPost_ret (v := .tuple #[.agg #[.bool false, .bool false, .bool false, .int .i64 0], .bool false]) (by simp [results, Tryd.results54, go_sem]) rfl ⟨rfl, (Below.refl _ _).alloc (Nat.le_refl _) _⟩
  · have e1 : decide (k < 1) = false := by simpa using h1
    have e2 : decide (7 < k) = true := by simp; omega
    go_enter Tryd.func54, Tryd.ntmps54
    go_wp2
    exact bodyPost_ret (v := .tuple #[.agg #[.bool false, .bool false, .bool false, .int .i64 0], .bool false]) (by simp [results, Tryd.results54, go_sem]) rfl ⟨rfl, (Below.refl _ _).alloc (Nat.le_refl _) _⟩

/-- An entry of kind k (1 to 7) is valid for a width. -/
def entOk (k : Nat) (sum name : ByteArray) (n : Int) (t : ByteArray) (ss : List ByteArray) (wd : Int) : Bool :=
  decide (1 ≤ wd ∧ wd ≤ 8) && (sumOk (kSum k) sum wd && (nmOk (kName k) name && (numOk (kMost k) n && thOk (kThing k) t ss wd)))

end Go.Proofs.YtdecihmplkgfkaaDoor
