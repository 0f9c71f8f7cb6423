/-
  impl's entryReader: what 'entry' reads, step by step.
-/
import Derived.Test.YtdecihmplkgfkaaDoorEntT
namespace Go.Proofs.YtdecihmplkgfkaaDoor
open Go.ChangeShapes Go.WideShapes Go.ChangeAt Go.RowKit

def inK (k : Int) : Bool := decide (1 ≤ k ∧ k ≤ 7)
def uName (k : Int) : Bool := inK k && kName k.toNat
def uSum (k : Int) : Bool := inK k && kSum k.toNat
def uThing (k : Int) : Bool := inK k && kThing k.toNat
def uMost (k : Int) : Int := if inK k = true then kMost k.toNat else 0

theorem partsOf_any (k : Int) (w : World) (hT : Tab w) :
    Calls Tryd.prog 54 #[.int .i64 k] w fun e w' => e = .returned (.tuple #[.agg #[.bool (uName k), .bool (uSum k), .bool (uThing k), .int .i64 (uMost k)], .bool (inK k)]) ∧ Below w.heap.size w w' := by
  by_cases hk : 1 ≤ k ∧ k ≤ 7
  · obtain ⟨m, rfl⟩ : ∃ m : Nat, k = m := ⟨k.toNat, by omega⟩
    have hi : inK (m : Int) = true := decide_eq_true hk
    rw [show uName (m : Int) = kName m by simp [uName, hi], show uSum (m : Int) = kSum m by simp [uSum, hi], show uThing (m : Int) = kThing m by simp [uThing, hi], show uMost (m : Int) = kMost m by simp [uMost, hi], hi]
    exact partsOf_yes m w hT (by omega) (by omega)
  · have hi : inK k = false := decide_eq_false hk
    rw [show uName k = false by simp [uName, hi], show uSum k = false by simp [uSum, hi], show uThing k = false by simp [uThing, hi], show uMost k = 0 by simp [uMost, hi], hi]
    exact partsOf_no k w hk

theorem isWidthE (n : Int) (w : World) :
    Calls Tryd.prog 46 #[.int .i64 n] w fun e w' => e = .returned (.bool (decide (1 ≤ n ∧ n ≤ 8))) ∧ w' = w := by
  by_cases h1 : 1 ≤ n
  · by_cases h2 : n ≤ 8
    · go_enter Tryd.func46, Tryd.ntmps46
      go_wp2
      go_ret
      exact ⟨ret_b (by simp [h1, h2]), rfl⟩
    · have h2' : decide (n ≤ 8) = false := by simpa using h2
      go_enter Tryd.func46, Tryd.ntmps46
      go_wp2
      go_ret
      exact ⟨rfl, rfl⟩
  · have h1' : decide (1 ≤ n) = false := by simpa using h1
    go_enter Tryd.func46, Tryd.ntmps46
    go_wp2
    go_ret
    exact ⟨rfl, rfl⟩

def e_b0 (wd : Int) : Bool := !decide (1 ≤ wd ∧ wd ≤ 8)
def e_t1 (s : ByteArray) (wd : Int) : ByteArray × ByteArray × Bool := takeR s (e_b0 wd) (1 : Nat)
def e_k (s : ByteArray) (wd : Int) : Int := numB (e_t1 s wd).1.data.toList
def e_b2 (s : ByteArray) (wd : Int) : Bool := (e_t1 s wd).2.2 || !inK (e_k s wd)
def e_t2 (s : ByteArray) (wd : Int) : ByteArray × ByteArray × Bool := takeR (e_t1 s wd).2.1 (e_b2 s wd) (4 : Nat)
def e_n (s : ByteArray) (wd : Int) : Int := numB (e_t2 s wd).1.data.toList
def e_t3 (s : ByteArray) (wd : Int) : ByteArray × ByteArray × Bool := takeR (e_t2 s wd).2.1 (e_t2 s wd).2.2 (1 : Nat)
def e_m (s : ByteArray) (wd : Int) : Int := numB (e_t3 s wd).1.data.toList
def e_t4 (s : ByteArray) (wd : Int) : ByteArray × ByteArray × Bool := takeR (e_t3 s wd).2.1 (e_t3 s wd).2.2 (e_m s wd)
def e_t5 (s : ByteArray) (wd : Int) : ByteArray × ByteArray × Bool := if uSum (e_k s wd) = true then takeR (e_t4 s wd).2.1 (e_t4 s wd).2.2 wd else (⟨#[]⟩, (e_t4 s wd).2)
def e_th (s : ByteArray) (wd : Int) : ByteArray × List ByteArray := if uThing (e_k s wd) = true then ((rd (thTk (e_t5 s wd).2.1 (e_t5 s wd).2.2) wd).1, (rd (thTk (e_t5 s wd).2.1 (e_t5 s wd).2.2) wd).2.1) else (⟨#[]⟩, [])
def e_t6 (s : ByteArray) (wd : Int) : ByteArray × Bool := if uThing (e_k s wd) = true then (thRest (e_t5 s wd).2.1 (e_t5 s wd).2.2, thBad (e_t5 s wd).2.1 (e_t5 s wd).2.2 wd) else (e_t5 s wd).2
def e_b8 (s : ByteArray) (wd : Int) : Bool := (e_t6 s wd).2 || !decide ((e_t6 s wd).1.size = 0)
def e_ok (s : ByteArray) (wd : Int) : Bool := okE (e_k s wd) (e_t5 s wd).1 (e_t4 s wd).1 (e_n s wd) (e_th s wd).1 (e_th s wd).2 wd
def e_b9 (s : ByteArray) (wd : Int) : Bool := e_b8 s wd || !e_ok s wd

theorem takeR_bad {rest : ByteArray} {bad : Bool} {n : Int} (h : (takeR rest bad n).2.2 = false) : bad = false := by
  unfold takeR at h
  cases bad
  · rfl
  · simp at h

theorem rd_size (s : ByteArray) (wd : Int) : (rd s wd).1.size ≤ s.size := by
  unfold rd
  split
  · split
    · exact Nat.zero_le _
    · unfold rdN txtI
      split
      · simp; omega
      · exact Nat.zero_le _
  · exact Nat.zero_le _

theorem takeR_size (rest : ByteArray) (bad : Bool) (n : Int) : (takeR rest bad n).1.size ≤ rest.size ∧ (takeR rest bad n).2.1.size ≤ rest.size := by
  unfold takeR
  split
  · exact ⟨Nat.zero_le _, Nat.le_refl _⟩
  · split
    · exact ⟨Nat.zero_le _, Nat.le_refl _⟩
    · simp; omega

/-- The reader at work: its cells, the errors, what has turned since w, the result's box. -/
structure EW (w W : World) (b : Nat) (rest : ByteArray) (kind : Int) (bad : Bool) : Prop where
  rs : RSt W b rest kind bad
  env : Env W
  gr : w.grownBy W (some b)
  res : CellsAt W w.heap.size [.int .i64 0, .string ⟨#[]⟩, .string ⟨#[]⟩, .int .i64 0, .string ⟨#[]⟩, .slice none 0 0]

/-- A block lies above the variables. -/
def Above (b : Nat) : Prop := ∀ g ∈ [0, 1, 2, 3, 6, 7, 5, 4], g < b

theorem EW.step {w W W' : World} {b : Nat} {rest rest' : ByteArray} {kind kind' : Int} {bad bad' : Bool} (h : EW w W b rest kind bad) (ha : Above b) (hb : b < w.heap.size) (hr : RSt W' b rest' kind' bad') (hg : W.grownBy W' (some b)) : EW w W' b rest' kind' bad' :=
  ⟨hr, h.env.but hg ha, h.gr.trans hg, h.res.far hg hb⟩

theorem EW.below {w W W' : World} {b : Nat} {rest : ByteArray} {kind : Int} {bad : Bool} (h : EW w W b rest kind bad) (hb : Below W.heap.size W W') : EW w W' b rest kind bad :=
  ⟨h.rs.below hb, h.env.below hb, h.gr.trans (grown_below _ hb), h.res.below hb⟩

theorem EW.set {w W : World} {b : Nat} {rest : ByteArray} {kind : Int} {bad : Bool} (h : EW w W b rest kind bad) (ha : Above b) (hb : b < w.heap.size) (B j : Nat) (v : Value) (hB : w.heap.size < B) : EW w (W.setCell ⟨B, j, none⟩ v) b rest kind bad :=
  ⟨h.rs.far (rd_grown W B j v) (by omega), h.env.but (rd_grown W B j v) (fun g hg => by have := ha g hg; omega), h.gr.andThen (rd_grown W B j v) (fun j' e => by cases e; exact .inl (by omega)), h.res.far' (rd_grown W B j v) (by omega)⟩

theorem e_m_nonneg (s : ByteArray) (wd : Int) : 0 ≤ e_m s wd := (numB_range _).1

theorem e_t4_bad {s : ByteArray} {wd : Int} (h : (e_t4 s wd).2.2 = false) : 0 ≤ wd := by
  have h3 := takeR_bad h
  have h2 := takeR_bad h3
  have h1 := takeR_bad h2
  unfold e_b2 at h1
  have h0 := takeR_bad (Bool.or_eq_false_iff.1 h1).1
  unfold e_b0 at h0
  simp at h0
  omega

theorem e_sizes {s : ByteArray} {wd : Int} (hs : s.size ≤ 1048576) : (e_t4 s wd).1.size ≤ 1048576 ∧ (e_t5 s wd).2.1.size ≤ 1048576 ∧ (e_th s wd).1.size ≤ 1048576 ∧ (e_t6 s wd).1.size ≤ 1048576 := by
  have h1 := takeR_size s (e_b0 wd) (1 : Nat)
  have h2 := takeR_size (e_t1 s wd).2.1 (e_b2 s wd) (4 : Nat)
  have h3 := takeR_size (e_t2 s wd).2.1 (e_t2 s wd).2.2 (1 : Nat)
  have h4 := takeR_size (e_t3 s wd).2.1 (e_t3 s wd).2.2 (e_m s wd)
  have h5 := takeR_size (e_t4 s wd).2.1 (e_t4 s wd).2.2 wd
  have k1 : (e_t1 s wd).2.1.size ≤ 1048576 := Nat.le_trans h1.2 hs
  have k2 : (e_t2 s wd).2.1.size ≤ 1048576 := Nat.le_trans h2.2 k1
  have k3 : (e_t3 s wd).2.1.size ≤ 1048576 := Nat.le_trans h3.2 k2
  have k4 : (e_t4 s wd).2.1.size ≤ 1048576 := Nat.le_trans h4.2 k3
  have k4' : (e_t4 s wd).1.size ≤ 1048576 := Nat.le_trans h4.1 k3
  have k5 : (e_t5 s wd).2.1.size ≤ 1048576 := by
    unfold e_t5
    split
    · exact Nat.le_trans h5.2 k4
    · exact k4
  refine ⟨k4', k5, ?_, ?_⟩
  · unfold e_th
    split
    · exact Nat.le_trans (rd_size _ _) (thTk_le k5)
    · exact Nat.zero_le _
  · unfold e_t6
    split
    · exact Nat.le_trans (takeR_size _ _ _).2 k5
    · exact k5

theorem e_th_len (s : ByteArray) (wd : Int) : (e_th s wd).2.length ≤ 255 := by
  unfold e_th
  split
  · exact rd_le _ _
  · exact Nat.zero_le _

theorem EW.lt {w W : World} {b : Nat} {rest : ByteArray} {kind : Int} {bad : Bool} (h : EW w W b rest kind bad) : w.heap.size < W.heap.size := h.res.lt

end Go.Proofs.YtdecihmplkgfkaaDoor
