/-
  impl's entryReader: fail, take.
-/
import Derived.Test.YtdecihmplkgfkaaDoorEntA
import Derived.Test.YtdecihmplkgfkaaDoorCells
import Derived.Test.YtdecihmplkgfkaaDoorReadS
import Derived.Maps.AppendAt
import Derived.Deep.AppendLies
namespace Go.Proofs.YtdecihmplkgfkaaDoor
open Go.ChangeShapes Go.WideShapes Go.ChangeAt Go.RowKit

/-- An error of the reader's: none, or the address of an entryError. -/
def errV : Option Addr → Value
  | none => .nilIface
  | some q => .iface 67 (.pointer (some q))

/-- The three cells of a reader. -/
structure ERd (w : World) (b : Nat) (rest : ByteArray) (kind : Int) (er : Option Addr) : Prop where
  x0 : w.cell? ⟨b, 0, none⟩ = some (.string rest)
  x1 : w.cell? ⟨b, 1, none⟩ = some (.int .i64 kind)
  x2 : w.cell? ⟨b, 2, none⟩ = some (errV er)
  f0 : w.frozen? ⟨b, 0, none⟩ = false
  f1 : w.frozen? ⟨b, 1, none⟩ = false
  f2 : w.frozen? ⟨b, 2, none⟩ = false

/-- .. and whether it has failed. -/
def RSt (w : World) (b : Nat) (rest : ByteArray) (kind : Int) (bad : Bool) : Prop := ∃ er : Option Addr, er.isSome = bad ∧ ERd w b rest kind er

theorem ERd.lt {w : World} {b : Nat} {rest : ByteArray} {kind : Int} {er : Option Addr} (h : ERd w b rest kind er) : b < w.heap.size := World.block_lt_of_cell? w _ h.x0

theorem ERd.below {w w' : World} {b : Nat} {rest : ByteArray} {kind : Int} {er : Option Addr} (h : ERd w b rest kind er) (hb : Below w.heap.size w w') : ERd w' b rest kind er := by
  have hl := h.lt
  exact ⟨(hb.cell (p := ⟨b, 0, none⟩) hl).trans h.x0, (hb.cell (p := ⟨b, 1, none⟩) hl).trans h.x1, (hb.cell (p := ⟨b, 2, none⟩) hl).trans h.x2, (hb.frozen (p := ⟨b, 0, none⟩) hl).trans h.f0, (hb.frozen (p := ⟨b, 1, none⟩) hl).trans h.f1, (hb.frozen (p := ⟨b, 2, none⟩) hl).trans h.f2⟩

theorem RSt.below {w w' : World} {b : Nat} {rest : ByteArray} {kind : Int} {bad : Bool} (h : RSt w b rest kind bad) (hb : Below w.heap.size w w') : RSt w' b rest kind bad := by
  obtain ⟨er, h1, h2⟩ := h
  exact ⟨er, h1, h2.below hb⟩

theorem fail_any (b : Nat) (rest : ByteArray) (kind : Int) (bad : Bool) (ct : TypeId) (cv : Value) (w : World) (h : RSt w b rest kind bad) :
    Calls Tryd.prog 61 #[.pointer (some ⟨b, 0, none⟩), .iface ct cv] w fun e w' => e = .returned (.tuple #[]) ∧ RSt w' b rest kind true ∧ w.grownBy w' (some b) := by
  obtain ⟨er, rfl, h⟩ := h
  have hl := h.lt
  obtain ⟨x0, x1, x2, f0, f1, f2⟩ := h
  cases er with
  | none =>
    simp only [errV] at x2
    go_enter Tryd.func61, Tryd.ntmps61
    go_wp2
    go_end0
    refine ⟨rfl, ⟨some ⟨w.heap.size, 0, none⟩, rfl, ?_⟩, ?_⟩
    · have hne : b ≠ w.heap.size := by omega
      constructor <;> simp [errV, go_sem, *]
    · exact (rd_grown _ _ _ _).trans (World.grownBy_alloc _ _ _)
  | some q =>
    simp only [errV] at x2
    go_enter Tryd.func61, Tryd.ntmps61
    go_wp2
    go_end0
    exact ⟨rfl, ⟨some q, rfl, ⟨x0, x1, x2, f0, f1, f2⟩⟩, World.grownBy.refl _ _⟩

/-- take: what is taken, what is left, whether it has failed. -/
def takeR (rest : ByteArray) (bad : Bool) (n : Int) : ByteArray × ByteArray × Bool :=
  if bad = true then (⟨#[]⟩, rest, true) else if (rest.size : Int) < n then (⟨#[]⟩, rest, true) else (rest.extract 0 n.toNat, rest.extract n.toNat rest.size, false)

theorem take_any (b : Nat) (rest : ByteArray) (kind : Int) (bad : Bool) (n : Int) (gt : TypeId) (gv : Value) (w : World) (h : RSt w b rest kind bad) (hn : bad = false → 0 ≤ n) (hg : w.cell? ⟨6, 0, none⟩ = some (.iface gt gv)) :
    Calls Tryd.prog 63 #[.pointer (some ⟨b, 0, none⟩), .int .i64 n] w fun e w' => e = .returned (.string (takeR rest bad n).1) ∧ RSt w' b (takeR rest bad n).2.1 kind (takeR rest bad n).2.2 ∧ w.grownBy w' (some b) := by
  have h' := h
  obtain ⟨er, rfl, h⟩ := h
  have hl := h.lt
  obtain ⟨x0, x1, x2, f0, f1, f2⟩ := h
  cases er with
  | none =>
    simp only [errV] at x2
    have hn0 := hn rfl
    by_cases hf : (rest.size : Int) < n
    · rw [show takeR rest (none : Option Addr).isSome n = (⟨#[]⟩, rest, true) by simp [takeR, hf]]
      have d1 : decide ((rest.size : Int) < n) = true := by simpa using hf
      go_enter Tryd.func63, Tryd.ntmps63
      go_wp2_with fail
      refine (fail_any b rest kind false gt gv w h').mono ?_
      rintro e w1 ⟨rfl, h1, g1⟩
      go_wp2
      go_ret
      exact ⟨rfl, h1, g1⟩
    · rw [show takeR rest (none : Option Addr).isSome n = (rest.extract 0 n.toNat, rest.extract n.toNat rest.size, false) by simp [takeR, hf]]
      have d1 : decide ((rest.size : Int) < n) = false := by simpa using hf
      go_enter Tryd.func63, Tryd.ntmps63
      go_wp2
      go_ret
      refine ⟨rfl, ⟨none, rfl, ?_⟩, rd_grown _ _ _ _⟩
      constructor <;> simp [errV, go_sem, *]
  | some q =>
    rw [show takeR rest (some q : Option Addr).isSome n = (⟨#[]⟩, rest, true) by simp [takeR]]
    simp only [errV] at x2
    go_enter Tryd.func63, Tryd.ntmps63
    go_wp2
    go_ret
    exact ⟨rfl, ⟨some q, rfl, ⟨x0, x1, x2, f0, f1, f2⟩⟩, World.grownBy.refl _ _⟩

/-- The number that bytes make, the greatest first. -/
def numB (l : List UInt8) : Int := l.foldl (fun a b => a * 256 + (b.toNat : Int)) 0

theorem numB_snoc (l : List UInt8) (b : UInt8) : numB (l ++ [b]) = numB l * 256 + (b.toNat : Int) := by simp [numB]

theorem numB_go (l : List UInt8) : ∀ a : Int, 0 ≤ a → 0 ≤ l.foldl (fun a b => a * 256 + (b.toNat : Int)) a ∧ l.foldl (fun a b => a * 256 + (b.toNat : Int)) a < (a + 1) * 256 ^ l.length := by
  induction l with
  | nil => intro a ha; simp; omega
  | cons b l ih =>
    intro a ha
    have hb := b.toNat_lt
    obtain ⟨h1, h2⟩ := ih (a * 256 + (b.toNat : Int)) (by omega)
    refine ⟨h1, Int.lt_of_lt_of_le h2 ?_⟩
    rw [List.length_cons, Int.pow_succ, ← Int.mul_assoc, Int.mul_right_comm]
    exact Int.mul_le_mul_of_nonneg_right (by omega) (Int.pow_nonneg (by omega))

theorem numB_range (l : List UInt8) : 0 ≤ numB l ∧ numB l < 256 ^ l.length := by
  have := numB_go l 0 (Int.le_refl _)
  simpa [numB] using this

theorem bits_or8 (a b : Nat) (ha : a < 2 ^ 30) (hb : b < 256) : bits .or .i64 ((a : Int) * 256) (b : Int) = (a : Int) * 256 + b := by
  have e0 : ((a : Int) * 256) = ((a * 256 : Nat) : Int) := by omega
  have e2 : a * 256 ||| b = a * 256 + b := by
    have := Nat.shiftLeft_add_eq_or_of_lt (i := 8) (b := b) (by omega) a
    rw [Nat.shiftLeft_eq, show (2 : Nat) ^ 8 = 256 from rfl] at this
    omega
  have e1 : (BitVec.ofInt 64 ((a : Int) * 256) ||| BitVec.ofInt 64 (b : Int)).toNat = a * 256 + b := by
    rw [e0, BitVec.toNat_or, BitVec.ofInt_natCast, BitVec.ofInt_natCast, BitVec.toNat_ofNat, BitVec.toNat_ofNat, Nat.mod_eq_of_lt (by omega), Nat.mod_eq_of_lt (by omega), e2]
  show IntKind.i64.wrap ((BitVec.ofInt 64 ((a : Int) * 256) ||| BitVec.ofInt 64 (b : Int)).toNat : Int) = _
  rw [e1, wrapI _ (by omega) (by omega)]
  omega

set_option maxHeartbeats 1000000 in
theorem number_any (b : Nat) (rest : ByteArray) (kind : Int) (bad : Bool) (n : Nat) (gt : TypeId) (gv : Value) (w : World) (h : RSt w b rest kind bad) (hn : n ≤ 4) (hg : w.cell? ⟨6, 0, none⟩ = some (.iface gt gv)) :
    Calls Tryd.prog 62 #[.pointer (some ⟨b, 0, none⟩), .int .i64 (n : Int)] w fun e w' => e = .returned (.int .i64 (numB (takeR rest bad n).1.data.toList)) ∧ RSt w' b (takeR rest bad n).2.1 kind (takeR rest bad n).2.2 ∧ w.grownBy w' (some b) := by
  have hsz : (takeR rest bad n).1.size ≤ 4 := by
    unfold takeR
    split
    · exact Nat.zero_le _
    · split
      · exact Nat.zero_le _
      · simp; omega
  go_enter Tryd.func62, Tryd.ntmps62
  go_wp2_with fail
  refine (take_any b rest kind bad n gt gv w h (fun _ => by omega) hg).mono ?_
  rintro e w1 ⟨rfl, h1, g1⟩
  have H1 : Hid _ := And.intro h1 g1
  clear h1 g1 h hg
  obtain ⟨tk, htk⟩ : ∃ tk, tk = (takeR rest bad n).1 := ⟨_, rfl⟩
  rw [← htk] at hsz ⊢
  have HK : Hid _ := htk
  clear htk
  go_wp2
  go_loop [6, 13] (fun x i => ∃ k : Nat, k ≤ tk.size ∧ i = .int .i64 k ∧ x = .int .i64 (numB (tk.data.toList.take k))) (fun _ i => tk.size - (intOf i).toNat)
  case atStart => exact ⟨0, Nat.zero_le _, rfl, rfl⟩
  case round =>
    obtain ⟨k, hk, rfl, rfl⟩ := hrel
    by_cases hlt : k < tk.size
    · have hx := numB_range (tk.data.toList.take k)
      have hstep : numB (tk.data.toList.take (k + 1)) = numB (tk.data.toList.take k) * 256 + (tk[k].toNat : Int) := by
        rw [← numB_snoc, List.take_succ_eq_append_getElem (by simpa using hlt)]
        rfl
      have hpw : numB (tk.data.toList.take k) < 16777216 := by
        have h2 := hx.2
        have hle : (tk.data.toList.take k).length = 0 ∨ (tk.data.toList.take k).length = 1 ∨ (tk.data.toList.take k).length = 2 ∨ (tk.data.toList.take k).length = 3 := by simp; omega
        rcases hle with hl | hl | hl | hl <;> rw [hl] at h2 <;> simp at h2 <;> omega
      obtain ⟨X, hX⟩ : ∃ X : Nat, numB (tk.data.toList.take k) = (X : Int) := ⟨_, (Int.toNat_of_nonneg hx.1).symm⟩
      have hob := bits_or8 X tk[k].toNat (by omega) tk[k].toNat_lt
      rw [hX] at hstep ⊢
      have hw1 : IntKind.i64.wrap ((X : Int) * 256) = (X : Int) * 256 := wrapI _ (by omega) (by omega)
      clear hx
      go_wp2
      exact ⟨⟨k + 1, by omega, by go_num, by rw [hstep, wrap64_byte, hob]⟩, by simp [intOf]; omega⟩
    · obtain rfl : k = tk.size := by omega
      have hall : tk.data.toList.take tk.size = tk.data.toList := List.take_of_length_le (by simp)
      rw [hall]
      go_wp2
      go_ret
      exact ⟨by rw [← HK.out]; rfl, H1.out⟩

end Go.Proofs.YtdecihmplkgfkaaDoor
