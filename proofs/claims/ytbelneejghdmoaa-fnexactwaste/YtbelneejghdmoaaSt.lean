/-
  States: the words.
-/
import Derived.Test.YtbelneejghdmoaaForm
import Derived.Test.YtbelneejghdmoaaSum
import Derived.Test.YtbelneejghdmoaaName
namespace Go.Proofs.Ytbelneejghdmoaa
open Go.ChangeShapes Go.WideShapes Go.ChangeAt Go.RowKit

/-- A thing that is there. -/
structure Kd where
  sum : ByteArray
  born : Int
  text : ByteArray
  refs : List ByteArray

/-- A pin. -/
structure Pd where
  name : ByteArray
  sum : ByteArray

/-- A lease. -/
structure Ld where
  num : Int
  sum : ByteArray
  til : Int

/-- The cells of one thing. -/
def KAt (w : World) (B : Nat) (b o : Nat) (k : Kd) : Prop :=
  w.cell? ⟨b, o, none⟩ = some (.string k.sum) ∧ w.cell? ⟨b, o + 1, none⟩ = some (.int .i64 k.born) ∧ w.cell? ⟨b, o + 2, none⟩ = some (.string k.text) ∧
    ∃ ra rc, w.cell? ⟨b, o + 3, none⟩ = some (.slice ra k.refs.length rc) ∧ SRow w B ra k.refs

/-- A slice's address leads to the things ks, in a block below B. -/
def KRow (w : World) (B : Nat) (a : Option Addr) (ks : List Kd) : Prop :=
  ks = [] ∨ ∃ b off, a = some ⟨b, off, none⟩ ∧ b < B ∧ ∀ i k, ks[i]? = some k → KAt w B b (off + i * 4) k

def PRow (w : World) (B : Nat) (a : Option Addr) (ps : List Pd) : Prop :=
  ps = [] ∨ ∃ b off, a = some ⟨b, off, none⟩ ∧ b < B ∧ ∀ i p, ps[i]? = some p → w.cell? ⟨b, off + i * 2, none⟩ = some (.string p.name) ∧ w.cell? ⟨b, off + i * 2 + 1, none⟩ = some (.string p.sum)

def LRow (w : World) (B : Nat) (a : Option Addr) (ls : List Ld) : Prop :=
  ls = [] ∨ ∃ b off, a = some ⟨b, off, none⟩ ∧ b < B ∧ ∀ i l, ls[i]? = some l → w.cell? ⟨b, off + i * 3, none⟩ = some (.int .i64 l.num) ∧ w.cell? ⟨b, off + i * 3 + 1, none⟩ = some (.string l.sum) ∧ w.cell? ⟨b, off + i * 3 + 2, none⟩ = some (.int .i64 l.til)

theorem KAt.below {w w' : World} {B b o : Nat} {k : Kd} (h : KAt w B b o k) (hb : Below B w w') (hlt : b < B) : KAt w' B b o k := by
  obtain ⟨h1, h2, h3, ra, rc, h4, h5⟩ := h
  exact ⟨(hb.cell (p := ⟨b, o, none⟩) hlt).trans h1, (hb.cell (p := ⟨b, o + 1, none⟩) hlt).trans h2, (hb.cell (p := ⟨b, o + 2, none⟩) hlt).trans h3, ra, rc, (hb.cell (p := ⟨b, o + 3, none⟩) hlt).trans h4, h5.below hb⟩

theorem KAt.mono {w : World} {B B' b o : Nat} {k : Kd} (h : KAt w B b o k) (hb : B ≤ B') : KAt w B' b o k := by
  obtain ⟨h1, h2, h3, ra, rc, h4, h5⟩ := h
  exact ⟨h1, h2, h3, ra, rc, h4, h5.mono hb⟩

theorem KRow.below {w w' : World} {B : Nat} {a : Option Addr} {ks : List Kd} (h : KRow w B a ks) (hb : Below B w w') : KRow w' B a ks := by
  rcases h with h | ⟨b, off, ha, hlt, hc⟩
  · exact .inl h
  · exact .inr ⟨b, off, ha, hlt, fun i k hk => (hc i k hk).below hb hlt⟩

theorem KRow.mono {w : World} {B B' : Nat} {a : Option Addr} {ks : List Kd} (h : KRow w B a ks) (hb : B ≤ B') : KRow w B' a ks := by
  rcases h with h | ⟨b, off, ha, hlt, hc⟩
  · exact .inl h
  · exact .inr ⟨b, off, ha, by omega, fun i k hk => (hc i k hk).mono hb⟩

theorem KRow.at {w : World} {B : Nat} {a : Option Addr} {ks : List Kd} (h : KRow w B a ks) {i : Nat} (hi : i < ks.length) :
    ∃ b off, a = some ⟨b, off, none⟩ ∧ b < B ∧ ∀ i k, ks[i]? = some k → KAt w B b (off + i * 4) k := by
  rcases h with h | h
  · subst h; simp at hi
  · exact h

theorem PRow.below {w w' : World} {B : Nat} {a : Option Addr} {ps : List Pd} (h : PRow w B a ps) (hb : Below B w w') : PRow w' B a ps := by
  rcases h with h | ⟨b, off, ha, hlt, hc⟩
  · exact .inl h
  · exact .inr ⟨b, off, ha, hlt, fun i k hk => ⟨(hb.cell (p := ⟨b, off + i * 2, none⟩) hlt).trans (hc i k hk).1, (hb.cell (p := ⟨b, off + i * 2 + 1, none⟩) hlt).trans (hc i k hk).2⟩⟩

theorem PRow.mono {w : World} {B B' : Nat} {a : Option Addr} {ps : List Pd} (h : PRow w B a ps) (hb : B ≤ B') : PRow w B' a ps := by
  rcases h with h | ⟨b, off, ha, hlt, hc⟩
  · exact .inl h
  · exact .inr ⟨b, off, ha, by omega, hc⟩

theorem PRow.at {w : World} {B : Nat} {a : Option Addr} {ps : List Pd} (h : PRow w B a ps) {i : Nat} (hi : i < ps.length) :
    ∃ b off, a = some ⟨b, off, none⟩ ∧ b < B ∧ ∀ i p, ps[i]? = some p → w.cell? ⟨b, off + i * 2, none⟩ = some (.string p.name) ∧ w.cell? ⟨b, off + i * 2 + 1, none⟩ = some (.string p.sum) := by
  rcases h with h | h
  · subst h; simp at hi
  · exact h

theorem LRow.below {w w' : World} {B : Nat} {a : Option Addr} {ls : List Ld} (h : LRow w B a ls) (hb : Below B w w') : LRow w' B a ls := by
  rcases h with h | ⟨b, off, ha, hlt, hc⟩
  · exact .inl h
  · exact .inr ⟨b, off, ha, hlt, fun i k hk => ⟨(hb.cell (p := ⟨b, off + i * 3, none⟩) hlt).trans (hc i k hk).1, (hb.cell (p := ⟨b, off + i * 3 + 1, none⟩) hlt).trans (hc i k hk).2.1, (hb.cell (p := ⟨b, off + i * 3 + 2, none⟩) hlt).trans (hc i k hk).2.2⟩⟩

theorem LRow.mono {w : World} {B B' : Nat} {a : Option Addr} {ls : List Ld} (h : LRow w B a ls) (hb : B ≤ B') : LRow w B' a ls := by
  rcases h with h | ⟨b, off, ha, hlt, hc⟩
  · exact .inl h
  · exact .inr ⟨b, off, ha, by omega, hc⟩

theorem LRow.at {w : World} {B : Nat} {a : Option Addr} {ls : List Ld} (h : LRow w B a ls) {i : Nat} (hi : i < ls.length) :
    ∃ b off, a = some ⟨b, off, none⟩ ∧ b < B ∧ ∀ i l, ls[i]? = some l → w.cell? ⟨b, off + i * 3, none⟩ = some (.int .i64 l.num) ∧ w.cell? ⟨b, off + i * 3 + 1, none⟩ = some (.string l.sum) ∧ w.cell? ⟨b, off + i * 3 + 2, none⟩ = some (.int .i64 l.til) := by
  rcases h with h | h
  · subst h; simp at hi
  · exact h

/-- Sizes that a machine can hold, and what the law lets through. -/
structure KFit (ks : List Kd) : Prop where
  len : ks.length ≤ 1048576
  refs : ∀ k ∈ ks, k.refs.length ≤ 1048576
  text : ∀ k ∈ ks, k.text.size ≤ maxLen
  sum : ∀ k ∈ ks, k.sum.size ≤ maxLen

/-! What is valid. -/

def less (a b : ByteArray) : Bool := Op.bytesLess a.toList b.toList

def sumOf (k : Kd) (wd : Int) : ByteArray := sumText (formTxt k.text k.refs wd).data.toList wd.toNat

structure NumsOk (wd now given births : Int) : Prop where
  wd1 : 1 ≤ wd
  wd2 : wd ≤ 8
  now1 : 0 ≤ now
  now2 : now ≤ 1000000000
  given1 : 0 ≤ given
  given2 : given ≤ 1000000000
  births1 : 0 ≤ births
  births2 : births ≤ 1000000000

structure ThAt (wd : Int) (ks : List Kd) (i : Nat) (k : Kd) : Prop where
  ok : okThing k.text k.refs wd = true
  sum : k.sum = sumOf k wd
  up : ∀ j p, i = j + 1 → ks[j]? = some p → less p.sum k.sum = true

structure BornAt (births : Int) (ks : List Kd) (i : Nat) (k : Kd) : Prop where
  lo : 1 ≤ k.born
  hi : k.born ≤ births
  new : ∀ j p, j < i → ks[j]? = some p → p.born ≠ k.born

def There (ks : List Kd) (s : ByteArray) : Prop := ∃ u ∈ ks, u.sum = s

def RefAt (ks : List Kd) (k : Kd) : Prop := ∀ r ∈ k.refs, ∃ u ∈ ks, u.sum = r ∧ u.born < k.born

structure PinAt (ks : List Kd) (ps : List Pd) (i : Nat) (p : Pd) : Prop where
  name : nameOk p.name = true
  up : ∀ j q, i = j + 1 → ps[j]? = some q → less q.name p.name = true
  sum : There ks p.sum

structure LeaseAt (now given : Int) (ks : List Kd) (ls : List Ld) (i : Nat) (l : Ld) : Prop where
  lo : 1 ≤ l.num
  hi : l.num ≤ given
  up : ∀ j q, i = j + 1 → ls[j]? = some q → q.num < l.num
  sum : There ks l.sum
  til1 : now < l.til
  til2 : l.til ≤ now + 100000

structure StateOk (wd now given births : Int) (ks : List Kd) (ps : List Pd) (ls : List Ld) : Prop where
  nums : NumsOk wd now given births
  nth : ks.length ≤ 600
  np : ps.length ≤ 100
  nl : ls.length ≤ 200
  th : ∀ (i : Nat) k, ks[i]? = some k → ThAt wd ks i k
  born : ∀ (i : Nat) k, ks[i]? = some k → BornAt births ks i k
  ref : ∀ (i : Nat) k, ks[i]? = some k → RefAt ks k
  pin : ∀ (i : Nat) p, ps[i]? = some p → PinAt ks ps i p
  lease : ∀ (i : Nat) l, ls[i]? = some l → LeaseAt now given ks ls i l

/-! The first thing with a sum. -/

def findK (ks : List Kd) (s : ByteArray) : Option Kd := ks.find? (fun k => decide (k.sum = s))

theorem findK_there {ks : List Kd} {s : ByteArray} : (findK ks s).isSome = true ↔ There ks s := by
  unfold findK There
  rw [List.find?_isSome]
  simp

theorem findK_mem {ks : List Kd} {s : ByteArray} {u : Kd} (h : findK ks s = some u) : u ∈ ks ∧ u.sum = s := by
  unfold findK at h
  exact ⟨List.mem_of_find?_eq_some h, by simpa using List.find?_some h⟩

end Go.Proofs.Ytbelneejghdmoaa
