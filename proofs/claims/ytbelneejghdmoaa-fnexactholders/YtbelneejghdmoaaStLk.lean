/-
  Maps of rows of keys: m[key] = append(m[key], key'); impl.linksDown, linksUp.
-/
import Derived.Test.YtbelneejghdmoaaStRt
import Derived.Test.YtbelneejghdmoaaStCm
import Derived.Test.YtbelneejghdmoaaCells
import Derived.Deep.RegionLaw
namespace Go.Proofs.Ytbelneejghdmoaa
open Go.ChangeShapes Go.WideShapes Go.ChangeAt Go.RowKit

theorem KMap.block {w w' : World} {K : TypeId} {b n : Nat} {f : Lit → Option Value} (h : KMap w K b n f) (hb : w'.heap[b]? = w.heap[b]?) : KMap w' K b n f := by
  obtain ⟨D, ⟨es, clock, h1, h2⟩, h3⟩ := h
  exact ⟨D, ⟨es, clock, hb.trans h1, h2⟩, h3⟩

section
open Go.WideElems Go.MapKept Go.ChangeMaps

theorem setB_grown (W : World) (b : Nat) (o : Obj) : W.grownBy (setBlock W b o) (some b) :=
  ⟨rfl, rfl, rfl, by simp [setBlock], fun k hk hne => by
    have : b ≠ k := fun e => hne (by rw [e])
    simp [setBlock, this]⟩

/-- m[key] is opened for a store that comes later, in whatever world that still holds the map so. -/
theorem KMap.entry {w : World} {K t e : TypeId} {b n : Nat} {f : Lit → Option Value} (h : KMap w K b n f) (hK : Maps.Keyed Try.prog K) (ht : Try.prog.underlying t = some (.map K e)) (hn : n < maxLen) {z : Value} (hz : ∀ u : World, (zeroValue e).run Try.prog u = .ok z u) {key : Value} {kl : Lit} (hkey : keyOf Try.prog K key = some kl) :
    ∃ st w3, (Instr.mapEntry t (.map (some b)) key).run Try.prog w = .ok (.tuple #[(f kl).getD z, goInt st]) w3 ∧ w.grownBy w3 (some b) ∧
      ∀ W, W.heap[b]? = w3.heap[b]? → ∀ val, ∃ W', (Instr.entryStore t (.map (some b)) (goInt st) val).run Try.prog W = .ok () W' ∧ KMap W' K b (n + 1) (upd f kl val) ∧ W.grownBy W' (some b) := by
  have h0 := h
  obtain ⟨D, ⟨es, clock, hb, F, hs, hD⟩, h2, h3⟩ := h
  obtain ⟨v0, st, w3, he, hl, hu, hst⟩ := entry_all hK ht hz hb F hkey
  have hl' := h0.look hK ht (hz w) hkey
  rw [hl] at hl'
  cases hl'
  obtain ⟨w3', hu3, hm3, hg3⟩ := h0.put hK ht hn hkey (val := (f kl).getD z)
  rw [hu] at hu3
  cases hu3
  refine ⟨st, w3, he, hg3, fun W hW val => ?_⟩
  obtain ⟨w4, hs4, hu4⟩ := hst val
  obtain ⟨w4', hu4', hm4, _⟩ := h0.put hK ht hn hkey (val := val)
  rw [hu4] at hu4'
  cases hu4'
  obtain ⟨D3, ⟨es3, clock3, hb3, _⟩, _⟩ := hm3
  cases hidx : es3.findIdx? (fun e => ((e.born : Nat) : Int) == ((st : Nat) : Int)) with
  | none =>
    exfalso
    simp [Instr.entryStore, MapKept.run_getObj_map hb3, asInt, asIntOf, goInt, hidx, Result.andThen] at hs4
  | some i =>
    have hr3 := store_run (P := Try.prog) (t := t) val hb3 hidx
    rw [hs4] at hr3
    cases hr3
    have hbW : W.heap[b]? = some (.map es3 clock3) := hW.trans hb3
    refine ⟨_, store_run val hbW hidx, hm4.block ?_, setB_grown _ _ _⟩
    rw [heap_setBlock_same hbW, heap_setBlock_same hb3]
end

/-- The elements of a list of pairs that stand behind a text. -/
def linkL (E : List (ByteArray × ByteArray)) (t : ByteArray) : List ByteArray := E.filterMap (fun p => if p.1 = t then some p.2 else none)

theorem linkL_snoc (E : List (ByteArray × ByteArray)) (s r t : ByteArray) : linkL (E ++ [(s, r)]) t = if s = t then linkL E t ++ [r] else linkL E t := by
  unfold linkL
  rw [List.filterMap_append]
  by_cases h : s = t <;> simp [h]

theorem linkL_len (E : List (ByteArray × ByteArray)) (t : ByteArray) : (linkL E t).length ≤ E.length := by
  unfold linkL
  exact List.length_filterMap_le _ _

/-- What the map holds at a text's key: a row. -/
noncomputable def rowV (f : Lit → Option Value) (t : ByteArray) : Value := (f (keyL t)).getD (.slice none 0 0)

/-- Block b is a map of rows of keys, all in blocks from base on, none in a block of av, no two in one. -/
structure Lk (w : World) (base b n : Nat) (wd : Int) (E : List (ByteArray × ByteArray)) (av : List Nat) (f : Lit → Option Value) : Prop where
  map : KMap w 96 b n f
  row : ∀ t : ByteArray, (t.size : Int) = wd → QRow w base (rowV f t) (linkL E t)
  apart : ∀ s t : ByteArray, (s.size : Int) = wd → (t.size : Int) = wd → s ≠ t → ∀ g, sBlk (rowV f s) = some g → sBlk (rowV f t) ≠ some g
  far : ∀ t : ByteArray, (t.size : Int) = wd → ∀ g, sBlk (rowV f t) = some g → g ∉ av

theorem Lk.keep {w w' : World} {base b n : Nat} {wd : Int} {E : List (ByteArray × ByteArray)} {av : List Nat} {f : Lit → Option Value} (h : Lk w base b n wd E av f) (hb : Below w.heap.size w w') : Lk w' base b n wd E av f :=
  ⟨h.map.keep hb h.map.lt, fun t ht => (h.row t ht).below hb, h.apart, h.far⟩

/-- The row's append and the entry's store. -/
theorem Lk.add {wr X : World} {base b n : Nat} {wd : Int} {E : List (ByteArray × ByteArray)} {av : List Nat} {f : Lit → Option Value} (h : Lk wr base b n wd E av f) (hb : b < base) (hbw : base ≤ wr.heap.size) (hav : ∀ q ∈ av, q < wr.heap.size) (hg : wr.grownBy X (some b)) {s r : ByteArray} (hs : (s.size : Int) = wd) (h8 : wd ≤ 8) {T : TypeId} {st : Int}
    (hE : ∀ W, W.heap[b]? = X.heap[b]? → ∀ val, ∃ W', (Instr.entryStore T (.map (some b)) (goInt st) val).run Try.prog W = .ok () W' ∧ KMap W' 96 b (n + 1) (upd f (keyL s) val) ∧ W.grownBy W' (some b))
    {xv : Value} (hx : R8 X X.heap.size xv [r]) (hlen : E.length ≤ 1000000) (ty : TypeId) :
    ∃ v' w4 w5, (Builtin.append_ #[102, 102] ty #[rowV f s, xv]).run Try.prog X = .ok v' w4 ∧ (Instr.entryStore T (.map (some b)) (goInt st) v').run Try.prog w4 = .ok () w5 ∧
      Lk w5 base b (n + 1) wd (E ++ [(s, r)]) av (upd f (keyL s) v') ∧ Below b wr w5 ∧ (∀ q ∈ av, q ≠ b → w5.heap[q]? = wr.heap[q]? ∧ w4.heap[q]? = wr.heap[q]?) ∧ wr.heap.size ≤ w5.heap.size := by
  have hstay : ∀ t : ByteArray, (t.size : Int) = wd → ∀ g, sBlk (rowV f t) = some g → X.heap[g]? = wr.heap[g]? := fun t ht g hgt => by
    have := (h.row t ht).blk hgt
    exact hg.block g this.2 (fun e => by have := Option.some.inj e; omega)
  have hrX : ∀ t : ByteArray, (t.size : Int) = wd → QRow X base (rowV f t) (linkL E t) := fun t ht => (h.row t ht).stays hg.size (hstay t ht)
  have hll := linkL_len E s
  have hzX := hg.size
  obtain ⟨v', w4, hr, hq, hg4, hs4⟩ := qappend X base (rowV f s) (linkL E s) (hrX s hs) xv [r] _ hx (by simp; omega) (by omega) ty
  have hz4 := hg4.size
  have hb4 : w4.heap[b]? = X.heap[b]? := hg4.block b (by omega) (fun e => by have := ((h.row s hs).blk e.symm).1; omega)
  obtain ⟨w5, hr5, hm5, hg5⟩ := hE w4 hb4 v'
  have hz5 := hg5.size
  have hblk' : ∀ g, sBlk v' = some g → (sBlk (rowV f s) = some g ∨ g = X.heap.size) := fun g hg' => by
    rcases hs4 with e | e
    · exact .inl (e ▸ hg')
    · rw [e] at hg'; exact .inr (Option.some.inj hg').symm
  have hsame : rowV (upd f (keyL s) v') s = v' := by unfold rowV; rw [upd_same]; rfl
  have hother : ∀ t : ByteArray, (t.size : Int) = wd → s ≠ t → rowV (upd f (keyL s) v') t = rowV f t := fun t ht hne => by
    unfold rowV
    rw [upd_other]
    intro e
    exact hne (key_inj e.symm (by omega) (by omega))
  refine ⟨v', w4, w5, hr, hr5, ⟨hm5, fun t ht => ?_, fun u t hu ht hne g hgu => ?_, fun t ht g hgt => ?_⟩, ?_, fun q hqa hqb => ?_, by omega⟩
  · rw [linkL_snoc]
    by_cases e : s = t
    · subst e
      rw [if_pos rfl, hsame]
      exact hq.stays hz5 (fun g hgv => by
        have : base ≤ g := (hq.blk hgv).1
        exact hg5.block g (hq.blk hgv).2 (fun e => by have := Option.some.inj e; omega))
    · rw [if_neg e, hother t ht e]
      refine (hrX t ht).stays (by omega) (fun g hgt => ?_)
      have hbk := (h.row t ht).blk hgt
      rw [hg5.block g (by omega) (fun e => by have := Option.some.inj e; omega)]
      exact hg4.block g (by omega) (fun e2 => h.apart s t hs ht e g e2.symm hgt)
  · by_cases eu : s = u
    · subst eu
      rw [hsame] at hgu
      rw [hother t ht hne]
      intro hgt
      rcases hblk' g hgu with h1 | h1
      · exact h.apart s t hs ht hne g h1 hgt
      · have := ((h.row t ht).blk hgt).2; omega
    · rw [hother u hu eu] at hgu
      by_cases et : s = t
      · subst et
        rw [hsame]
        intro hgt
        rcases hblk' g hgt with h1 | h1
        · exact h.apart s u hs hu eu g h1 hgu
        · have := ((h.row u hu).blk hgu).2; omega
      · rw [hother t ht et]
        exact h.apart u t hu ht hne g hgu
  · by_cases et : s = t
    · subst et
      rw [hsame] at hgt
      rcases hblk' g hgt with h1 | h1
      · exact h.far s hs g h1
      · intro hin
        have := hav g hin
        omega
    · rw [hother t ht et] at hgt
      exact h.far t ht g hgt
  · have b1 : Below b wr X := (Below.refl _ _).grown hg (by omega) (fun k e => by cases e; exact Nat.le_refl _)
    have b2 : Below b X w4 := (Below.refl _ _).grown hg4 (by omega) (fun k e => by have := ((h.row s hs).blk e).1; omega)
    have b3 : Below b w4 w5 := (Below.refl _ _).grown hg5 (by omega) (fun k e => by cases e; exact Nat.le_refl _)
    exact (b1.trans b2).trans b3
  · have hq' := hav q hqa
    have e4 : w4.heap[q]? = wr.heap[q]? := by rw [hg4.block q (by omega) (fun e => h.far s hs q e.symm hqa), hg.block q hq' (fun e => hqb (Option.some.inj e))]
    exact ⟨(hg5.block q (by omega) (fun e => hqb (Option.some.inj e))).trans e4, e4⟩

theorem Lk.new {w : World} {base b : Nat} {wd : Int} (hm : KMap w 96 b 0 (fun _ => none)) : Lk w base b 0 wd [] [] (fun _ => none) :=
  ⟨hm, fun _ _ => .inl ⟨rfl, rfl⟩, fun _ _ _ _ _ _ h => (by cases h), fun _ _ _ h => (by cases h)⟩

theorem Lk.avoid {w : World} {base b n : Nat} {wd : Int} {E : List (ByteArray × ByteArray)} {av : List Nat} {f : Lit → Option Value} (h : Lk w base b n wd E av f) (av' : List Nat) (hav : ∀ q ∈ av', w.heap.size ≤ q) : Lk w base b n wd E av' f :=
  ⟨h.map, h.row, h.apart, fun t ht g hg hin => by have := hav g hin; have := ((h.row t ht).blk hg).2; omega⟩

theorem Lk.free {w : World} {base b n : Nat} {wd : Int} {E : List (ByteArray × ByteArray)} {av : List Nat} {f : Lit → Option Value} (h : Lk w base b n wd E av f) : Lk w base b n wd E [] f := ⟨h.map, h.row, h.apart, fun _ _ _ _ hin => by cases hin⟩

end Go.Proofs.Ytbelneejghdmoaa
