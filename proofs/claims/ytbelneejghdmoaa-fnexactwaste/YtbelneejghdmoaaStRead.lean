/-
  A state that is handed in, read.
-/
import Derived.Test.YtbelneejghdmoaaRead
import Derived.Test.YtbelneejghdmoaaStSz
import Derived.Deep.Slices
namespace Go.Proofs.Ytbelneejghdmoaa
open Go.ChangeShapes Go.WideShapes Go.ChangeAt Go.RowKit Go.Deep

theorem cIntS : Try.prog.cellsOf 3 = 1 := by kernel_rfl
theorem cSliceS : Try.prog.cellsOf 38 = 1 := by kernel_rfl
theorem cThingS : Try.prog.cellsOf 107 = 2 := by kernel_rfl
theorem cKept : Try.prog.cellsOf 109 = 4 := by kernel_rfl
theorem cPin : Try.prog.cellsOf 111 = 2 := by kernel_rfl
theorem cLease : Try.prog.cellsOf 113 = 3 := by kernel_rfl
theorem cState : Try.prog.cellsOf 26 = 7 := by kernel_rfl
theorem cKs : Try.prog.cellsOf 22 = 1 := by kernel_rfl
theorem cPs : Try.prog.cellsOf 23 = 1 := by kernel_rfl
theorem cLs : Try.prog.cellsOf 24 = 1 := by kernel_rfl

section
variable {H : Type} {enc : TypeId × Value → H} {W : World} {base : Nat} {spare : Nat → Bool} {held : Bool} {fuel : Nat} {y : DataW H × List MemPlace}

theorem read_intw {v : Value} (h : DataW.trod enc Try.prog W base spare held fuel 3 [v] = some y) : ∃ n, v = .int .i64 n ∧ (Lit.int .i64 n).wf = true := by
  obtain ⟨n, hn, _, hw⟩ := DataW.trod_int Try.underlying3 h
  simp at hn
  exact ⟨n, hn, hw⟩

theorem read_thingS {v0 v1 : Value} (h : DataW.trod enc Try.prog W base spare held fuel 107 [v0, v1] = some y) :
    ∃ t a cap ss, v0 = .string t ∧ t.size ≤ maxLen ∧ v1 = .slice a (List.length ss) cap ∧ SRow W W.heap.size a ss ∧ ss.length ≤ maxLen ∧ ∀ s ∈ ss, ByteArray.size s ≤ maxLen := by
  obtain ⟨y0, y1, n, _, _, h0, h1⟩ := trod_struct2 Try.underlying107 h
  have h0' : DataW.trod enc Try.prog W base spare held n 9 [v0] = some y0 := by simpa [Try.cellsStr] using h0
  have h1' : DataW.trod enc Try.prog W base spare held n 38 [v1] = some y1 := by simpa [cSliceS] using h1
  obtain ⟨t, ht, htl⟩ := read_str h0'
  obtain ⟨a, cap, ss, hv, hr⟩ := read_strs h1'
  exact ⟨t, a, cap, ss, ht, htl, hv, hr⟩

theorem l2of {α : Type} {l : List α} (h : l.length = 2) : ∃ a b, l = [a, b] := by match l, h with | [a, b], _ => exact ⟨a, b, rfl⟩
theorem l3of {α : Type} {l : List α} (h : l.length = 3) : ∃ a b c, l = [a, b, c] := by match l, h with | [a, b, c], _ => exact ⟨a, b, c, rfl⟩
theorem l4of {α : Type} {l : List α} (h : l.length = 4) : ∃ a b c d, l = [a, b, c, d] := by match l, h with | [a, b, c, d], _ => exact ⟨a, b, c, d, rfl⟩
theorem l7of {α : Type} {l : List α} (h : l.length = 7) : ∃ a b c d e f g, l = [a, b, c, d, e, f, g] := by match l, h with | [a, b, c, d, e, f, g], _ => exact ⟨a, b, c, d, e, f, g, rfl⟩

theorem elem_spot {a : Addr} {n : Nat} {cs : List Value} (h : W.cells? base (a.add (0 * n)) n = some cs) (hn : 0 < n) : ∃ b off, a = ⟨b, off, none⟩ ∧ b < W.heap.size := by
  obtain ⟨_, hlen, hc⟩ := World.cells?_some h
  obtain ⟨b, off, spot⟩ := a
  have h0 := hc 0 (by omega)
  rw [List.getElem?_eq_getElem (by omega)] at h0
  have hspot : spot = none := by simpa [Addr.add] using World.cell?_spot h0
  subst hspot
  rw [Go.WideShapes.add_plain, Go.WideShapes.add_plain] at h0
  exact ⟨b, off, rfl, World.block_lt_of_cell? W ⟨b, off + 0 * n + 0, none⟩ h0⟩

/-- The cells of an element, by its place. -/
theorem elem_cells {b off i n : Nat} {cs : List Value} (h : W.cells? base ((⟨b, off, none⟩ : Addr).add (i * n)) n = some cs) : cs.length = n ∧ ∀ j v, cs[j]? = some v → W.cell? ⟨b, off + i * n + j, none⟩ = some v := by
  obtain ⟨_, hlen, hc⟩ := World.cells?_some h
  rw [Go.WideShapes.add_plain] at hc
  refine ⟨hlen, fun j v hj => ?_⟩
  have := hc j (by have := (List.getElem?_eq_some_iff.1 hj).1; omega)
  rw [Go.WideShapes.add_plain] at this
  rw [this, hj]


/-- A row of elements, each read by r. -/
theorem read_row {α : Type} [Inhabited α] {t e : TypeId} {n : Nat} {v : Value} (ht : Try.prog.underlying t = some (.slice e)) (hc : Try.prog.cellsOf e = n) (hn : 0 < n) (Q : Nat → Nat → α → Prop)
    (hr : ∀ (fuel : Nat) (y : DataW H × List MemPlace) (cs : List Value) (b o : Nat), DataW.trod enc Try.prog W base spare held fuel e cs = some y → cs.length = n → (∀ j v, cs[j]? = some v → W.cell? ⟨b, o + j, none⟩ = some v) → ∃ x, Q b o x)
    (h : DataW.trod enc Try.prog W base spare held fuel t [v] = some y) :
    ∃ a cap, ∃ xs : List α, v = .slice a xs.length cap ∧ xs.length ≤ maxLen ∧ (xs = [] ∨ ∃ b off, a = some ⟨b, off, none⟩ ∧ b < W.heap.size ∧ ∀ (i : Nat) x, xs[i]? = some x → Q b (off + i * n) x) := by
  rcases open_slice ht h with ⟨hcs, _⟩ | ⟨a, len, cap, m, fu, D, Pl, hcs, _, hl, hm, hmm, _, hx⟩
  · simp at hcs
    subst hcs
    exact ⟨none, 0, [], rfl, by simp [maxLen], .inl rfl⟩
  · simp at hcs
    subst hcs
    have hle : len ≤ m := by rw [hmm]; split <;> omega
    rw [hc] at hx
    by_cases h0 : len = 0
    · subst h0
      exact ⟨some a, cap, [], rfl, by simp [maxLen], .inl rfl⟩
    · obtain ⟨cs0, hc0, _⟩ := hx 0 (by omega)
      obtain ⟨b, off, rfl, hb⟩ := elem_spot hc0 hn
      obtain ⟨F, hF⟩ := choose_lt (α := α) (n := len) (p := fun i x => Q b (off + i * n) x) (fun i hi => by
        obtain ⟨cs', h1, h2⟩ := hx i (by omega)
        obtain ⟨h3, h4⟩ := elem_cells h1
        exact hr _ _ cs' b (off + i * n) h2 h3 h4)
      refine ⟨some ⟨b, off, none⟩, cap, (List.range len).map F, by simp, by simp; omega, .inr ⟨b, off, rfl, hb, fun i x hi => ?_⟩⟩
      rw [List.getElem?_map] at hi
      cases hri : (List.range len)[i]? with
      | none => rw [hri] at hi; cases hi
      | some k =>
        rw [hri] at hi
        cases hi
        obtain ⟨hlt, hk⟩ := List.getElem?_eq_some_iff.1 hri
        simp at hlt hk
        subst hk
        exact hF i hlt

def QK (W : World) (b o : Nat) (k : Kd) : Prop := KAt W W.heap.size b o k ∧ k.sum.size ≤ maxLen ∧ k.text.size ≤ maxLen ∧ k.refs.length ≤ maxLen ∧ (∀ s ∈ k.refs, s.size ≤ maxLen) ∧ (Lit.int .i64 k.born).wf = true

theorem read_kept {cs : List Value} {b o : Nat} (h : DataW.trod enc Try.prog W base spare held fuel 109 cs = some y) (hl : cs.length = 4) (hc : ∀ j v, cs[j]? = some v → W.cell? ⟨b, o + j, none⟩ = some v) : ∃ k, QK W b o k := by
  obtain ⟨c0, c1, c2, c3, rfl⟩ := l4of hl
  obtain ⟨xs, n0, _, _, _, hlen, hfl⟩ := DataW.trod_struct Try.underlying109 h
  obtain ⟨x0, x1, x2, rfl⟩ := l3of (l := xs) hlen
  have f0 : DataW.trod enc Try.prog W base spare held n0 9 [c0] = some x0 := by simpa [Try.cellsStr] using hfl 0 _ rfl
  have f1 : DataW.trod enc Try.prog W base spare held n0 3 [c1] = some x1 := by simpa [cIntS] using hfl 1 _ rfl
  have f2 : DataW.trod enc Try.prog W base spare held n0 107 [c2, c3] = some x2 := by simpa [cThingS] using hfl 2 _ rfl
  obtain ⟨sum, rfl, hs⟩ := read_str f0
  obtain ⟨bo, rfl, hw⟩ := read_intw f1
  obtain ⟨t, ra, rc, ss, rfl, ht, rfl, hr, hrl, hss⟩ := read_thingS f2
  exact ⟨⟨sum, bo, t, ss⟩, ⟨hc 0 _ rfl, hc 1 _ rfl, hc 2 _ rfl, ra, rc, hc 3 _ rfl, hr⟩, hs, ht, hrl, hss, hw⟩

def QP (W : World) (b o : Nat) (p : Pd) : Prop := (W.cell? ⟨b, o, none⟩ = some (.string p.name) ∧ W.cell? ⟨b, o + 1, none⟩ = some (.string p.sum)) ∧ p.name.size ≤ maxLen ∧ p.sum.size ≤ maxLen

theorem read_pin {cs : List Value} {b o : Nat} (h : DataW.trod enc Try.prog W base spare held fuel 111 cs = some y) (hl : cs.length = 2) (hc : ∀ j v, cs[j]? = some v → W.cell? ⟨b, o + j, none⟩ = some v) : ∃ p, QP W b o p := by
  obtain ⟨c0, c1, rfl⟩ := l2of hl
  obtain ⟨xs, n0, _, _, _, hlen, hfl⟩ := DataW.trod_struct Try.underlying111 h
  obtain ⟨x0, x1, rfl⟩ := l2of (l := xs) hlen
  have f0 : DataW.trod enc Try.prog W base spare held n0 9 [c0] = some x0 := by simpa [Try.cellsStr] using hfl 0 _ rfl
  have f1 : DataW.trod enc Try.prog W base spare held n0 9 [c1] = some x1 := by simpa [Try.cellsStr] using hfl 1 _ rfl
  obtain ⟨nm, rfl, hn⟩ := read_str f0
  obtain ⟨sum, rfl, hs⟩ := read_str f1
  exact ⟨⟨nm, sum⟩, ⟨hc 0 _ rfl, hc 1 _ rfl⟩, hn, hs⟩

def QL (W : World) (b o : Nat) (l : Ld) : Prop := (W.cell? ⟨b, o, none⟩ = some (.int .i64 l.num) ∧ W.cell? ⟨b, o + 1, none⟩ = some (.string l.sum) ∧ W.cell? ⟨b, o + 2, none⟩ = some (.int .i64 l.til)) ∧ l.sum.size ≤ maxLen

theorem read_lease {cs : List Value} {b o : Nat} (h : DataW.trod enc Try.prog W base spare held fuel 113 cs = some y) (hl : cs.length = 3) (hc : ∀ j v, cs[j]? = some v → W.cell? ⟨b, o + j, none⟩ = some v) : ∃ l, QL W b o l := by
  obtain ⟨c0, c1, c2, rfl⟩ := l3of hl
  obtain ⟨xs, n0, _, _, _, hlen, hfl⟩ := DataW.trod_struct Try.underlying113 h
  obtain ⟨x0, x1, x2, rfl⟩ := l3of (l := xs) hlen
  have f0 : DataW.trod enc Try.prog W base spare held n0 3 [c0] = some x0 := by simpa [cIntS] using hfl 0 _ rfl
  have f1 : DataW.trod enc Try.prog W base spare held n0 9 [c1] = some x1 := by simpa [Try.cellsStr] using hfl 1 _ rfl
  have f2 : DataW.trod enc Try.prog W base spare held n0 3 [c2] = some x2 := by simpa [cIntS] using hfl 2 _ rfl
  obtain ⟨nu, rfl, _⟩ := read_intw f0
  obtain ⟨sum, rfl, hs⟩ := read_str f1
  obtain ⟨ti, rfl, _⟩ := read_intw f2
  exact ⟨⟨nu, sum, ti⟩, ⟨hc 0 _ rfl, hc 1 _ rfl, hc 2 _ rfl⟩, hs⟩

theorem rows_all {α : Type} {xs : List α} {b off n : Nat} {Q : Nat → Nat → α → Prop} {R : α → Prop} (h : ∀ (i : Nat) x, xs[i]? = some x → Q b (off + i * n) x) (hq : ∀ b o x, Q b o x → R x) : ∀ x ∈ xs, R x := fun x hx => by
  obtain ⟨i, hi⟩ := List.getElem?_of_mem hx
  exact hq _ _ _ (h i x hi)

theorem read_kepts {v : Value} (h : DataW.trod enc Try.prog W base spare held fuel 22 [v] = some y) : ∃ a cap ks, v = .slice a (List.length ks) cap ∧ KRow W W.heap.size a ks ∧ KMem ks ∧ ∀ k ∈ ks, (Lit.int .i64 (Kd.born k)).wf = true := by
  haveI : Inhabited Kd := ⟨⟨ByteArray.empty, 0, ByteArray.empty, []⟩⟩
  obtain ⟨a, cap, ks, rfl, hl, hr⟩ := read_row Try.underlying22 cKept (by omega) (QK W) (fun _ _ _ _ _ h1 h2 h3 => read_kept h1 h2 h3) h
  rcases hr with rfl | ⟨b, off, rfl, hb, hq⟩
  · exact ⟨a, cap, [], rfl, .inl rfl, ⟨hl, by simp, by simp, by simp, by simp⟩, by simp⟩
  · refine ⟨_, cap, ks, rfl, .inr ⟨b, off, rfl, hb, fun i k hk => (hq i k hk).1⟩, ⟨hl, rows_all hq (fun _ _ _ q => q.2.1), rows_all hq (fun _ _ _ q => q.2.2.1), rows_all hq (fun _ _ _ q => q.2.2.2.1), rows_all hq (fun _ _ _ q => q.2.2.2.2.1)⟩, rows_all hq (fun _ _ _ q => q.2.2.2.2.2)⟩

theorem read_pins {v : Value} (h : DataW.trod enc Try.prog W base spare held fuel 23 [v] = some y) : ∃ a cap ps, v = .slice a (List.length ps) cap ∧ PRow W W.heap.size a ps ∧ PMem ps := by
  haveI : Inhabited Pd := ⟨⟨ByteArray.empty, ByteArray.empty⟩⟩
  obtain ⟨a, cap, ps, rfl, hl, hr⟩ := read_row Try.underlying23 cPin (by omega) (QP W) (fun _ _ _ _ _ h1 h2 h3 => read_pin h1 h2 h3) h
  rcases hr with rfl | ⟨b, off, rfl, hb, hq⟩
  · exact ⟨a, cap, [], rfl, .inl rfl, ⟨hl, by simp, by simp⟩⟩
  · exact ⟨_, cap, ps, rfl, .inr ⟨b, off, rfl, hb, fun i k hk => (hq i k hk).1⟩, ⟨hl, rows_all hq (fun _ _ _ q => q.2.1), rows_all hq (fun _ _ _ q => q.2.2)⟩⟩

theorem read_leases {v : Value} (h : DataW.trod enc Try.prog W base spare held fuel 24 [v] = some y) : ∃ a cap ls, v = .slice a (List.length ls) cap ∧ LRow W W.heap.size a ls ∧ LMem ls := by
  haveI : Inhabited Ld := ⟨⟨0, ByteArray.empty, 0⟩⟩
  obtain ⟨a, cap, ls, rfl, hl, hr⟩ := read_row Try.underlying24 cLease (by omega) (QL W) (fun _ _ _ _ _ h1 h2 h3 => read_lease h1 h2 h3) h
  rcases hr with rfl | ⟨b, off, rfl, hb, hq⟩
  · exact ⟨a, cap, [], rfl, .inl rfl, ⟨hl, by simp⟩⟩
  · exact ⟨_, cap, ls, rfl, .inr ⟨b, off, rfl, hb, fun i k hk => (hq i k hk).1⟩, ⟨hl, rows_all hq (fun _ _ _ q => q.2)⟩⟩

/-- A state's value. -/
def stV (wd now given births : Int) (a : Option Addr) (n ac : Nat) (p : Option Addr) (m pc : Nat) (l : Option Addr) (q lc : Nat) : Value := .agg #[.int .i64 wd, .int .i64 now, .int .i64 given, .int .i64 births, .slice a n ac, .slice p m pc, .slice l q lc]

set_option maxRecDepth 100000 in
theorem read_state {r : Reach} {b0 : Nat} {v : Value} {d : DataW H} {pl : List MemPlace} (hv : Value.okWide Try.prog W r b0 26 v) (h : DataW.Trod enc Try.prog W base spare held 26 v d pl) :
    ∃ wd now given births a ac p pc l lc ks ps ls, v = stV wd now given births a (List.length ks) ac p (List.length ps) pc l (List.length ls) lc ∧ SRows W W.heap.size a p l ks ps ls ∧ KMem ks ∧ PMem ps ∧ LMem ls ∧ ∀ k ∈ ks, (Lit.int .i64 (Kd.born k)).wf = true := by
  obtain ⟨cs, rfl, hsz⟩ := okWide_struct Try.underlying26 hv
  obtain ⟨fuel, hf⟩ := h
  obtain ⟨xs, n0, _, _, _, hlen, hfl⟩ := DataW.trod_struct Try.underlying26 hf
  obtain ⟨c0, c1, c2, c3, c4, c5, c6, hcs⟩ := l7of (l := cs.toList) (by rw [Array.length_toList, hsz, cState])
  obtain ⟨x0, x1, x2, x3, x4, x5, x6, rfl⟩ := l7of (l := xs) hlen
  have hcells : (Value.agg cs).cells.toList = [c0, c1, c2, c3, c4, c5, c6] := by rw [← hcs]; rfl
  have f0 : DataW.trod enc Try.prog W base spare held n0 3 [c0] = some x0 := by simpa [hcells, cIntS] using hfl 0 _ rfl
  have f1 : DataW.trod enc Try.prog W base spare held n0 3 [c1] = some x1 := by simpa [hcells, cIntS] using hfl 1 _ rfl
  have f2 : DataW.trod enc Try.prog W base spare held n0 3 [c2] = some x2 := by simpa [hcells, cIntS] using hfl 2 _ rfl
  have f3 : DataW.trod enc Try.prog W base spare held n0 3 [c3] = some x3 := by simpa [hcells, cIntS] using hfl 3 _ rfl
  have f4 : DataW.trod enc Try.prog W base spare held n0 22 [c4] = some x4 := by simpa [hcells, cKs] using hfl 4 _ rfl
  have f5 : DataW.trod enc Try.prog W base spare held n0 23 [c5] = some x5 := by simpa [hcells, cPs] using hfl 5 _ rfl
  have f6 : DataW.trod enc Try.prog W base spare held n0 24 [c6] = some x6 := by simpa [hcells, cLs] using hfl 6 _ rfl
  obtain ⟨wd, rfl, _⟩ := read_intw f0
  obtain ⟨now, rfl, _⟩ := read_intw f1
  obtain ⟨given, rfl, _⟩ := read_intw f2
  obtain ⟨births, rfl, _⟩ := read_intw f3
  obtain ⟨a, ac, ks, rfl, hk, hkm, hkb⟩ := read_kepts f4
  obtain ⟨p, pc, ps, rfl, hp, hpm⟩ := read_pins f5
  obtain ⟨l, lc, ls, rfl, hl, hlm⟩ := read_leases f6
  refine ⟨wd, now, given, births, a, ac, p, pc, l, lc, ks, ps, ls, ?_, ⟨hk, hp, hl⟩, hkm, hpm, hlm, hkb⟩
  unfold stV
  congr 1
  apply Array.toList_inj.1
  rw [hcs]

end
end Go.Proofs.Ytbelneejghdmoaa
