import Derived.Test.YthkmpihfhkmaoaaGreatU24
import Derived.Test.YthkmpihfhkmaoaaGreatRows
import Derived.Test.YthkmpihfhkmaoaaGreatU01
import Derived.OpenShut
import Derived.ShutString
import Derived.Lib.SmallJoins
import Derived.Test.YthkmpihfhkmaoaaGreatU03
import Derived.Deep.Slices
/-
  What Unit answers is small; its answers stay where others' blocks turn.
-/
namespace Go.Proofs.YthkmpihfhkmaoaaGreat
open Go.ChangeShapes Go.WideShapes Go.ChangeAt Go.RowKit

theorem addS_len (acc : List ByteArray) (s : ByteArray) : (addS acc s).length ≤ acc.length + 1 := by
  unfold addS
  split
  · omega
  · simp

theorem addS_fold : ∀ (xs acc : List ByteArray), (xs.foldl addS acc).length ≤ acc.length + xs.length
  | [], acc => by simp
  | x :: xs, acc => by
    rw [List.foldl_cons]
    have h1 := addS_fold xs (addS acc x)
    have h2 := addS_len acc x
    simp only [List.length_cons]
    omega

theorem roots_len (ps : List Pd) (ls : List Ld) : (rootsL ps ls).length ≤ ps.length + ls.length := by
  unfold rootsL
  have h1 := addS_fold (ls.map (·.sum)) ((ps.map (·.sum)).foldl addS [])
  have h2 := addS_fold (ps.map (·.sum)) []
  simp only [List.length_map, List.length_nil] at h1 h2
  omega

theorem refsN_le {ks : List Kd} (h : ∀ k ∈ ks, k.refs.length ≤ 30) : refsN ks ≤ 30 * ks.length := by
  induction ks with
  | nil => simp [refsN]
  | cons x xs ih =>
    rw [refsN_cons]
    have h1 := h x (by simp)
    have h2 := ih (fun k hk => h k (by simp [hk]))
    simp only [List.length_cons]
    omega

/-- What a unit comes to is small. -/
structure Small (o : UOut) : Prop where
  ks : o.r.ks.length ≤ 600
  refs : ∀ k ∈ o.r.ks, k.refs.length ≤ 30
  ps : o.ps.length ≤ 100
  ls : o.ls.length ≤ 200
  qs : o.r.qs.length ≤ 24000
  ms : o.r.ms.length ≤ 601
  ds : o.r.ds.length ≤ 1

theorem UnitTo.small {wd now given births ph top at_ ro : Int} {ks : List Kd} {ps : List Pd} {ls : List Ld} {qs ms : List ByteArray} {o : UOut} (h : UnitTo wd now given births ks ps ls ph top at_ ro qs ms o) : Small o := by
  cases h with
  | bad h => exact ⟨by simp, by simp, by simp, by simp, by simp, by simp, by simp⟩
  | good h r hr =>
    have hu := uok_of h.1.1 h.1.2
    have hq := h.1.2.sums.nq
    have hm := h.1.2.sums.nm
    have hsub := hr.sub
    have hpl := hu.pl
    have hll := hu.ll
    have hqs : r.qs.length ≤ 24000 ∧ r.ms.length ≤ 601 ∧ r.ds.length ≤ 1 := by
      cases hr with
      | begin h =>
        have := roots_len ps ls
        exact ⟨by show (rootsL ps ls).length ≤ _; omega, by show ms.length ≤ _; omega, by simp⟩
      | mark h s q0 q1 m1 he hmk =>
        subst he
        simp only [List.length_cons] at hq
        rcases hmk with ⟨_, rfl, rfl⟩ | ⟨k, hk, _, _, rfl, rfl⟩
        · exact ⟨by show q1.length ≤ _; omega, by show m1.length ≤ _; omega, by simp⟩
        · have h1 := (hu.refs k hk).1
          have h2 : (fresh (ms ++ [s]) k.refs).length ≤ k.refs.length := List.length_filter_le _ _
          exact ⟨by show (q0 ++ fresh (ms ++ [s]) k.refs).length ≤ _; rw [List.length_append]; omega, by show (ms ++ [s]).length ≤ _; rw [List.length_append]; simp; omega, by simp⟩
      | rest h hq hn => exact ⟨by simp, by simp, by simp⟩
      | keep h hq u hu hk => exact ⟨by simp, by show ms.length ≤ _; omega, by simp⟩
      | drop h hq u hu hm hk => exact ⟨by simp, by show ms.length ≤ _; omega, by simp⟩
    exact ⟨Nat.le_trans hsub.length_le hu.ok.len, fun k hk => (hu.refs k (hsub.subset hk)).1, hpl, hll, hqs.1, hqs.2.1, hqs.2.2⟩

theorem Small.fit {o : UOut} (h : Small o) : SFit o.r.ks o.ps o.ls ∧ RFit o.r.qs o.r.ms ∧ o.r.ds.length ≤ 1048576 :=
  ⟨⟨by have := h.ks; omega, fun k hk => by have := h.refs k hk; omega, by have := h.ps; omega, by have := h.ls; omega⟩, ⟨by have := h.qs; omega, by have := h.ms; omega⟩, by have := h.ds; omega⟩

theorem Small.count {o : UOut} (h : Small o) : 1 + cntS o.r.ks o.ps o.ls + o.r.qs.length + o.r.ms.length + o.r.ds.length ≤ 100000000 := by
  have h0 := h.ks
  have h1 := refsN_le h.refs
  have h2 := h.ps
  have h3 := h.ls
  have h4 := h.qs
  have h5 := h.ms
  have h6 := h.ds
  unfold cntS
  omega

theorem CAns.same {w w' : World} {base : Nat} {T P L Q M D : Value} {rs : List Value} {ks : List Kd} {ps : List Pd} {ls : List Ld} {qs ms ds : List ByteArray} (h : CAns w base T P L Q M D rs ks ps ls qs ms ds) (hz : w.heap.size ≤ w'.heap.size) (hs : ∀ b, base ≤ b → b < w.heap.size → w'.heap[b]? = w.heap[b]?) : CAns w' base T P L Q M D rs ks ps ls qs ms ds := by
  have ho : ∀ {e : TypeId} {size : Nat} {v : Value} {n : Nat} {xs : List Value}, w.ownsRow base e size v n xs → w'.ownsRow base e size v n xs := fun h => own_same h (fun g hg => hs g (own_lt h hg).1 (own_lt h hg).2)
  have hr : ∀ {v : Value} {ss : List ByteArray}, ORow w base v ss → ORow w' base v ss := fun h => h.stays hz (fun g hg => hs g (h.blk hg).1 (h.blk hg).2)
  exact ⟨⟨h.st.len, ho h.st.things, fun i k r hk hr => ho (h.st.refs i k r hk hr), ho h.st.pins, ho h.st.leases, h.st.nd⟩, hr h.q, hr h.mr, hr h.dd, h.ap, h.apS⟩

theorem CAns.blk {w : World} {base : Nat} {T P L Q M D : Value} {rs : List Value} {ks : List Kd} {ps : List Pd} {ls : List Ld} {qs ms ds : List ByteArray} (h : CAns w base T P L Q M D rs ks ps ls qs ms ds) : ∀ g ∈ cB T P L Q M D rs, base ≤ g ∧ g < w.heap.size := by
  intro g hg
  unfold cB at hg
  rcases List.mem_append.1 hg with hg | hg
  · rcases List.mem_append.1 hg with hg | hg
    · exact ⟨h.st.lo g hg, h.st.lts g hg⟩
    · rcases List.mem_append.1 hg with hg | hg
      · exact h.q.blk (by simpa using hg)
      · exact h.mr.blk (by simpa using hg)
  · exact h.dd.blk (by simpa using hg)

theorem CAns.rdN {w : World} {base : Nat} {T P L Q M D : Value} {rs : List Value} {ks : List Kd} {ps : List Pd} {ls : List Ld} {qs ms ds : List ByteArray} (h : CAns w base T P L Q M D rs ks ps ls qs ms ds) : CRdN base w T P L Q M D ks ps ls qs ms ds := fun V w' hV ht =>
  (h.same ht.size (fun b hb hl => ht.block b hl (fun e => by have := hV b e; omega))).rd

theorem CRd.get {w : World} {ta pa la qa ma da : Option Addr} {tc pc lc qc mc dc : Nat} {ks : List Kd} {ps : List Pd} {ls : List Ld} {qs ms ds : List ByteArray} (h : CRd w (.slice ta ks.length tc) (.slice pa ps.length pc) (.slice la ls.length lc) (.slice qa qs.length qc) (.slice ma ms.length mc) (.slice da ds.length dc) ks ps ls qs ms ds) : SRows w w.heap.size ta pa la ks ps ls ∧ SRow w w.heap.size qa qs ∧ SRow w w.heap.size ma ms ∧ SRow w w.heap.size da ds := by
  obtain ⟨⟨_, _, _, _, _, _, e1, e2, e3, h4⟩, ⟨_, _, e5, h6⟩, ⟨_, _, e7, h8⟩, ⟨_, _, e9, h10⟩⟩ := h
  cases e1
  cases e2
  cases e3
  cases e5
  cases e7
  cases e9
  exact ⟨h4, h6, h8, h10⟩

theorem SOwn.ksome {w : World} {lo g p l : Nat} {ks : List Kd} {ps : List Pd} {ls : List Ld} (h : SOwn w lo g p l ks ps ls) : KSome w ⟨g, 0, none⟩ ks := by
  obtain ⟨xs, ho, hk⟩ := h.k
  intro i x hx
  have hi := (List.getElem?_eq_some_iff.1 hx).1
  obtain ⟨_, _, _, q, h3, _⟩ := hk i x hx
  refine ⟨⟨q, 0, none⟩, x.refs.length, ?_⟩
  rw [← h3, Nat.zero_add]
  exact ho.cellAt (i * 4 + 3) (by omega)

end Go.Proofs.YthkmpihfhkmaoaaGreat

/-
  What the reading of an argument gives to a walk.
-/
namespace Go.Proofs.YthkmpihfhkmaoaaGreat
open Go.ChangeShapes Go.WideShapes Go.ChangeAt Go.RowKit

theorem Tryz.cellsStr : Tryz.prog.cellsOf 9 = 1 := by kernel_rfl

theorem own : ownKnob Tryz.prog.godebug = none := by kernel_rfl

theorem laidOut : laidOutB Tryz.prog = true := by kernel_rfl

/-- A list of strings, read. -/
theorem read_strs {H : Type} {enc : TypeId × Value → H} {W : World} {base : Nat} {spare : Nat → Bool} {held : Bool} {fuel : Nat} {v : Value} {y : DataW H × List MemPlace}
    (h : DataW.trod enc Tryz.prog W base spare held fuel 27 [v] = some y) :
    ∃ a cap ss, v = .slice a (List.length ss) cap ∧ SRow W W.heap.size a ss ∧ ss.length ≤ maxLen ∧ ∀ s ∈ ss, ByteArray.size s ≤ maxLen := by
  rcases open_strings Tryz.underlying27 Tryz.underlying9 Tryz.cellsStr h with ⟨hcs, _⟩ | ⟨a, len, cap, ss, hcs, _, hl, hm, hn, _, hcell, hws⟩
  · simp at hcs
    subst hcs
    exact ⟨none, 0, [], rfl, .inl rfl, by simp [maxLen], fun s hs => by cases hs⟩
  · simp at hcs
    subst hcs
    have hlen : len ≤ ss.length := by rw [hn]; split <;> omega
    have htl : (ss.take len).length = len := by simp; omega
    refine ⟨some a, cap, ss.take len, by rw [htl], ?_, by rw [htl]; omega, fun s hs => hws s (List.mem_of_mem_take hs)⟩
    by_cases h0 : len = 0
    · exact .inl (by simp [h0])
    · obtain ⟨b, off, spot⟩ := a
      have hspot : spot = none := by simpa [Addr.add] using World.cell?_spot (hcell 0 (by omega))
      subst hspot
      have hc : ∀ j, j < ss.length → W.cell? ⟨b, off + j, none⟩ = some (.string (ss.getD j ByteArray.empty)) := fun j hj => by rw [← Go.WideShapes.add_plain]; exact hcell j hj
      refine .inr ⟨b, off, rfl, ?_, fun i s hs => ?_⟩
      · exact World.block_lt_of_cell? W ⟨b, off + 0, none⟩ (hc 0 (by omega))
      · have hi : i < len := by
          have := (List.getElem?_eq_some_iff.1 hs).1
          omega
        rw [List.getElem?_take_of_lt hi] at hs
        rw [hc i (by omega)]
        simp [List.getD, hs]

theorem read_str {H : Type} {enc : TypeId × Value → H} {W : World} {base : Nat} {spare : Nat → Bool} {held : Bool} {fuel : Nat} {v : Value} {y : DataW H × List MemPlace}
    (h : DataW.trod enc Tryz.prog W base spare held fuel 9 [v] = some y) : ∃ s, v = .string s ∧ s.size ≤ maxLen := by
  obtain ⟨s, hs, _, hm⟩ := DataW.trod_string Tryz.underlying9 h
  simp at hs
  exact ⟨s, hs, hm⟩

end Go.Proofs.YthkmpihfhkmaoaaGreat

/-
  A state that is handed in, read.
-/
namespace Go.Proofs.YthkmpihfhkmaoaaGreat
open Go.ChangeShapes Go.WideShapes Go.ChangeAt Go.RowKit Go.Deep

theorem cIntS : Tryz.prog.cellsOf 3 = 1 := by kernel_rfl
theorem cSliceS : Tryz.prog.cellsOf 27 = 1 := by kernel_rfl
theorem cThingS : Tryz.prog.cellsOf 121 = 2 := by kernel_rfl
theorem cKept : Tryz.prog.cellsOf 123 = 4 := by kernel_rfl
theorem cPin : Tryz.prog.cellsOf 125 = 2 := by kernel_rfl
theorem cLease : Tryz.prog.cellsOf 127 = 3 := by kernel_rfl
theorem cState : Tryz.prog.cellsOf 26 = 7 := by kernel_rfl
theorem cKs : Tryz.prog.cellsOf 22 = 1 := by kernel_rfl
theorem cPs : Tryz.prog.cellsOf 23 = 1 := by kernel_rfl
theorem cLs : Tryz.prog.cellsOf 24 = 1 := by kernel_rfl

section
variable {H : Type} {enc : TypeId × Value → H} {W : World} {base : Nat} {spare : Nat → Bool} {held : Bool} {fuel : Nat} {y : DataW H × List MemPlace}

theorem read_intw {v : Value} (h : DataW.trod enc Tryz.prog W base spare held fuel 3 [v] = some y) : ∃ n, v = .int .i64 n ∧ (Lit.int .i64 n).wf = true := by
  obtain ⟨n, hn, _, hw⟩ := DataW.trod_int Tryz.underlying3 h
  simp at hn
  exact ⟨n, hn, hw⟩

theorem read_thingS {v0 v1 : Value} (h : DataW.trod enc Tryz.prog W base spare held fuel 121 [v0, v1] = some y) :
    ∃ t a cap ss, v0 = .string t ∧ t.size ≤ maxLen ∧ v1 = .slice a (List.length ss) cap ∧ SRow W W.heap.size a ss ∧ ss.length ≤ maxLen ∧ ∀ s ∈ ss, ByteArray.size s ≤ maxLen := by
  obtain ⟨y0, y1, n, _, _, h0, h1⟩ := trod_struct2 Tryz.underlying121 h
  have h0' : DataW.trod enc Tryz.prog W base spare held n 9 [v0] = some y0 := by simpa [Tryz.cellsStr] using h0
  have h1' : DataW.trod enc Tryz.prog W base spare held n 27 [v1] = some y1 := by simpa [cSliceS] using h1
  obtain ⟨t, ht, htl⟩ := read_str h0'
  obtain ⟨a, cap, ss, hv, hr⟩ := read_strs h1'
  exact ⟨t, a, cap, ss, ht, htl, hv, hr⟩

theorem l2of {α : Type} {l : List α} (h : l.length = 2) : ∃ a b, l = [a, b] := by match l, h with | [a, b], _ => exact ⟨a, b, rfl⟩
theorem l3of {α : Type} {l : List α} (h : l.length = 3) : ∃ a b c, l = [a, b, c] := by match l, h with | [a, b, c], _ => exact ⟨a, b, c, rfl⟩
theorem l4of {α : Type} {l : List α} (h : l.length = 4) : ∃ a b c d, l = [a, b, c, d] := by match l, h with | [a, b, c, d], _ => exact ⟨a, b, c, d, rfl⟩
theorem l7of {α : Type} {l : List α} (h : l.length = 7) : ∃ a b c d e f g, l = [a, b, c, d, e, f, g] := by match l, h with | [a, b, c, d, e, f, g], _ => exact ⟨a, b, c, d, e, f, g, rfl⟩

theorem elem_spot {a : Addr} {n : Nat} {cs : List Value} (h : W.cells? base (a.add (0 * n)) n = some cs) (hn : 0 < n) : ∃ b off, a = ⟨b, off, none⟩ ∧ b < W.heap.size := by
  obtain ⟨_, hlen, hc⟩ := World.cells?_some h
  obtain ⟨b, off, spot⟩ := a
  have h0 := hc 0 (by omega)
  rw [List.getElem?_eq_getElem (by omega)] at h0
  have hspot : spot = none := by simpa [Addr.add] using World.cell?_spot h0
  subst hspot
  rw [Go.WideShapes.add_plain, Go.WideShapes.add_plain] at h0
  exact ⟨b, off, rfl, World.block_lt_of_cell? W ⟨b, off + 0 * n + 0, none⟩ h0⟩

/-- The cells of an element, by its place. -/
theorem elem_cells {b off i n : Nat} {cs : List Value} (h : W.cells? base ((⟨b, off, none⟩ : Addr).add (i * n)) n = some cs) : cs.length = n ∧ ∀ j v, cs[j]? = some v → W.cell? ⟨b, off + i * n + j, none⟩ = some v := by
  obtain ⟨_, hlen, hc⟩ := World.cells?_some h
  rw [Go.WideShapes.add_plain] at hc
  refine ⟨hlen, fun j v hj => ?_⟩
  have := hc j (by have := (List.getElem?_eq_some_iff.1 hj).1; omega)
  rw [Go.WideShapes.add_plain] at this
  rw [this, hj]


/-- A row of elements, each read by r. -/
theorem read_row {α : Type} [Inhabited α] {t e : TypeId} {n : Nat} {v : Value} (ht : Tryz.prog.underlying t = some (.slice e)) (hc : Tryz.prog.cellsOf e = n) (hn : 0 < n) (Q : Nat → Nat → α → Prop)
    (hr : ∀ (fuel : Nat) (y : DataW H × List MemPlace) (cs : List Value) (b o : Nat), DataW.trod enc Tryz.prog W base spare held fuel e cs = some y → cs.length = n → (∀ j v, cs[j]? = some v → W.cell? ⟨b, o + j, none⟩ = some v) → ∃ x, Q b o x)
    (h : DataW.trod enc Tryz.prog W base spare held fuel t [v] = some y) :
    ∃ a cap, ∃ xs : List α, v = .slice a xs.length cap ∧ xs.length ≤ maxLen ∧ (xs = [] ∨ ∃ b off, a = some ⟨b, off, none⟩ ∧ b < W.heap.size ∧ ∀ (i : Nat) x, xs[i]? = some x → Q b (off + i * n) x) := by
  rcases open_slice ht h with ⟨hcs, _⟩ | ⟨a, len, cap, m, fu, D, Pl, hcs, _, hl, hm, hmm, _, hx⟩
  · simp at hcs
    subst hcs
    exact ⟨none, 0, [], rfl, by simp [maxLen], .inl rfl⟩
  · simp at hcs
    subst hcs
    have hle : len ≤ m := by rw [hmm]; split <;> omega
    rw [hc] at hx
    by_cases h0 : len = 0
    · subst h0
      exact ⟨some a, cap, [], rfl, by simp [maxLen], .inl rfl⟩
    · obtain ⟨cs0, hc0, _⟩ := hx 0 (by omega)
      obtain ⟨b, off, rfl, hb⟩ := elem_spot hc0 hn
      obtain ⟨F, hF⟩ := choose_lt (α := α) (n := len) (p := fun i x => Q b (off + i * n) x) (fun i hi => by
        obtain ⟨cs', h1, h2⟩ := hx i (by omega)
        obtain ⟨h3, h4⟩ := elem_cells h1
        exact hr _ _ cs' b (off + i * n) h2 h3 h4)
      refine ⟨some ⟨b, off, none⟩, cap, (List.range len).map F, by simp, by simp; omega, .inr ⟨b, off, rfl, hb, fun i x hi => ?_⟩⟩
      rw [List.getElem?_map] at hi
      cases hri : (List.range len)[i]? with
      | none => rw [hri] at hi; cases hi
      | some k =>
        rw [hri] at hi
        cases hi
        obtain ⟨hlt, hk⟩ := List.getElem?_eq_some_iff.1 hri
        simp at hlt hk
        subst hk
        exact hF i hlt

def QK (W : World) (b o : Nat) (k : Kd) : Prop := KAt W W.heap.size b o k ∧ k.sum.size ≤ maxLen ∧ k.text.size ≤ maxLen ∧ k.refs.length ≤ maxLen ∧ (∀ s ∈ k.refs, s.size ≤ maxLen) ∧ (Lit.int .i64 k.born).wf = true

theorem read_kept {cs : List Value} {b o : Nat} (h : DataW.trod enc Tryz.prog W base spare held fuel 123 cs = some y) (hl : cs.length = 4) (hc : ∀ j v, cs[j]? = some v → W.cell? ⟨b, o + j, none⟩ = some v) : ∃ k, QK W b o k := by
  obtain ⟨c0, c1, c2, c3, rfl⟩ := l4of hl
  obtain ⟨xs, n0, _, _, _, hlen, hfl⟩ := DataW.trod_struct Tryz.underlying123 h
  obtain ⟨x0, x1, x2, rfl⟩ := l3of (l := xs) hlen
  have f0 : DataW.trod enc Tryz.prog W base spare held n0 9 [c0] = some x0 := by simpa [Tryz.cellsStr] using hfl 0 _ rfl
  have f1 : DataW.trod enc Tryz.prog W base spare held n0 3 [c1] = some x1 := by simpa [cIntS] using hfl 1 _ rfl
  have f2 : DataW.trod enc Tryz.prog W base spare held n0 121 [c2, c3] = some x2 := by simpa [cThingS] using hfl 2 _ rfl
  obtain ⟨sum, rfl, hs⟩ := read_str f0
  obtain ⟨bo, rfl, hw⟩ := read_intw f1
  obtain ⟨t, ra, rc, ss, rfl, ht, rfl, hr, hrl, hss⟩ := read_thingS f2
  exact ⟨⟨sum, bo, t, ss⟩, ⟨hc 0 _ rfl, hc 1 _ rfl, hc 2 _ rfl, ra, rc, hc 3 _ rfl, hr⟩, hs, ht, hrl, hss, hw⟩

def QP (W : World) (b o : Nat) (p : Pd) : Prop := (W.cell? ⟨b, o, none⟩ = some (.string p.name) ∧ W.cell? ⟨b, o + 1, none⟩ = some (.string p.sum)) ∧ p.name.size ≤ maxLen ∧ p.sum.size ≤ maxLen

theorem read_pin {cs : List Value} {b o : Nat} (h : DataW.trod enc Tryz.prog W base spare held fuel 125 cs = some y) (hl : cs.length = 2) (hc : ∀ j v, cs[j]? = some v → W.cell? ⟨b, o + j, none⟩ = some v) : ∃ p, QP W b o p := by
  obtain ⟨c0, c1, rfl⟩ := l2of hl
  obtain ⟨xs, n0, _, _, _, hlen, hfl⟩ := DataW.trod_struct Tryz.underlying125 h
  obtain ⟨x0, x1, rfl⟩ := l2of (l := xs) hlen
  have f0 : DataW.trod enc Tryz.prog W base spare held n0 9 [c0] = some x0 := by simpa [Tryz.cellsStr] using hfl 0 _ rfl
  have f1 : DataW.trod enc Tryz.prog W base spare held n0 9 [c1] = some x1 := by simpa [Tryz.cellsStr] using hfl 1 _ rfl
  obtain ⟨nm, rfl, hn⟩ := read_str f0
  obtain ⟨sum, rfl, hs⟩ := read_str f1
  exact ⟨⟨nm, sum⟩, ⟨hc 0 _ rfl, hc 1 _ rfl⟩, hn, hs⟩

def QL (W : World) (b o : Nat) (l : Ld) : Prop := (W.cell? ⟨b, o, none⟩ = some (.int .i64 l.num) ∧ W.cell? ⟨b, o + 1, none⟩ = some (.string l.sum) ∧ W.cell? ⟨b, o + 2, none⟩ = some (.int .i64 l.til)) ∧ l.sum.size ≤ maxLen

theorem read_lease {cs : List Value} {b o : Nat} (h : DataW.trod enc Tryz.prog W base spare held fuel 127 cs = some y) (hl : cs.length = 3) (hc : ∀ j v, cs[j]? = some v → W.cell? ⟨b, o + j, none⟩ = some v) : ∃ l, QL W b o l := by
  obtain ⟨c0, c1, c2, rfl⟩ := l3of hl
  obtain ⟨xs, n0, _, _, _, hlen, hfl⟩ := DataW.trod_struct Tryz.underlying127 h
  obtain ⟨x0, x1, x2, rfl⟩ := l3of (l := xs) hlen
  have f0 : DataW.trod enc Tryz.prog W base spare held n0 3 [c0] = some x0 := by simpa [cIntS] using hfl 0 _ rfl
  have f1 : DataW.trod enc Tryz.prog W base spare held n0 9 [c1] = some x1 := by simpa [Tryz.cellsStr] using hfl 1 _ rfl
  have f2 : DataW.trod enc Tryz.prog W base spare held n0 3 [c2] = some x2 := by simpa [cIntS] using hfl 2 _ rfl
  obtain ⟨nu, rfl, _⟩ := read_intw f0
  obtain ⟨sum, rfl, hs⟩ := read_str f1
  obtain ⟨ti, rfl, _⟩ := read_intw f2
  exact ⟨⟨nu, sum, ti⟩, ⟨hc 0 _ rfl, hc 1 _ rfl, hc 2 _ rfl⟩, hs⟩

theorem rows_all {α : Type} {xs : List α} {b off n : Nat} {Q : Nat → Nat → α → Prop} {R : α → Prop} (h : ∀ (i : Nat) x, xs[i]? = some x → Q b (off + i * n) x) (hq : ∀ b o x, Q b o x → R x) : ∀ x ∈ xs, R x := fun x hx => by
  obtain ⟨i, hi⟩ := List.getElem?_of_mem hx
  exact hq _ _ _ (h i x hi)

theorem read_kepts {v : Value} (h : DataW.trod enc Tryz.prog W base spare held fuel 22 [v] = some y) : ∃ a cap ks, v = .slice a (List.length ks) cap ∧ KRow W W.heap.size a ks ∧ KMem ks ∧ ∀ k ∈ ks, (Lit.int .i64 (Kd.born k)).wf = true := by
  haveI : Inhabited Kd := ⟨⟨ByteArray.empty, 0, ByteArray.empty, []⟩⟩
  obtain ⟨a, cap, ks, rfl, hl, hr⟩ := read_row Tryz.underlying22 cKept (by omega) (QK W) (fun _ _ _ _ _ h1 h2 h3 => read_kept h1 h2 h3) h
  rcases hr with rfl | ⟨b, off, rfl, hb, hq⟩
  · exact ⟨a, cap, [], rfl, .inl rfl, ⟨hl, by simp, by simp, by simp, by simp⟩, by simp⟩
  · refine ⟨_, cap, ks, rfl, .inr ⟨b, off, rfl, hb, fun i k hk => (hq i k hk).1⟩, ⟨hl, rows_all hq (fun _ _ _ q => q.2.1), rows_all hq (fun _ _ _ q => q.2.2.1), rows_all hq (fun _ _ _ q => q.2.2.2.1), rows_all hq (fun _ _ _ q => q.2.2.2.2.1)⟩, rows_all hq (fun _ _ _ q => q.2.2.2.2.2)⟩

theorem read_pins {v : Value} (h : DataW.trod enc Tryz.prog W base spare held fuel 23 [v] = some y) : ∃ a cap ps, v = .slice a (List.length ps) cap ∧ PRow W W.heap.size a ps ∧ PMem ps := by
  haveI : Inhabited Pd := ⟨⟨ByteArray.empty, ByteArray.empty⟩⟩
  obtain ⟨a, cap, ps, rfl, hl, hr⟩ := read_row Tryz.underlying23 cPin (by omega) (QP W) (fun _ _ _ _ _ h1 h2 h3 => read_pin h1 h2 h3) h
  rcases hr with rfl | ⟨b, off, rfl, hb, hq⟩
  · exact ⟨a, cap, [], rfl, .inl rfl, ⟨hl, by simp, by simp⟩⟩
  · exact ⟨_, cap, ps, rfl, .inr ⟨b, off, rfl, hb, fun i k hk => (hq i k hk).1⟩, ⟨hl, rows_all hq (fun _ _ _ q => q.2.1), rows_all hq (fun _ _ _ q => q.2.2)⟩⟩

theorem read_leases {v : Value} (h : DataW.trod enc Tryz.prog W base spare held fuel 24 [v] = some y) : ∃ a cap ls, v = .slice a (List.length ls) cap ∧ LRow W W.heap.size a ls ∧ LMem ls := by
  haveI : Inhabited Ld := ⟨⟨0, ByteArray.empty, 0⟩⟩
  obtain ⟨a, cap, ls, rfl, hl, hr⟩ := read_row Tryz.underlying24 cLease (by omega) (QL W) (fun _ _ _ _ _ h1 h2 h3 => read_lease h1 h2 h3) h
  rcases hr with rfl | ⟨b, off, rfl, hb, hq⟩
  · exact ⟨a, cap, [], rfl, .inl rfl, ⟨hl, by simp⟩⟩
  · exact ⟨_, cap, ls, rfl, .inr ⟨b, off, rfl, hb, fun i k hk => (hq i k hk).1⟩, ⟨hl, rows_all hq (fun _ _ _ q => q.2)⟩⟩

/-- A state's value. -/
def stV (wd now given births : Int) (a : Option Addr) (n ac : Nat) (p : Option Addr) (m pc : Nat) (l : Option Addr) (q lc : Nat) : Value := .agg #[.int .i64 wd, .int .i64 now, .int .i64 given, .int .i64 births, .slice a n ac, .slice p m pc, .slice l q lc]

set_option maxRecDepth 100000 in
theorem read_state {r : Reach} {b0 : Nat} {v : Value} {d : DataW H} {pl : List MemPlace} (hv : Value.okWide Tryz.prog W r b0 26 v) (h : DataW.Trod enc Tryz.prog W base spare held 26 v d pl) :
    ∃ wd now given births a ac p pc l lc ks ps ls, v = stV wd now given births a (List.length ks) ac p (List.length ps) pc l (List.length ls) lc ∧ SRows W W.heap.size a p l ks ps ls ∧ KMem ks ∧ PMem ps ∧ LMem ls ∧ ∀ k ∈ ks, (Lit.int .i64 (Kd.born k)).wf = true := by
  obtain ⟨cs, rfl, hsz⟩ := okWide_struct Tryz.underlying26 hv
  obtain ⟨fuel, hf⟩ := h
  obtain ⟨xs, n0, _, _, _, hlen, hfl⟩ := DataW.trod_struct Tryz.underlying26 hf
  obtain ⟨c0, c1, c2, c3, c4, c5, c6, hcs⟩ := l7of (l := cs.toList) (by rw [Array.length_toList, hsz, cState])
  obtain ⟨x0, x1, x2, x3, x4, x5, x6, rfl⟩ := l7of (l := xs) hlen
  have hcells : (Value.agg cs).cells.toList = [c0, c1, c2, c3, c4, c5, c6] := by rw [← hcs]; rfl
  have f0 : DataW.trod enc Tryz.prog W base spare held n0 3 [c0] = some x0 := by simpa [hcells, cIntS] using hfl 0 _ rfl
  have f1 : DataW.trod enc Tryz.prog W base spare held n0 3 [c1] = some x1 := by simpa [hcells, cIntS] using hfl 1 _ rfl
  have f2 : DataW.trod enc Tryz.prog W base spare held n0 3 [c2] = some x2 := by simpa [hcells, cIntS] using hfl 2 _ rfl
  have f3 : DataW.trod enc Tryz.prog W base spare held n0 3 [c3] = some x3 := by simpa [hcells, cIntS] using hfl 3 _ rfl
  have f4 : DataW.trod enc Tryz.prog W base spare held n0 22 [c4] = some x4 := by simpa [hcells, cKs] using hfl 4 _ rfl
  have f5 : DataW.trod enc Tryz.prog W base spare held n0 23 [c5] = some x5 := by simpa [hcells, cPs] using hfl 5 _ rfl
  have f6 : DataW.trod enc Tryz.prog W base spare held n0 24 [c6] = some x6 := by simpa [hcells, cLs] using hfl 6 _ rfl
  obtain ⟨wd, rfl, _⟩ := read_intw f0
  obtain ⟨now, rfl, _⟩ := read_intw f1
  obtain ⟨given, rfl, _⟩ := read_intw f2
  obtain ⟨births, rfl, _⟩ := read_intw f3
  obtain ⟨a, ac, ks, rfl, hk, hkm, hkb⟩ := read_kepts f4
  obtain ⟨p, pc, ps, rfl, hp, hpm⟩ := read_pins f5
  obtain ⟨l, lc, ls, rfl, hl, hlm⟩ := read_leases f6
  refine ⟨wd, now, given, births, a, ac, p, pc, l, lc, ks, ps, ls, ?_, ⟨hk, hp, hl⟩, hkm, hpm, hlm, hkb⟩
  unfold stV
  congr 1
  apply Array.toList_inj.1
  rw [hcs]

end
end Go.Proofs.YthkmpihfhkmaoaaGreat

/-
  A round that is handed in, read.
-/
namespace Go.Proofs.YthkmpihfhkmaoaaGreat

section
open Go.ChangeShapes Go.WideShapes Go.ChangeAt Go.RowKit Go.Deep
variable {H : Type} {enc : TypeId × Value → H} {W : World} {base : Nat} {spare : Nat → Bool} {held : Bool}

theorem cRoundL : Tryz.prog.cellsOf 29 = 6 := by kernel_rfl
theorem l6of {α : Type} {l : List α} (h : l.length = 6) : ∃ a b c d e f, l = [a, b, c, d, e, f] := by match l, h with | [a, b, c, d, e, f], _ => exact ⟨a, b, c, d, e, f, rfl⟩

set_option maxRecDepth 20000 in
theorem read_round {r : Reach} {b0 : Nat} {v : Value} {d : DataW H} {pl : List MemPlace} (hv : Value.okWide Tryz.prog W r b0 29 v) (h : DataW.Trod enc Tryz.prog W base spare held 29 v d pl) :
    ∃ (ph top at_ ro : Int) (qa : Option Addr) (qac : Nat) (ma : Option Addr) (mac : Nat) (qs ms : List ByteArray), v = .agg #[.int .i64 ph, .slice qa (List.length qs) qac, .slice ma (List.length ms) mac, .int .i64 top, .int .i64 at_, .int .i64 ro] ∧ SRow W W.heap.size qa qs ∧ SRow W W.heap.size ma ms ∧
      qs.length ≤ maxLen ∧ (∀ s ∈ qs, ByteArray.size s ≤ maxLen) ∧ ms.length ≤ maxLen ∧ (∀ s ∈ ms, ByteArray.size s ≤ maxLen) := by
  obtain ⟨cs, rfl, hsz⟩ := okWide_struct Tryz.underlying29 hv
  obtain ⟨fuel, hf⟩ := h
  obtain ⟨xs, n0, _, _, _, hlen, hfl⟩ := DataW.trod_struct Tryz.underlying29 hf
  obtain ⟨c0, c1, c2, c3, c4, c5, hcs⟩ := l6of (l := cs.toList) (by rw [Array.length_toList, hsz, cRoundL])
  obtain ⟨x0, x1, x2, x3, x4, x5, rfl⟩ := l6of (l := xs) hlen
  have hcells : (Value.agg cs).cells.toList = [c0, c1, c2, c3, c4, c5] := by rw [← hcs]; rfl
  have f0 : DataW.trod enc Tryz.prog W base spare held n0 3 [c0] = some x0 := by simpa [hcells, cIntS] using hfl 0 _ rfl
  have f1 : DataW.trod enc Tryz.prog W base spare held n0 27 [c1] = some x1 := by simpa [hcells, cIntS, cSliceS] using hfl 1 _ rfl
  have f2 : DataW.trod enc Tryz.prog W base spare held n0 27 [c2] = some x2 := by simpa [hcells, cIntS, cSliceS] using hfl 2 _ rfl
  have f3 : DataW.trod enc Tryz.prog W base spare held n0 3 [c3] = some x3 := by simpa [hcells, cIntS, cSliceS] using hfl 3 _ rfl
  have f4 : DataW.trod enc Tryz.prog W base spare held n0 3 [c4] = some x4 := by simpa [hcells, cIntS, cSliceS] using hfl 4 _ rfl
  have f5 : DataW.trod enc Tryz.prog W base spare held n0 3 [c5] = some x5 := by simpa [hcells, cIntS, cSliceS] using hfl 5 _ rfl
  obtain ⟨ph, rfl, _⟩ := read_intw f0
  obtain ⟨top, rfl, _⟩ := read_intw f3
  obtain ⟨at_, rfl, _⟩ := read_intw f4
  obtain ⟨ro, rfl, _⟩ := read_intw f5
  obtain ⟨qa, qac, qs, rfl, hq, hql, hqs⟩ := read_strs f1
  obtain ⟨ma, mac, ms, rfl, hm, hml, hms⟩ := read_strs f2
  refine ⟨ph, top, at_, ro, qa, qac, ma, mac, qs, ms, ?_, hq, hm, hql, hqs, hml, hms⟩
  congr 1
  apply Array.toList_inj.1
  rw [hcs]

end

end Go.Proofs.YthkmpihfhkmaoaaGreat
