/-
  Maps that count: m[key]++ ; how many entries a map has.
-/
import Derived.Test.YtbelneejghdmoaaStKey
import Derived.Test.YtbelneejghdmoaaMarkS
import Derived.WideKeyEntry
import Derived.Maps.Views
import Derived.Deep.RegionWith
import Derived.Deep.DrawnRows
import Derived.Deep.RegionHeld3
namespace Go.Proofs.Ytbelneejghdmoaa
open Go.ChangeShapes Go.WideShapes Go.ChangeAt Go.RowKit
attribute [local go_sem ↓] Go.wp_at_zero Go.wp_at_succ

section
open Go.WideElems Go.MapKept Go.ChangeMaps

theorem setBlock_twice (w : World) (b : Nat) (x y : Obj) : setBlock (setBlock w b x) b y = setBlock w b y := by simp [setBlock]

theorem store_run {P : Program} {w2 : World} {t : TypeId} {b : Nat} {es : Array MapEntry} {clock st i : Nat} (val : Value) (hw2 : w2.heap[b]? = some (.map es clock)) (hidx : es.findIdx? (fun e => ((e.born : Nat) : Int) == ((st : Nat) : Int)) = some i) :
    (Instr.entryStore t (.map (some b)) (goInt st) val).run P w2 = .ok () (setBlock w2 b (.map (es.modify i (fun e => { e with val := val })) clock)) := by
  simp [Instr.entryStore, MapKept.run_getObj_map hw2, asInt, asIntOf, goInt, hidx, MapKept.run_setObj_map _ hw2, Result.andThen, setBlock]

/-- m[key] op= v: the entry is there (with the element, or with zero), the look-up gives the same ahead of it and behind it, the store is that of m[key] = v. -/
theorem entry_all {H : Type} {P : Program} {w : World} {t k e : TypeId} {R : Value → Option (DataW H × List MemPlace)} {b : Nat} {es : Array MapEntry} {clock : Nat} (K : Maps.Keyed P k) (ht : P.underlying t = some (.map k e)) {z : Value}
    (hz : ∀ u : World, (zeroValue e).run P u = .ok z u) (hb : w.heap[b]? = some (.map es clock)) (F : Fit P k R es clock) {key : Value} {kl : Lit} (hkey : keyOf P k key = some kl) :
    ∃ (v0 : Value) (st : Nat) (w3 : World), (Instr.mapEntry t (.map (some b)) key).run P w = .ok (.tuple #[v0, goInt st]) w3 ∧ (Instr.lookup t (.map (some b)) key false).run P w = .ok v0 w ∧ (Instr.mapUpdate t (.map (some b)) key v0).run P w = .ok () w3 ∧
      ∀ val : Value, ∃ w4, (Instr.entryStore t (.map (some b)) (goInt st) val).run P w3 = .ok () w4 ∧ (Instr.mapUpdate t (.map (some b)) key val).run P w = .ok () w4 := by
  obtain ⟨s1, s2, _⟩ := F.stamped
  rcases K.find w hkey es.toList F.keys with ⟨h1, h2⟩ | ⟨j, e0, h1, h2, h3⟩
  · have hw3 : (setBlock w b (.map (es.push ⟨key, z, clock⟩) (clock + 1))).heap[b]? = some (.map (es.push ⟨key, z, clock⟩) (clock + 1)) := heap_setBlock_same hb _
    refine ⟨z, clock, setBlock w b (.map (es.push ⟨key, z, clock⟩) (clock + 1)), ?_, ?_, ?_, fun val => ⟨setBlock w b (.map (es.push ⟨key, val, clock⟩) (clock + 1)), ?_, ?_⟩⟩
    · simp [Instr.mapEntry, run_underlying ht, MapKept.run_getObj_map hb, K.check w false hkey, h1, hz, MapKept.run_setObj_map _ hb, Result.andThen, setBlock]
    · simp [Instr.lookup, run_underlying ht, MapKept.run_getObj_map hb, K.check w _ hkey, h1, hz, Result.andThen]
    · simp [Instr.mapUpdate, run_underlying ht, MapKept.run_getObj_map hb, K.check w false hkey, h1, MapKept.run_setObj_map _ hb, Result.andThen, setBlock]
    · have hidx : (es.push ⟨key, z, clock⟩).findIdx? (fun e => ((e.born : Nat) : Int) == ((clock : Nat) : Int)) = some es.size := by
        rw [findIdx_arr]
        have := findIdx_born (l := (es.push ⟨key, z, clock⟩).toList) (j := es.size) (e0 := ⟨key, z, clock⟩) (by
          simp only [Array.toList_push, List.map_append, List.map_cons, List.map_nil]
          refine List.nodup_append.2 ⟨s2, by simp, fun a ha c hc e1 => ?_⟩
          simp only [List.mem_singleton] at hc
          obtain ⟨x, hx, rfl⟩ := List.mem_map.1 ha
          have := s1 x hx
          omega) (by simp)
        exact this
      have hmod : (es.push ⟨key, z, clock⟩).modify es.size (fun e => { e with val := val }) = es.push ⟨key, val, clock⟩ := by
        apply Array.ext'
        rw [Array.toList_modify, Array.toList_push, Array.toList_push, ← Array.length_toList, modify_last]
      rw [store_run val hw3 hidx, setBlock_twice, hmod]
    · simp [Instr.mapUpdate, run_underlying ht, MapKept.run_getObj_map hb, K.check w false hkey, h1, MapKept.run_setObj_map _ hb, Result.andThen, setBlock]
  · have hj : es[j]? = some e0 := by simpa using h2
    have hsame : es.modify j (fun e => { e with key := key }) = es := by
      apply Array.ext'
      rw [Array.toList_modify, modify_eq_set _ _ _ _ h2]
      have : ({ e0 with key := key } : MapEntry) = e0 := by rw [← h3]
      rw [this]
      exact set_self _ _ _ h2
    have hsame2 : es.modify j (fun e' => { e' with key := key, val := e0.val }) = es := by
      apply Array.ext'
      rw [Array.toList_modify, modify_eq_set _ _ _ _ h2]
      have : ({ e0 with key := key, val := e0.val } : MapEntry) = e0 := by rw [← h3]
      rw [this]
      exact set_self _ _ _ h2
    have hw3 : (setBlock w b (.map es clock)).heap[b]? = some (.map es clock) := heap_setBlock_same hb _
    refine ⟨e0.val, e0.born, setBlock w b (.map es clock), ?_, ?_, ?_, fun val => ⟨setBlock w b (.map (es.modify j (fun e' => { e' with key := key, val := val })) clock), ?_, ?_⟩⟩
    · simp [Instr.mapEntry, run_underlying ht, MapKept.run_getObj_map hb, K.check w false hkey, h1, hj, h3, K.stays w hkey, hsame, MapKept.run_setObj_map _ hb, Result.andThen, setBlock]
    · simp [Instr.lookup, run_underlying ht, MapKept.run_getObj_map hb, K.check w _ hkey, h1, Result.andThen]
    · simp [Instr.mapUpdate, run_underlying ht, MapKept.run_getObj_map hb, K.check w false hkey, h1, hj, h3, K.stays w hkey, hsame2, MapKept.run_setObj_map _ hb, Result.andThen, setBlock]
    · have hidx : es.findIdx? (fun e => ((e.born : Nat) : Int) == ((e0.born : Nat) : Int)) = some j := by
        rw [findIdx_arr]
        exact findIdx_born s2 h2
      have hmod : es.modify j (fun e => { e with val := val }) = es.modify j (fun e' => { e' with key := key, val := val }) := by
        apply Array.ext'
        rw [Array.toList_modify, Array.toList_modify, modify_eq_set _ _ _ _ h2, modify_eq_set _ _ _ _ h2, ← h3]
      rw [store_run val hw3 hidx, setBlock_twice, hmod]
    · simp [Instr.mapUpdate, run_underlying ht, MapKept.run_getObj_map hb, K.check w false hkey, h1, hj, h3, K.stays w hkey, MapKept.run_setObj_map _ hb, Result.andThen, setBlock]

end

/-- As KMap, and c is how many entries it has. -/
def KMapC (w : World) (K : TypeId) (b n c : Nat) (f : Lit → Option Value) : Prop :=
  ∃ D : DataW Value, w.ownsMap Try.prog K heldR b n D ∧ (∀ kl z, D.atKey kl (.held z) = .held ((f kl).getD z)) ∧ (∀ kl, Maps.has D kl = (f kl).isSome) ∧ Maps.Tidy D ∧ Maps.size D = c

theorem KMapC.map {w : World} {K : TypeId} {b n c : Nat} {f : Lit → Option Value} (h : KMapC w K b n c f) : KMap w K b n f := let ⟨D, h1, h2, h3, _⟩ := h; ⟨D, h1, h2, h3⟩

theorem KMapC.new (w : World) (K : TypeId) : KMapC (w.alloc (.map #[] 0)) K w.heap.size 0 0 (fun _ => none) :=
  ⟨.map [], World.ownsMap_made _ _ _ _, fun _ _ => rfl, fun _ => rfl, Maps.tidy_empty, rfl⟩

theorem KMapC.keep {w w' : World} {K : TypeId} {b n c : Nat} {f : Lit → Option Value} (h : KMapC w K b n c f) {B : Nat} (hb : Below B w w') (hB : b < B) : KMapC w' K b n c f := by
  obtain ⟨D, ⟨es, clock, h1, h2⟩, h3⟩ := h
  exact ⟨D, ⟨es, clock, (hb.block b hB).trans h1, h2⟩, h3⟩

theorem KMapC.lt {w : World} {K : TypeId} {b n c : Nat} {f : Lit → Option Value} (h : KMapC w K b n c f) : b < w.heap.size := h.choose_spec.1.lt

theorem KMapC.len {w : World} {K t e : TypeId} {b n c : Nat} {f : Lit → Option Value} (h : KMapC w K b n c f) (ht : Try.prog.underlying t = some (.map K e)) (ty : TypeId) : (Builtin.len_ #[t] ty #[.map (some b)]).run Try.prog w = .ok (.int .i64 c) w := by
  obtain ⟨D, h1, _, _, _, h5⟩ := h
  rw [← h5]
  exact h1.len ht ty

theorem KMapC.put {w : World} {K t e : TypeId} {b n c : Nat} {f : Lit → Option Value} (h : KMapC w K b n c f) (hK : Maps.Keyed Try.prog K) (ht : Try.prog.underlying t = some (.map K e)) (hn : n < maxLen) {key val : Value} {kl : Lit} (hkey : keyOf Try.prog K key = some kl) :
    ∃ w', (Instr.mapUpdate t (.map (some b)) key val).run Try.prog w = .ok () w' ∧ KMapC w' K b (n + 1) (if (f kl).isSome then c else c + 1) (upd f kl val) ∧ w.grownBy w' (some b) := by
  obtain ⟨D, h1, h2, h3, h4, h5⟩ := h
  obtain ⟨w', hr, ho, hg⟩ := h1.update hK ht hn hkey (d := .held val) (ps := []) (val := val) rfl
  have hm := h1.isMap
  have hik := hK.key hkey
  refine ⟨w', hr, ⟨_, ho, fun x z => ?_, fun x => ?_, h4.put hik _, ?_⟩, hg⟩
  · by_cases hx : x = kl
    · subst hx; rw [Maps.atKey_put_same hm hik, upd_same]; rfl
    · rw [Maps.atKey_put_other hx, upd_other _ _ hx]; exact h2 x z
  · by_cases hx : x = kl
    · subst hx; rw [Maps.has_put_same hm hik, upd_same]; rfl
    · rw [Maps.has_put_other hx, upd_other _ _ hx]; exact h3 x
  · rw [Maps.size_put h4, h3, h5]

theorem KMapC.bump {w : World} {K t e : TypeId} {b n c : Nat} {f : Lit → Option Value} (h : KMapC w K b n c f) (hK : Maps.Keyed Try.prog K) (ht : Try.prog.underlying t = some (.map K e)) (hn : n < maxLen) {z : Value} (hz : ∀ u : World, (zeroValue e).run Try.prog u = .ok z u) {key : Value} {kl : Lit} (hkey : keyOf Try.prog K key = some kl) (val : Value) :
    ∃ st w3 w4, (Instr.mapEntry t (.map (some b)) key).run Try.prog w = .ok (.tuple #[(f kl).getD z, goInt st]) w3 ∧ (Instr.lookup t (.map (some b)) key false).run Try.prog w = .ok ((f kl).getD z) w ∧ (Instr.lookup t (.map (some b)) key false).run Try.prog w3 = .ok ((f kl).getD z) w3 ∧
      (Instr.entryStore t (.map (some b)) (goInt st) val).run Try.prog w3 = .ok () w4 ∧ KMapC w4 K b (n + 1) (if (f kl).isSome then c else c + 1) (upd f kl val) ∧ w.grownBy w3 (some b) ∧ w.grownBy w4 (some b) := by
  have h0 := h
  obtain ⟨D, ⟨es, clock, hb, F, hs, hD⟩, h2, h3, h4, h5⟩ := h
  obtain ⟨v0, st, w3, he, hl, hu, hst⟩ := entry_all hK ht hz hb F hkey
  have hl' := h0.map.look hK ht (hz w) hkey
  rw [hl] at hl'
  cases hl'
  obtain ⟨w4, hs4, hu4⟩ := hst val
  obtain ⟨w3', hu3, hm3, hg3⟩ := h0.put hK ht hn hkey (val := (f kl).getD z)
  rw [hu] at hu3
  cases hu3
  obtain ⟨w4', hu4', hm4, hg4⟩ := h0.put hK ht hn hkey (val := val)
  rw [hu4] at hu4'
  cases hu4'
  have hl3 := hm3.map.look hK ht (hz w3) hkey
  rw [upd_same] at hl3
  exact ⟨st, w3, w4, he, hl, hl3, hs4, hm4, hg3, hg4⟩

/-- The marks of a list of sums: which there are, and how many. -/
structure MK (ms : List ByteArray) (f : Lit → Option Value) (c : Nat) : Prop where
  has : ∀ l, (f l).isSome = true ↔ l ∈ ms.map keyL
  num : ∀ l v, f l = some v → ∃ n : Int, v = .int .i64 n ∧ 1 ≤ n ∧ n ≤ ms.length
  le : c ≤ ms.length
  all : c = ms.length ↔ (ms.map keyL).Nodup

theorem MK.nil : MK [] (fun _ => none) 0 := ⟨fun l => (by simp), fun l v h => (by simp at h), Nat.le_refl _, (by simp)⟩

theorem MK.get {ms : List ByteArray} {f : Lit → Option Value} {c : Nat} (h : MK ms f c) (l : Lit) : ∃ n : Int, (f l).getD (.int .i64 0) = .int .i64 n ∧ 0 ≤ n ∧ n ≤ ms.length ∧ (0 < n ↔ l ∈ ms.map keyL) := by
  cases hf : f l with
  | none =>
    refine ⟨0, rfl, Int.le_refl _, by omega, ?_⟩
    have := h.has l
    rw [hf] at this
    simp at this ⊢
    exact this
  | some v =>
    obtain ⟨n, rfl, h1, h2⟩ := h.num l v hf
    have := h.has l
    rw [hf] at this
    exact ⟨n, rfl, by omega, h2, ⟨fun _ => this.1 rfl, fun _ => by omega⟩⟩

theorem MK.snoc {ms : List ByteArray} {f : Lit → Option Value} {c : Nat} (h : MK ms f c) (x : ByteArray) {n : Int} (h0 : 0 ≤ n) (h1 : n ≤ ms.length) :
    MK (ms ++ [x]) (upd f (keyL x) (.int .i64 (n + 1))) (if (f (keyL x)).isSome then c else c + 1) := by
  have hx := h.has (keyL x)
  refine ⟨fun l => ?_, fun l v hv => ?_, ?_, ?_⟩
  · by_cases e : l = keyL x
    · subst e; rw [upd_same]; simp
    · rw [upd_other _ _ e, h.has l]
      simp only [List.map_append, List.map_cons, List.map_nil, List.mem_append, List.mem_singleton]
      exact ⟨fun h => .inl h, fun h => h.resolve_right e⟩
  · by_cases e : l = keyL x
    · subst e
      rw [upd_same] at hv
      cases hv
      exact ⟨n + 1, rfl, by omega, by simp; omega⟩
    · rw [upd_other _ _ e] at hv
      obtain ⟨m, e1, e2, e3⟩ := h.num l v hv
      exact ⟨m, e1, e2, by simp; omega⟩
  · have := h.le
    split <;> simp <;> omega
  · have hle := h.le
    have hal := h.all
    rw [List.map_append, List.map_cons, List.map_nil, List.length_append]
    by_cases hm : keyL x ∈ ms.map keyL
    · rw [if_pos (hx.2 hm)]
      constructor
      · intro e; simp at e; omega
      · intro e
        have := (List.nodup_append.1 e).2.2 _ hm _ (by simp) rfl
        cases this
    · rw [if_neg (fun e => hm (hx.1 e))]
      constructor
      · intro e
        refine List.nodup_append.2 ⟨hal.1 (by simp at e; omega), by simp, fun a ha b hb e => ?_⟩
        simp at hb
        subst hb
        subst e
        exact hm ha
      · intro e
        have := hal.2 (List.nodup_append.1 e).1
        simp; omega

theorem cnt_wrap {a : Int} (h0 : 0 ≤ a) (h1 : a ≤ 2000000000) : IntKind.i64.wrap a = a := by
  unfold IntKind.wrap
  simp [IntKind.signed, IntKind.bits]
  omega

theorem zeroInt (w : World) : (zeroValue 3).run Try.prog w = .ok (.int .i64 0) w := by kernel_rfl

end Go.Proofs.Ytbelneejghdmoaa
