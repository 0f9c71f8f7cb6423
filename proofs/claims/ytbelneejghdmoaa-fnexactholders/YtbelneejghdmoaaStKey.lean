/-
  impl.keyOf: a sum as an array of eight bytes; such arrays as keys of maps.
-/
import Derived.Test.YtbelneejghdmoaaSt
import Derived.Laws.CopyRow
import Derived.Maps.OwnSet
import Derived.DeepKeys5
namespace Go.Proofs.Ytbelneejghdmoaa
open Go.ChangeShapes Go.WideShapes Go.ChangeAt Go.RowKit

def kB (s : ByteArray) (i : Nat) : Int := ((s.data.toList[i]?).getD 0).toNat

def keyA (s : ByteArray) : Array Value := #[.int .u8 (kB s 0), .int .u8 (kB s 1), .int .u8 (kB s 2), .int .u8 (kB s 3), .int .u8 (kB s 4), .int .u8 (kB s 5), .int .u8 (kB s 6), .int .u8 (kB s 7)]

def zero8 : Array Value := #[.int .u8 0, .int .u8 0, .int .u8 0, .int .u8 0, .int .u8 0, .int .u8 0, .int .u8 0, .int .u8 0]

def cpy (s : ByteArray) : List Value := List.take (Nat.min s.size 8) (List.map (fun b => Value.int .u8 b.toNat) s.data.toList)

theorem data_length (s : ByteArray) : s.data.toList.length = s.size := by simp

theorem cpy_length (s : ByteArray) : (cpy s).length = min s.size 8 := by
  have := data_length s
  simp only [cpy, List.length_take, List.length_map, this]
  show min (min s.size 8) s.size = _
  omega

theorem cpy_get (s : ByteArray) (i : Nat) (h : i < min s.size 8) : (cpy s)[i]? = some (.int .u8 (kB s i)) := by
  have hs := data_length s
  unfold cpy kB
  rw [List.getElem?_take_of_lt (by show i < min s.size 8; exact h), List.getElem?_map, List.getElem?_eq_getElem (by omega)]
  simp

theorem cpy_all (s : ByteArray) : (zero8.toList.take (0 + 0) ++ cpy s ++ zero8.toList.drop (0 + 0 + (cpy s).length)).toArray = keyA s := by
  apply Array.ext'
  apply List.ext_getElem?
  intro i
  have hl := cpy_length s
  simp only [Nat.add_zero, List.take_zero, List.nil_append, Nat.zero_add]
  by_cases h : i < min s.size 8
  · rw [List.getElem?_append_left (by omega), cpy_get s i h]
    have h8 : i < 8 := by omega
    match i, h8 with
    | 0, _ | 1, _ | 2, _ | 3, _ | 4, _ | 5, _ | 6, _ | 7, _ => rfl
  · rw [List.getElem?_append_right (by omega), hl, List.getElem?_drop, show min s.size 8 + (i - min s.size 8) = i from by omega]
    by_cases h8 : i < 8
    · have hk : kB s i = 0 := by
        have hd := data_length s
        unfold kB
        rw [List.getElem?_eq_none (by omega)]
        rfl
      match i, h8, hk with
      | 0, _, hk | 1, _, hk | 2, _, hk | 3, _, hk | 4, _, hk | 5, _, hk | 6, _, hk | 7, _, hk => simp [zero8, keyA, hk]
    · rw [List.getElem?_eq_none (by simp [zero8]; omega), List.getElem?_eq_none (by simp [keyA]; omega)]

theorem setRow_alloc (w : World) (a b : Array Value) (t : TypeId) : (w.alloc (.cells a t)).setRow w.heap.size b = w.alloc (.cells b t) := by
  unfold World.setRow World.alloc
  congr 1
  apply Array.ext
  · simp
  · intro i h1 h2
    simp only [Array.getElem_modify, Array.getElem_push]
    split
    · rename_i h
      subst h
      simp
    · rename_i h
      simp at h2
      rw [dif_pos (by omega), dif_pos (by omega)]

theorem run_copy_key (w : World) (s : ByteArray) (ty : TypeId) :
    (Builtin.copy_ #[130, 9] ty #[.slice (some ⟨w.heap.size, 0, none⟩) 8 8, .string s]).run Try.prog (w.alloc (.cells zero8 96)) = .ok (goInt (Nat.min s.size 8)) (w.alloc (.cells (keyA s) 96)) := by
  obtain ⟨i0, hi, hz0, hz1, hz2⟩ := info_parts Try.infoByteF
  have hst := run_storeCells_at (P := Try.prog) w.heap.size 0 96 (cpy s) 0 zero8 (w.alloc (.cells zero8 96)) (heap_alloc_new w _) (by rw [cpy_length]; simp [zero8]; omega) (fun v hv => by
    have hv := List.mem_of_mem_take hv
    simp only [List.mem_map] at hv
    obtain ⟨_, _, rfl⟩ := hv
    rfl)
  rw [cpy_all, setRow_alloc] at hst
  unfold cpy at hst
  simp [Builtin.copy_, run_underlying Try.underlying130, Builtin.lenOf, Builtin.firstCells, sizeOf, typeInfo, hi, hst, Result.andThen]

/-- A sum as a key. -/
def keyV (s : ByteArray) : Value := .agg (keyA s)

set_option maxRecDepth 20000 in
set_option maxHeartbeats 400000 in
theorem key_any (s : ByteArray) (w : World) :
    Calls Try.prog 71 #[.string s] w fun e w' => e = .returned (keyV s) ∧ Below w.heap.size w w' := by
  have hcp : ∀ ty, (Builtin.copy_ #[130, 9] ty #[.slice (some ⟨w.heap.size + 1, 0, none⟩) 8 8, .string s]).run Try.prog ((w.alloc (.cells zero8 96)).alloc (.cells zero8 96)) = .ok (goInt (Nat.min s.size 8)) ((w.alloc (.cells zero8 96)).alloc (.cells (keyA s) 96)) := fun ty => by
    have := run_copy_key (w.alloc (.cells zero8 96)) s ty
    rwa [show (w.alloc (.cells zero8 96)).heap.size = w.heap.size + 1 from by simp] at this
  unfold keyA zero8 at hcp
  go_enter Try.func71, Try.ntmps71
  go_wp2
  refine bodyPost_ret (v := keyV s) (by simp [results, Try.results71, go_sem, keyV, keyA]) rfl ⟨rfl, ?_⟩
  exact ((Below.refl _ _).alloc (Nat.le_refl _) _).alloc (by simp) _

theorem kB_bd (s : ByteArray) (i : Nat) : 0 ≤ kB s i ∧ kB s i < 256 := by
  unfold kB
  have := ((s.data.toList[i]?).getD 0).toNat_lt
  omega

theorem kB_wf (s : ByteArray) (i : Nat) : (Lit.int .u8 (kB s i)).wf = true := by
  have := kB_bd s i
  have e1 : IntKind.u8.min = 0 := by decide
  have e2 : IntKind.u8.max = 255 := by decide
  simp only [Lit.wf, e1, e2, Bool.and_eq_true, decide_eq_true_eq]
  omega

theorem keyT : Try.prog.keyType 96 = true := by kernel_rfl
theorem keyC8 : Try.prog.cellsOf 96 = 8 := by kernel_rfl
theorem keyC1 : Try.prog.cellsOf 5 = 1 := by kernel_rfl
theorem keyU : Try.prog.underlying 96 = some (.array 8 5) := by kernel_rfl
theorem typesN : ∃ n, Try.prog.types.size = n + 1 := ⟨Try.prog.types.size - 1, by kernel_rfl⟩

theorem key_some (s : ByteArray) : ∃ l, keyOf Try.prog 96 (keyV s) = some l := by
  obtain ⟨n, hn⟩ := typesN
  unfold keyOf
  rw [keyU, hn]
  simp only [keyT, keyV, Value.formed, keyU, keyC8, keyA]
  simp [Value.cells, Program.keyLits, keyC8, keyC1, List.range_succ, kB_wf]

noncomputable def keyL (s : ByteArray) : Lit := (key_some s).choose

theorem key_lit (s : ByteArray) : keyOf Try.prog 96 (keyV s) = some (keyL s) := (key_some s).choose_spec

theorem laidP : laidOutB Try.prog = true := by kernel_rfl

theorem keyed : Maps.Keyed Try.prog 96 := Maps.Keyed.of_law (deep_law_gate laidP (of_decide_eq_true (by kernel_rfl)) (of_decide_eq_true (by kernel_rfl)) keyT (by rw [keyU]))

/-- Two sums of one width are one if their keys are. -/
theorem key_inj {s t : ByteArray} (h : keyL s = keyL t) (he : s.size = t.size) (h8 : s.size ≤ 8) : s = t := by
  have h2 := key_lit t
  rw [← h] at h2
  have hv : keyV s = keyV t := keyed.inj (key_lit s) h2
  clear h2 h
  have hk : ∀ i, i < 8 → kB s i = kB t i := by
    simp only [keyV, keyA, Value.agg.injEq, Array.mk.injEq, List.cons.injEq, Value.int.injEq, true_and, and_true] at hv
    obtain ⟨e0, e1, e2, e3, e4, e5, e6, e7⟩ := hv
    intro i hi
    match i, hi with
    | 0, _ => exact e0
    | 1, _ => exact e1
    | 2, _ => exact e2
    | 3, _ => exact e3
    | 4, _ => exact e4
    | 5, _ => exact e5
    | 6, _ => exact e6
    | 7, _ => exact e7
  have hs := data_length s
  have ht := data_length t
  have hl : s.data.toList = t.data.toList := by
    apply List.ext_getElem?
    intro i
    by_cases hi : i < s.size
    · have := hk i (by omega)
      unfold kB at this
      rw [List.getElem?_eq_getElem (by omega), List.getElem?_eq_getElem (by omega)] at this ⊢
      simp only [Option.getD_some] at this
      congr 1
      exact UInt8.toNat_inj.1 (by omega)
    · rw [List.getElem?_eq_none (by omega), List.getElem?_eq_none (by omega)]
  cases s; cases t
  simp only [Array.toList_inj] at hl
  rw [hl]

/-! Maps, by what they hold at a key. -/

open Classical in
noncomputable def upd (f : Lit → Option Value) (kl : Lit) (v : Value) : Lit → Option Value := fun x => if x = kl then some v else f x

theorem upd_same (f : Lit → Option Value) (kl : Lit) (v : Value) : upd f kl v kl = some v := by simp [upd]
theorem upd_other (f : Lit → Option Value) {kl x : Lit} (v : Value) (h : x ≠ kl) : upd f kl v x = f x := by simp [upd, h]


def heldR (v : Value) : Option (DataW Value × List MemPlace) := some (.held v, [])

/-- Block b is a map of at most n entries, keyed by type K, that holds f. -/
def KMap (w : World) (K : TypeId) (b n : Nat) (f : Lit → Option Value) : Prop :=
  ∃ D : DataW Value, w.ownsMap Try.prog K heldR b n D ∧ (∀ kl z, D.atKey kl (.held z) = .held ((f kl).getD z)) ∧ ∀ kl, Maps.has D kl = (f kl).isSome

theorem KMap.new (w : World) (K : TypeId) : KMap (w.alloc (.map #[] 0)) K w.heap.size 0 (fun _ => none) :=
  ⟨.map [], World.ownsMap_made _ _ _ _, fun _ _ => rfl, fun _ => rfl⟩

theorem KMap.keep {w w' : World} {K : TypeId} {b n : Nat} {f : Lit → Option Value} (h : KMap w K b n f) {B : Nat} (hb : Below B w w') (hB : b < B) : KMap w' K b n f := by
  obtain ⟨D, ⟨es, clock, h1, h2⟩, h3⟩ := h
  exact ⟨D, ⟨es, clock, (hb.block b hB).trans h1, h2⟩, h3⟩

theorem KMap.lt {w : World} {K : TypeId} {b n : Nat} {f : Lit → Option Value} (h : KMap w K b n f) : b < w.heap.size := h.choose_spec.1.lt

theorem KMap.put {w : World} {K t e : TypeId} {b n : Nat} {f : Lit → Option Value} (h : KMap w K b n f) (hK : Maps.Keyed Try.prog K) (ht : Try.prog.underlying t = some (.map K e)) (hn : n < maxLen) {key val : Value} {kl : Lit} (hkey : keyOf Try.prog K key = some kl) :
    ∃ w', (Instr.mapUpdate t (.map (some b)) key val).run Try.prog w = .ok () w' ∧ KMap w' K b (n + 1) (upd f kl val) ∧ w.grownBy w' (some b) := by
  obtain ⟨D, h1, h2, h3⟩ := h
  obtain ⟨w', hr, ho, hg⟩ := h1.update hK ht hn hkey (d := .held val) (ps := []) (val := val) rfl
  have hm := h1.isMap
  have hik := hK.key hkey
  refine ⟨w', hr, ⟨_, ho, fun x z => ?_, fun x => ?_⟩, hg⟩
  · by_cases hx : x = kl
    · subst hx; rw [Maps.atKey_put_same hm hik, upd_same]; rfl
    · rw [Maps.atKey_put_other hx, upd_other _ _ hx]; exact h2 x z
  · by_cases hx : x = kl
    · subst hx; rw [Maps.has_put_same hm hik, upd_same]; rfl
    · rw [Maps.has_put_other hx, upd_other _ _ hx]; exact h3 x

theorem KMap.look {w : World} {K t e : TypeId} {b n : Nat} {f : Lit → Option Value} (h : KMap w K b n f) (hK : Maps.Keyed Try.prog K) (ht : Try.prog.underlying t = some (.map K e)) {z : Value} (hz : (zeroValue e).run Try.prog w = .ok z w) {key : Value} {kl : Lit} (hkey : keyOf Try.prog K key = some kl) :
    (Instr.lookup t (.map (some b)) key false).run Try.prog w = .ok ((f kl).getD z) w := by
  obtain ⟨D, h1, h2, _⟩ := h
  obtain ⟨v, ps, hr, hv⟩ := h1.lookup hK ht hz (zd := .held z) (zp := []) rfl hkey
  rw [h2] at hv
  simp only [heldR, Option.some.injEq, Prod.mk.injEq, DataW.held.injEq] at hv
  rw [hr, hv.1]

theorem KMap.look_ok {w : World} {K t e : TypeId} {b n : Nat} {f : Lit → Option Value} (h : KMap w K b n f) (hK : Maps.Keyed Try.prog K) (ht : Try.prog.underlying t = some (.map K e)) {z : Value} (hz : (zeroValue e).run Try.prog w = .ok z w) {key : Value} {kl : Lit} (hkey : keyOf Try.prog K key = some kl) :
    (Instr.lookup t (.map (some b)) key true).run Try.prog w = .ok (.tuple #[(f kl).getD z, .bool (f kl).isSome]) w := by
  obtain ⟨D, h1, h2, h3⟩ := h
  obtain ⟨v, ps, hr, hv⟩ := h1.look_ok hK ht hz (zd := .held z) (zp := []) rfl hkey
  rw [h2] at hv
  simp only [heldR, Option.some.injEq, Prod.mk.injEq, DataW.held.injEq] at hv
  rw [hr, hv.1, h3]

end Go.Proofs.Ytbelneejghdmoaa
