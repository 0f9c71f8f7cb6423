/-
  spec.l4Find, l4Range.
-/
import Derived.Test.YtbelneejghdmoaaStTo
namespace Go.Proofs.Ytbelneejghdmoaa
open Go.ChangeShapes Go.WideShapes Go.ChangeAt Go.RowKit

theorem toList_inj {a b : ByteArray} (h : a.toList = b.toList) : a = b := by
  rw [ByteArray.toList_eq, ByteArray.toList_eq] at h
  cases a; cases b
  simp only [Array.toList_inj] at h
  rw [h]

theorem beq_ne {a b : ByteArray} (h : ¬ a = b) : (a.toList == b.toList) = false := by
  rw [beq_eq_false_iff_ne]
  exact fun e => h (toList_inj e)

theorem bl_iff (x : List UInt8) : ∀ y, Op.bytesLess x y = true ↔ x < y := by
  induction x with
  | nil => intro y; cases y <;> simp [Op.bytesLess]
  | cons a x ih =>
    intro y
    cases y with
    | nil => simp [Op.bytesLess]
    | cons b y =>
      have := ih y
      rw [List.cons_lt_cons_iff, ← this]
      simp only [Op.bytesLess]
      by_cases h1 : a < b <;> by_cases h2 : a = b <;> simp [h1, h2]

theorem less_irrefl (a : ByteArray) : less a a = false := by
  unfold less
  cases h : Op.bytesLess a.toList a.toList with
  | false => rfl
  | true => exact absurd ((bl_iff _ _).1 h) (List.lt_irrefl _)

theorem less_trans {a b c : ByteArray} (h : less a b = true) (k : less b c = true) : less a c = true := by
  unfold less at *
  rw [bl_iff] at *
  exact List.lt_trans h k

/-- The place of the first thing with a sum, -1 if there is none. -/
def findI (ks : List Kd) (s : ByteArray) : Int := match ks.findIdx? (fun k => decide (k.sum = s)) with
  | some i => (i : Int)
  | none => -1

theorem findI_hit {ks : List Kd} {s : ByteArray} {k : Nat} (hk : k < ks.length) (h : ks[k].sum = s) (hall : ∀ j x, j < k → ks[j]? = some x → x.sum ≠ s) : findI ks s = k := by
  have : ks.findIdx? (fun k => decide (k.sum = s)) = some k := by
    rw [List.findIdx?_eq_some_iff_getElem]
    refine ⟨hk, by simpa using h, fun j hj => ?_⟩
    simpa using hall j _ hj (List.getElem?_eq_getElem (by omega))
  simp [findI, this]

theorem findI_miss {ks : List Kd} {s : ByteArray} (hall : ∀ j x, j < ks.length → ks[j]? = some x → x.sum ≠ s) : findI ks s = -1 := by
  have : ks.findIdx? (fun k => decide (k.sum = s)) = none := by
    rw [List.findIdx?_eq_none_iff]
    intro x hx
    obtain ⟨j, hj, rfl⟩ := List.getElem_of_mem hx
    simpa using hall j _ hj (List.getElem?_eq_getElem hj)
  simp [findI, this]

theorem findI_cases (ks : List Kd) (s : ByteArray) : (findI ks s = -1 ∧ ¬ There ks s) ∨ ∃ i k, findI ks s = (i : Nat) ∧ ks[i]? = some k ∧ k.sum = s := by
  unfold findI
  cases h : ks.findIdx? (fun k => decide (k.sum = s)) with
  | none =>
    rw [List.findIdx?_eq_none_iff] at h
    exact .inl ⟨rfl, fun ⟨u, hu, e⟩ => by simpa [e] using h u hu⟩
  | some i =>
    rw [List.findIdx?_eq_some_iff_getElem] at h
    obtain ⟨hi, h1, _⟩ := h
    exact .inr ⟨i, ks[i], rfl, List.getElem?_eq_getElem hi, by simpa using h1⟩

set_option maxHeartbeats 400000 in
theorem find_any (wd now given births : Int) (a : Option Addr) (ac : Nat) (P L : Value) (ks : List Kd) (s : ByteArray) (w : World) (B : Nat) (hrow : KRow w B a ks) (hB : B ≤ w.heap.size) (hl : ks.length ≤ 1048576) :
    Calls Try.prog 43 #[.agg #[.int .i64 wd, .int .i64 now, .int .i64 given, .int .i64 births, .slice a ks.length ac, P, L], .string s] w fun e w' => e = .returned (.int .i64 (findI ks s)) ∧ Below w.heap.size w w' := by
  have hb0 : Below w.heap.size w (w.alloc (.cells #[.int .i64 wd, .int .i64 now, .int .i64 given, .int .i64 births, .slice a ks.length ac, P, L] 33)) := (Below.refl _ _).alloc (Nat.le_refl _) _
  go_enter Try.func43, Try.ntmps43
  go_wp2
  go_loop [5] (fun i => ∃ k : Nat, k ≤ ks.length ∧ i = .int .i64 k ∧ Hid (∀ j x, j < k → ks[j]? = some x → x.sum ≠ s)) (fun i => ks.length - (intOf i).toNat)
  case atStart => exact ⟨0, Nat.zero_le _, rfl, fun j x h => by omega⟩
  case round =>
    obtain ⟨k, hk, rfl, hall⟩ := hrel
    by_cases hlt : k < ks.length
    · obtain ⟨b, off, ha, hb, hc⟩ := hrow.at hlt
      subst ha
      have hg : Hid (ks[k]? = some ks[k]) := List.getElem?_eq_getElem hlt
      obtain ⟨c0, _, _, _⟩ := hc k _ hg
      clear hc hrow
      have hb' : b < w.heap.size := by omega
      by_cases he : ks[k].sum = s
      · have HE : Hid _ := he
        have hh : Hid _ := findI_hit hlt he hall.out
        have c0' : w.cell? ⟨b, off + k * 4, none⟩ = some (.string s) := by rw [← he]; exact c0
        clear c0 he
        go_wp2
        go_ret
        exact ⟨ret_i hh.out.symm, hb0⟩
      · have hne := beq_ne he
        have HA : Hid (∀ j x, j < k + 1 → ks[j]? = some x → x.sum ≠ s) := by
          intro j x hj hx
          rcases Nat.lt_or_ge j k with h' | h'
          · exact hall.out j x h' hx
          · obtain rfl : j = k := by omega
            rw [hg.out] at hx
            cases hx
            exact he
        clear he hall hg
        generalize ks[k] = x at *
        go_wp2
        exact ⟨⟨k + 1, by omega, by go_num, HA⟩, by simp [intOf]; omega⟩
    · go_wp2
      go_ret
      exact ⟨ret_i (findI_miss (fun j x hj => hall.out j x (by omega))).symm, hb0⟩

end Go.Proofs.Ytbelneejghdmoaa
