/-
  Names, on both sides.
-/
import Derived.Test.YtbelneejghdmoaaThing
namespace Go.Proofs.Ytbelneejghdmoaa
open Go.ChangeShapes Go.WideShapes Go.ChangeAt Go.RowKit

/-- A byte of a name. -/
def nameByte (b : UInt8) : Bool := decide ((33 : Int) ≤ (b.toNat : Int) ∧ (b.toNat : Int) ≤ 126)

def nameBytes (s : ByteArray) : Bool := s.data.toList.all nameByte

def nameOk (s : ByteArray) : Bool := decide (1 ≤ s.size ∧ s.size ≤ 40) && nameBytes s

theorem nameBytes_no {s : ByteArray} {k : Nat} (hk : k < s.size) (h : ¬ ((33 : Int) ≤ (s[k].toNat : Int) ∧ (s[k].toNat : Int) ≤ 126)) : nameBytes s = false := by
  unfold nameBytes
  rw [List.all_eq_false]
  refine ⟨s[k], ?_, by unfold nameByte; simpa using h⟩
  exact List.mem_of_getElem (l := s.data.toList) (i := k) (h := by simpa using hk) rfl

theorem nameBytes_yes {s : ByteArray} (h : ∀ k (hk : k < s.size), (33 : Int) ≤ (s[k].toNat : Int) ∧ (s[k].toNat : Int) ≤ 126) : nameBytes s = true := by
  unfold nameBytes
  rw [List.all_eq_true]
  intro b hb
  obtain ⟨k, hk, rfl⟩ := List.getElem_of_mem hb
  exact decide_eq_true (h k (by simpa using hk))

def upTo (s : ByteArray) (k : Nat) : Prop := ∀ i (hi : i < s.size), i < k → (33 : Int) ≤ (s[i].toNat : Int) ∧ (s[i].toNat : Int) ≤ 126

theorem upTo_succ {s : ByteArray} {k : Nat} (h : upTo s k) (hk : k < s.size) (h1 : (33 : Int) ≤ (s[k].toNat : Int)) (h2 : (s[k].toNat : Int) ≤ 126) : upTo s (k + 1) := by
  intro i hi hik
  rcases Nat.lt_or_ge i k with h' | h'
  · exact h i hi h'
  · obtain rfl : i = k := by omega
    exact ⟨h1, h2⟩

set_option maxHeartbeats 400000 in
theorem iName_any (s : ByteArray) (w : World) (hs : s.size ≤ maxLen) :
    Calls Try.prog 93 #[.string s] w fun e w' => e = .returned (.bool (nameOk s)) ∧ w' = w := by
  unfold maxLen at hs
  by_cases h1 : 1 ≤ s.size
  · by_cases h2 : s.size ≤ 40
    · have h1' : decide ((s.size : Int) < 1) = false := by simp; omega
      have h2' : decide ((40 : Int) < (s.size : Int)) = false := by simp; omega
      have hok : Hid (decide (1 ≤ s.size ∧ s.size ≤ 40) = true) := by show _ = _; simp; omega
      go_enter Try.func93, Try.ntmps93
      go_wp2
      go_loop [14] (fun i => ∃ k : Nat, k ≤ s.size ∧ i = .int .i64 k ∧ Hid (upTo s k)) (fun i => s.size - (intOf i).toNat)
      case atStart => exact ⟨0, Nat.zero_le _, rfl, fun i _ h => by omega⟩
      case round =>
        obtain ⟨k, hk, rfl, hup⟩ := hrel
        by_cases hlt : k < s.size
        · by_cases b1 : (s[k].toNat : Int) < 33
          · have b1' : decide ((s[k].toNat : Int) < 33) = true := by simpa using b1
            go_wp2
            go_ret
            exact ⟨ret_b (by unfold nameOk; rw [nameBytes_no hlt (by omega)]; simp), rfl⟩
          · have b1' : decide ((s[k].toNat : Int) < 33) = false := by simpa using b1
            by_cases b2 : (126 : Int) < (s[k].toNat : Int)
            · have b2' : decide ((126 : Int) < (s[k].toNat : Int)) = true := by simpa using b2
              go_wp2
              go_ret
              exact ⟨ret_b (by unfold nameOk; rw [nameBytes_no hlt (by omega)]; simp), rfl⟩
            · have b2' : decide ((126 : Int) < (s[k].toNat : Int)) = false := by simpa using b2
              have HU : Hid (upTo s (k + 1)) := upTo_succ hup hlt (by omega) (by omega)
              go_wp2
              exact ⟨⟨k + 1, by omega, by go_num, HU⟩, by simp [intOf]; omega⟩
        · have hall := nameBytes_yes (s := s) (fun i hi => hup i hi (by omega))
          go_wp2
          go_ret
          exact ⟨ret_b (by unfold nameOk; rw [hall, hok.out]; rfl), rfl⟩
    · have h1' : decide ((s.size : Int) < 1) = false := by simp; omega
      have h2' : decide ((40 : Int) < (s.size : Int)) = true := by simp; omega
      go_enter Try.func93, Try.ntmps93
      go_wp2
      go_ret
      exact ⟨ret_b (by unfold nameOk; rw [decide_eq_false (by omega)]; rfl), rfl⟩
  · have h1' : decide ((s.size : Int) < 1) = true := by simp; omega
    go_enter Try.func93, Try.ntmps93
    go_wp2
    go_ret
    exact ⟨ret_b (by unfold nameOk; rw [decide_eq_false (by omega)]; rfl), rfl⟩

set_option maxHeartbeats 400000 in
theorem sName_any (s : ByteArray) (w : World) (hs : s.size ≤ maxLen) :
    Calls Try.prog 42 #[.string s] w fun e w' => e = .returned (.bool (nameOk s)) ∧ w' = w := by
  unfold maxLen at hs
  go_enter Try.func42, Try.ntmps42
  go_wp2
  go_loop [3] (fun i => ∃ k : Nat, k ≤ s.size ∧ i = .int .i64 k ∧ Hid (upTo s k)) (fun i => s.size - (intOf i).toNat)
  case atStart => exact ⟨0, Nat.zero_le _, rfl, fun i _ h => by omega⟩
  case round =>
    obtain ⟨k, hk, rfl, hup⟩ := hrel
    by_cases hlt : k < s.size
    · by_cases b1 : (s[k].toNat : Int) < 33
      · have b1' : decide ((s[k].toNat : Int) < 33) = true := by simpa using b1
        go_wp2
        go_ret
        exact ⟨ret_b (by unfold nameOk; rw [nameBytes_no hlt (by omega)]; simp), rfl⟩
      · have b1' : decide ((s[k].toNat : Int) < 33) = false := by simpa using b1
        by_cases b2 : (126 : Int) < (s[k].toNat : Int)
        · have b2' : decide ((126 : Int) < (s[k].toNat : Int)) = true := by simpa using b2
          go_wp2
          go_ret
          exact ⟨ret_b (by unfold nameOk; rw [nameBytes_no hlt (by omega)]; simp), rfl⟩
        · have b2' : decide ((126 : Int) < (s[k].toNat : Int)) = false := by simpa using b2
          have HU : Hid (upTo s (k + 1)) := upTo_succ hup hlt (by omega) (by omega)
          go_wp2
          exact ⟨⟨k + 1, by omega, by go_num, HU⟩, by simp [intOf]; omega⟩
    · have hall := nameBytes_yes (s := s) (fun i hi => hup i hi (by omega))
      by_cases h1 : 1 ≤ s.size
      · go_wp2
        go_ret
        refine ⟨ret_b ?_, rfl⟩
        unfold nameOk
        rw [hall, Bool.and_true]
        simp [h1]
        omega
      · have h1' : decide ((1 : Int) ≤ (s.size : Int)) = false := by simp; omega
        go_wp2
        go_ret
        exact ⟨ret_b (by unfold nameOk; rw [decide_eq_false (by omega)]; rfl), rfl⟩
end Go.Proofs.Ytbelneejghdmoaa
