/-
  impl.Sum.
-/
import Derived.Test.YtbelneejghdmoaaSumS
namespace Go.Proofs.Ytbelneejghdmoaa
open Go.ChangeShapes Go.WideShapes Go.ChangeAt Go.RowKit

theorem ret_int {k : IntKind} {a b : Int} (h : a = b) : Ending.returned (.int k a) = .returned (.int k b) := by rw [h]

set_option maxHeartbeats 400000 in
theorem mix_any (s : ByteArray) (w : World) (hs : s.size ≤ maxLen) :
    Calls Try.prog 110 #[.string s] w fun e w' => e = .returned (.int .u64 (mixI s.data.toList)) ∧ w' = w := by
  unfold maxLen at hs
  go_enter Try.func110, Try.ntmps110
  go_wp2
  go_loop [3, 7] (fun v i => ∃ (k : Nat), k ≤ s.size ∧ i = .int .i64 k ∧ v = .int .u64 (mixI (s.data.toList.take k))) (fun _ i => s.size - (intOf i).toNat)
  case atStart => exact ⟨0, Nat.zero_le _, rfl, rfl⟩
  case round =>
    obtain ⟨k, hk, rfl, rfl⟩ := hrel
    by_cases hlt : k < s.size
    · have HS : Hid (mixI (s.data.toList.take (k + 1)) = mixStep (mixI (s.data.toList.take k)) s[k]) := mixI_snoc s k hlt
      go_wp2
      exact ⟨⟨k + 1, by omega, by go_num, by rw [HS.out]; rfl⟩, by simp [intOf]; omega⟩
    · go_wp2
      go_ret
      exact ⟨ret_int (by rw [List.take_of_length_le (by simp; omega)]), rfl⟩

def lastB (v wd : Int) (j : Nat) : Int := v / 2 ^ (8 * (wd - 1 - (j : Int))).toNat % 256

def lastN (v wd : Int) (k j : Nat) : Int := if j < k then lastB v wd j else 0

def lastC (v wd : Int) (k : Nat) : Array Value := #[.int .u8 (lastN v wd k 0), .int .u8 (lastN v wd k 1), .int .u8 (lastN v wd k 2), .int .u8 (lastN v wd k 3), .int .u8 (lastN v wd k 4), .int .u8 (lastN v wd k 5), .int .u8 (lastN v wd k 6), .int .u8 (lastN v wd k 7)]

theorem lastC_get (v wd : Int) (k j : Nat) (h : j < 8) : (lastC v wd k)[j]? = some (.int .u8 (lastN v wd k j)) := by
  match j, h with
  | 0, _ => rfl | 1, _ => rfl | 2, _ => rfl | 3, _ => rfl | 4, _ => rfl | 5, _ => rfl | 6, _ => rfl | 7, _ => rfl

theorem lastC_zero (v wd : Int) : lastC v wd 0 = #[.int .u8 0, .int .u8 0, .int .u8 0, .int .u8 0, .int .u8 0, .int .u8 0, .int .u8 0, .int .u8 0] := by
  simp [lastC, lastN]

theorem lastC_set (v wd : Int) (k : Nat) (h : k < 8) : (lastC v wd k).setIfInBounds k (.int .u8 (lastB v wd k)) = lastC v wd (k + 1) := by
  match k, h with
  | 0, _ | 1, _ | 2, _ | 3, _ | 4, _ | 5, _ | 6, _ | 7, _ => simp [lastC, lastN]

theorem lastB_sum (v : Int) (k j : Nat) (h : j < k) : lastB v k j = v / 256 ^ (k - 1 - j) % 256 := by
  unfold lastB
  rw [show (8 * ((k : Int) - 1 - (j : Int))).toNat = 8 * (k - 1 - j) from by omega, Int.pow_mul]
  rfl

set_option maxHeartbeats 400000 in
theorem last_any (v wd : Int) (w : World) (h1 : 1 ≤ wd) (h2 : wd ≤ 8) (_hv0 : 0 ≤ v) (_hv : v < 18446744073709551616) :
    Calls Try.prog 109 #[.int .u64 v, .int .i64 wd] w fun e w' => e = .returned (.agg #[.int .u8 (lastN v wd wd.toNat 0), .int .u8 (lastN v wd wd.toNat 1), .int .u8 (lastN v wd wd.toNat 2), .int .u8 (lastN v wd wd.toNat 3), .int .u8 (lastN v wd wd.toNat 4), .int .u8 (lastN v wd wd.toNat 5), .int .u8 (lastN v wd wd.toNat 6), .int .u8 (lastN v wd wd.toNat 7)]) ∧ w' = (w.alloc (.cells (lastC v wd wd.toNat) 96)).alloc (.cells (lastC v wd wd.toNat) 96) := by
  go_enter Try.func109, Try.ntmps109
  go_wp2
  go_loopw [8] (fun i wr => ∃ k : Nat, k ≤ wd ∧ i = .int .i64 k ∧ wr = (w.alloc (Obj.cells
        #[Value.int IntKind.u8 0, Value.int IntKind.u8 0, Value.int IntKind.u8 0, Value.int IntKind.u8 0,
          Value.int IntKind.u8 0, Value.int IntKind.u8 0, Value.int IntKind.u8 0, Value.int IntKind.u8 0]
        96)).alloc (.cells (lastC v wd k) 96)) (fun i _ => (wd - intOf i).toNat)
  case atStart => exact ⟨0, by omega, rfl, by rw [lastC_zero]⟩
  case round =>
    obtain ⟨k, hk, rfl, rfl⟩ := hrel
    by_cases hlt : k < wd
    · have hg := lastC_get v wd k k (by omega)
      go_wp2
      refine ⟨⟨k + 1, by omega, by go_num, ?_⟩, by simp [intOf]; omega⟩
      have := lastC_set v wd k (by omega)
      unfold lastB at this
      rw [this]
    · obtain rfl : (k : Int) = wd := by omega
      have g0 := lastC_get v k k 0 (by omega)
      have g1 := lastC_get v k k 1 (by omega)
      have g2 := lastC_get v k k 2 (by omega)
      have g3 := lastC_get v k k 3 (by omega)
      have g4 := lastC_get v k k 4 (by omega)
      have g5 := lastC_get v k k 5 (by omega)
      have g6 := lastC_get v k k 6 (by omega)
      have g7 := lastC_get v k k 7 (by omega)
      go_wp2
      exact bodyPost_ret (v := .agg (lastC v k k)) (by simp [results, Try.results109, go_sem]; rfl) rfl ⟨rfl, rfl⟩

set_option maxHeartbeats 400000 in
theorem isum_any (s : ByteArray) (wd : Int) (w : World) (hs : s.size ≤ maxLen) (h1 : 1 ≤ wd) (h2 : wd ≤ 8) :
    Calls Try.prog 90 #[.string s, .int .i64 wd] w fun e w' => e = .returned (.string (sumText s.data.toList wd.toNat)) ∧ Below w.heap.size w w' := by
  have hbd := mixI_bd s.data.toList
  obtain ⟨n, rfl⟩ : ∃ n : Nat, wd = n := ⟨wd.toNat, by omega⟩
  have hW : ∀ (W : World) (g : Nat), g = W.heap.size → Sem.run Try.prog (convert 130 9 (.slice (some ⟨g, 0, none⟩) n 8)) (W.alloc (Obj.cells (lastC (mixI s.data.toList) n n) 96)) = .ok (.string (sumText s.data.toList n)) (W.alloc (Obj.cells (lastC (mixI s.data.toList) n n) 96)) := fun W g hg => hg ▸
    run_convert_bytes_arg (P := Try.prog) _ 130 5 Try.underlying130 Try.underlying5 W.heap.size 0 n 8 (sumNums (mixI s.data.toList) n) (sumNums_length _ n) (fun i hi => by
      rw [Nat.zero_add, World.cell?_alloc_new, lastC_get _ _ _ _ (by omega)]
      simp only [List.getD, sumNums_get _ n i hi, Option.getD_some]
      unfold lastN
      rw [if_pos hi, lastB_sum _ _ _ hi]) 9 Try.underlying9
  have h0 : (0 : Int) ≤ n := by omega
  unfold lastC at hW
  go_enter Try.func90, Try.ntmps90
  go_wp2_with (first
    | (go_at_call 110; refine (mix_any s _ hs).mono ?_; rintro e w' ⟨rfl, rfl⟩)
    | (go_at_call 109; refine (last_any _ _ _ h1 h2 hbd.1 hbd.2).mono ?_; rintro e w' ⟨rfl, rfl⟩)
    | go_in)
  go_ret
  refine ⟨rfl, ?_⟩
  exact ((((Below.refl _ _).alloc (Nat.le_refl _) _).alloc (by simp) _).alloc (by simp; omega) _)

theorem isum_no (s : ByteArray) (wd : Int) (w : World) (h : wd < 1 ∨ 8 < wd) :
    Calls Try.prog 90 #[.string s, .int .i64 wd] w fun e w' => e = .returned (.string ByteArray.empty) ∧ w' = w := by
  rcases h with h | h
  · have h' : ¬ 1 ≤ wd := by omega
    go_enter Try.func90, Try.ntmps90
    go_wp2
    go_ret
    exact ⟨rfl, rfl⟩
  · have h' : 1 ≤ wd := by omega
    have h3 : decide (wd ≤ 8) = false := by simp; omega
    go_enter Try.func90, Try.ntmps90
    go_wp2
    go_ret
    exact ⟨rfl, rfl⟩

end Go.Proofs.Ytbelneejghdmoaa
