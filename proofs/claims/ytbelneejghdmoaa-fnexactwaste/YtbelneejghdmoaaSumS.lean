/-
  Contracts of spec.Sum and impl.Sum (chapter 1): both give the same text.
-/
import Derived.Test.YtbelneejghdmoaaProg
import Derived.WalkKit
import Derived.ProofKit
import Derived.Deep.AppendLies
namespace Go.Proofs.Ytbelneejghdmoaa
open Go.ChangeShapes Go.WideShapes Go.ChangeAt Go.RowKit

theorem wrap_u64_bd {a : Int} : 0 ≤ IntKind.u64.wrap a ∧ IntKind.u64.wrap a < 18446744073709551616 := by
  simp [IntKind.wrap, IntKind.bits, IntKind.signed]
  omega

def mixStep (v : Int) (b : UInt8) : Int := IntKind.u64.wrap (bits BinOp.xor IntKind.u64 v (IntKind.u64.wrap b.toNat) * 1099511628211)

def mixI (l : List UInt8) : Int := l.foldl mixStep 14695981039346656037

theorem mixI_bd (l : List UInt8) : 0 ≤ mixI l ∧ mixI l < 18446744073709551616 := by
  unfold mixI
  rcases l.eq_nil_or_concat with rfl | ⟨r, b, rfl⟩
  · simp
  · simp only [List.concat_eq_append, List.foldl_append, List.foldl_cons, List.foldl_nil]
    exact wrap_u64_bd

theorem mixI_snoc (s : ByteArray) (k : Nat) (h : k < s.size) : mixI (s.data.toList.take (k + 1)) = mixStep (mixI (s.data.toList.take k)) s[k] := by
  rw [List.take_succ_eq_append_getElem (by simpa using h)]
  unfold mixI
  rw [List.foldl_append]; rfl

/-- The sum's bytes, the highest first. -/
def sumNums (v : Int) : Nat → List Int
  | 0 => []
  | k + 1 => (v / 256 ^ k % 256) :: sumNums v k

theorem sumNums_length (v : Int) (k : Nat) : (sumNums v k).length = k := by
  induction k with
  | zero => rfl
  | succ k ih => simp [sumNums, ih]

theorem sumNums_get (v : Int) (k : Nat) : ∀ i, i < k → (sumNums v k)[i]? = some (v / 256 ^ (k - 1 - i) % 256) := by
  induction k with
  | zero => intro i h; omega
  | succ k ih =>
    intro i h
    match i with
    | 0 => simp [sumNums]
    | i + 1 =>
      rw [sumNums, List.getElem?_cons_succ, ih i (by omega), show k - 1 - i = k + 1 - 1 - (i + 1) from by omega]

def sumCells (v : Int) (k : Nat) : List Value := (sumNums v k).map (Value.int .u8)

theorem sumCells_length (v : Int) (k : Nat) : (sumCells v k).length = k := by simp [sumCells, sumNums_length]

theorem div_next (v : Int) (k : Nat) : v / 256 ^ k / 256 = v / 256 ^ (k + 1) := by
  rw [Int.ediv_ediv_of_nonneg (Int.pow_nonneg (by decide)), Int.pow_succ]

theorem div_bd (v : Int) (k : Nat) (h0 : 0 ≤ v) (h : v < 18446744073709551616) : 0 ≤ v / 256 ^ k ∧ v / 256 ^ k < 18446744073709551616 := by
  have hp : (0 : Int) < 256 ^ k := Int.pow_pos (by decide)
  exact ⟨Int.ediv_nonneg h0 (Int.le_of_lt hp), Int.lt_of_le_of_lt (Int.ediv_le_self _ h0) h⟩

/-- The text of the sum. -/
def sumText (l : List UInt8) (n : Nat) : ByteArray := strOfNums (sumNums (mixI l) n)

theorem Try.infoByte : (Try.prog.info? 5).map (fun i => (i.zero, i.size, i.bytes)) = some (some (.int .u8 0), 1, 1) := by kernel_rfl

set_option maxHeartbeats 400000 in
theorem ssum_any (s : ByteArray) (wd : Int) (w : World) (hs : s.size ≤ maxLen) (h1 : 1 ≤ wd) (h2 : wd ≤ 8) :
    Calls Try.prog 82 #[.string s, .int .i64 wd] w fun e w' => e = .returned (.string (sumText s.data.toList wd.toNat)) ∧ Below w.heap.size w w' := by
  unfold maxLen at hs
  obtain ⟨i0, hi, hz0, hz1, hz2⟩ := info_parts Try.infoByte
  go_enter Try.func82, Try.ntmps82
  go_wp2
  go_loop [5, 6] (fun v i => ∃ (k : Nat), k ≤ s.size ∧ i = .int .i64 k ∧ v = .int .u64 (mixI (s.data.toList.take k))) (fun _ i => s.size - (intOf i).toNat)
  case atStart => exact ⟨0, Nat.zero_le _, rfl, rfl⟩
  case round =>
    obtain ⟨k, hk, rfl, rfl⟩ := hrel
    by_cases hlt : k < s.size
    · have HS : Hid (mixI (s.data.toList.take (k + 1)) = mixStep (mixI (s.data.toList.take k)) s[k]) := mixI_snoc s k hlt
      go_wp2
      exact ⟨⟨k + 1, by omega, by go_num, by rw [HS.out]; rfl⟩, by simp [intOf]; omega⟩
    · have hV : Hid (mixI (s.data.toList.take k) = mixI s.data.toList) := by
        show _ = _
        rw [List.take_of_length_le (by simp; omega)]
      have hbd := mixI_bd (s.data.toList.take k)
      generalize mixI (s.data.toList.take k) = V at *
      go_wp2
      go_loopw [5, 7, 8] (fun v out i wr => ∃ (k : Nat) (g c : Nat), k ≤ wd ∧ i = .int .i64 k ∧ v = .int .u64 (V / 256 ^ k) ∧ out = .slice (some ⟨g, 0, none⟩) k c ∧ wr.ownsRow w.heap.size 5 1 (.slice (some ⟨g, 0, none⟩) k c) k (sumCells V k) ∧ Below w.heap.size w wr ∧ w.heap.size ≤ wr.heap.size) (fun _ _ i _ => (wd - intOf i).toNat)
      case atStart => exact ⟨0, _, _, by omega, rfl, by simp, rfl, World.ownsRow_lit w #[] 0 (Nat.le_refl _) (by simp [maxLen]) rfl, (Below.refl _ _).alloc (Nat.le_refl _) _, by simp⟩
      case round =>
        obtain ⟨j, g, c, hj, rfl, rfl, rfl, hown, hbel, hsz⟩ := hrel
        by_cases hlt2 : j < wd
        · have hdb := div_bd V j hbd.1 hbd.2
          go_wp2_with (first
            | (at_builtin; refine wpList_append_own _ rfl _ _ 130 rfl w.heap.size 5 i0 (.int .u8 0) 1 1 Try.underlying130 hi hz0 hz1 hz2 rfl (by decide) _ 1 [.int .u8 (V / 256 ^ j % 256)] rfl ?c0 ⟨g, 0, none⟩ j c (sumCells V j) rfl (by rw [sumCells_length]; omega) ?c1 ?c2 ?c3 ?c4 ?c5 ?_)
            | go_in)
          case c0 => exact World.ownsRow_lit wr _ 1 hsz (by simp [maxLen]) rfl
          case c1 => exact (hown.alloc _).cells rfl
          case c2 => intro u hu; obtain ⟨_, _, rfl⟩ := List.mem_map.1 hu; rfl
          case c3 => unfold maxLen; omega
          case c4 => omega
          case c5 => simp; omega
          intro v' w1 hown' hgrow _
          obtain ⟨g', c', hv', hg1, hg2⟩ := hown'.form (by omega)
          subst hv'
          have hb1 : Below w.heap.size w w1 := (hbel.alloc hsz _).grown hgrow (by simp; omega) (by intro k hk; simp [Value.ownBlock] at hk; omega)
          rw [Nat.add_comm 1 j] at hown' ⊢
          clear hown hbel hgrow
          go_wp2
          refine ⟨⟨j + 1, g', c', by omega, by go_num, by rw [← div_next], rfl, hown', hb1, by omega⟩, by simp [intOf]; omega⟩
        · obtain rfl : (j : Int) = wd := by omega
          have hcv := run_convert_bytes_arg (P := Try.prog) wr 130 5 Try.underlying130 Try.underlying5 g 0 j c (sumNums V j) (sumNums_length V j) (fun i hi => by
            rw [Nat.zero_add, hown.cellAt i (by omega)]
            have := sumNums_length V j
            simp [sumCells, List.getD, List.getElem?_eq_getElem (show i < (sumNums V j).length by omega)]) 9 Try.underlying9
          go_wp2
          go_ret
          refine ⟨?_, hbel⟩
          unfold sumText
          rw [← hV.out]; rfl

/-- No width: the empty text. -/
theorem ssum_no (s : ByteArray) (wd : Int) (w : World) (h : wd < 1 ∨ 8 < wd) :
    Calls Try.prog 82 #[.string s, .int .i64 wd] w fun e w' => e = .returned (.string ByteArray.empty) ∧ w' = w := by
  rcases h with h | h
  · have h' : ¬ 1 ≤ wd := by omega
    go_enter Try.func82, Try.ntmps82
    go_wp2
    go_ret
    exact ⟨rfl, rfl⟩
  · have h' : 1 ≤ wd := by omega
    have h3 : decide (wd ≤ 8) = false := by simp; omega
    go_enter Try.func82, Try.ntmps82
    go_wp2
    go_ret
    exact ⟨rfl, rfl⟩

end Go.Proofs.Ytbelneejghdmoaa
