/-
  laws.eqIntS, markIntS, heldIntS.
-/
import Derived.Test.YtbelneejghdmoaaMarkS
namespace Go.Proofs.Ytbelneejghdmoaa
open Go.ChangeShapes Go.WideShapes Go.ChangeAt Go.RowKit

/-- A slice's address leads to the numbers ns, in a block below B. -/
def IRow (w : World) (B : Nat) (a : Option Addr) (ss : List Int) : Prop :=
  ss = [] ∨ ∃ b off, a = some ⟨b, off, none⟩ ∧ b < B ∧ ∀ i s, ss[i]? = some s → w.cell? ⟨b, off + i, none⟩ = some (.int .i64 s)

theorem IRow.below {w w' : World} {B : Nat} {a : Option Addr} {ss : List Int} (h : IRow w B a ss) (hb : Below B w w') : IRow w' B a ss := by
  rcases h with h | ⟨b, off, ha, hlt, hc⟩
  · exact .inl h
  · exact .inr ⟨b, off, ha, hlt, fun i s hs => (hb.cell (p := ⟨b, off + i, none⟩) hlt).trans (hc i s hs)⟩

theorem IRow.mono {w : World} {B B' : Nat} {a : Option Addr} {ss : List Int} (h : IRow w B a ss) (hb : B ≤ B') : IRow w B' a ss := by
  rcases h with h | ⟨b, off, ha, hlt, hc⟩
  · exact .inl h
  · exact .inr ⟨b, off, ha, by omega, hc⟩

theorem IRow.below' {w w' : World} {a : Option Addr} {ss : List Int} (h : IRow w w.heap.size a ss) (hb : Below w.heap.size w w') : IRow w' w'.heap.size a ss := (h.below hb).mono hb.size

theorem IRow.at {w : World} {B : Nat} {a : Option Addr} {ss : List Int} (h : IRow w B a ss) {k : Nat} (hk : k < ss.length) :
    ∃ b off, a = some ⟨b, off, none⟩ ∧ b < B ∧ ∀ i s, ss[i]? = some s → w.cell? ⟨b, off + i, none⟩ = some (.int .i64 s) := by
  rcases h with h | h
  · subst h; simp at hk
  · exact h

theorem own_sliceI {w : World} {base : Nat} {v : Value} {ss : List Int} (h : w.ownsRow base 3 1 v ss.length (ss.map (Value.int .i64))) : ∃ a cap, v = .slice a ss.length cap ∧ IRow w w.heap.size a ss := by
  rcases h.2 with ⟨hv, h0⟩ | ⟨g, cap, cur, hv, _⟩
  · exact ⟨none, 0, by rw [hv, h0], .inl (List.eq_nil_of_length_eq_zero h0)⟩
  · subst hv
    refine ⟨_, _, rfl, .inr ⟨g, 0, rfl, (h.lt g rfl).2, fun i s hs => ?_⟩⟩
    have hlt : i < ss.length := (List.getElem?_eq_some_iff.1 hs).1
    have := h.cellAt i (by simpa using hlt)
    rw [Nat.zero_add, this, List.getElem?_map, hs]
    rfl

theorem own_rowI {w : World} {base : Nat} {a : Option Addr} {c : Nat} {ss : List Int} (h : w.ownsRow base 3 1 (.slice a ss.length c) ss.length (ss.map (Value.int .i64))) : IRow w w.heap.size a ss := by
  obtain ⟨a', c', e, hr⟩ := own_sliceI h
  cases e
  exact hr

theorem own_keepI {w w' : World} {base : Nat} {v : Value} {n : Nat} {xs : List Value} (h : w.ownsRow base 3 1 v n xs) (hb : Below w.heap.size w w') : w'.ownsRow base 3 1 v n xs := h.kept (grown_below none hb) (Classical.em _)

set_option maxHeartbeats 400000 in
theorem eqI_yes (a a' : Option Addr) (cap cap' : Nat) (ss : List Int) (w : World) (B B' : Nat) (hrow : IRow w B a ss) (hrow' : IRow w B' a' ss) (hl : ss.length ≤ 1048576) :
    Calls Try.prog 33 #[.slice a ss.length cap, .slice a' ss.length cap'] w fun e w' => e = .returned (.bool true) ∧ ∃ n, w' = w.drewN n := by
  go_enter Try.func33, Try.ntmps33
  go_wp2
  go_loopw [5] (fun i wr => ∃ k n : Nat, k ≤ ss.length ∧ i = .int .i64 k ∧ wr = w.drewN n) (fun i _ => ss.length - (intOf i).toNat)
  case atStart => exact ⟨0, 0, Nat.zero_le _, rfl, rfl⟩
  case round =>
    obtain ⟨k, n, hk, rfl, rfl⟩ := hrel
    by_cases hlt : k < ss.length
    · obtain ⟨b, off, ha, hb, hc⟩ := hrow.at hlt
      obtain ⟨b', off', ha', hb', hc'⟩ := hrow'.at hlt
      subst ha ha'
      have hck := hc k ss[k] (List.getElem?_eq_getElem hlt)
      have hck' := hc' k ss[k] (List.getElem?_eq_getElem hlt)
      clear hc hc' hrow hrow'
      generalize ss[k] = s at *
      go_wp2
      go_quiet (fail)
      go_wp2
      exact ⟨⟨k + 1, _, by omega, by go_num, rfl⟩, by simp [intOf]; omega⟩
    · go_wp2
      go_ret
      exact ⟨rfl, _, rfl⟩

/-- Numbers from the k-th on. -/
def nums (k n : Nat) : List Int := (List.range n).map (fun i : Nat => (k : Int) + (i : Int))

theorem nums_length (k n : Nat) : (nums k n).length = n := by simp [nums]

theorem nums_get (k n i : Nat) (h : i < n) : (nums k n)[i]? = some ((k : Int) + i) := by simp [nums, h]

theorem nums_set (k i : Nat) (xs : List Value) (h : i < xs.length) : ((nums k i).map (Value.int .i64) ++ xs.drop i).set i (.int .i64 ((k : Int) + i)) = (nums k (i + 1)).map (Value.int .i64) ++ xs.drop (i + 1) := by
  have hl : ((nums k i).map (Value.int .i64)).length = i := by simp [nums_length]
  rw [List.set_append_right _ _ (by omega), hl, Nat.sub_self, List.drop_eq_getElem_cons h, List.set_cons_zero]
  simp [nums, List.range_succ]

set_option maxHeartbeats 400000 in
theorem markI_any (a : Option Addr) (n cap k base : Nat) (z : Int) (xs : List Value) (w : World) (hz : z = k) (hown : w.ownsRow base 3 1 (.slice a n cap) n xs) (hk : 1 ≤ k) (hkn : k + n ≤ 100000000) :
    Calls Try.prog 34 #[.slice a n cap, .int .i64 z] w fun e w' => e = .returned (.int .i64 (z + n)) ∧ w'.ownsRow base 3 1 (.slice a n cap) n ((nums k n).map (Value.int .i64)) ∧ w.grownBy w' (Value.slice a n cap).ownBlock := by
  subst hz
  go_enter Try.func34, Try.ntmps34
  go_wp2
  go_loopw [1, 5] (fun v i wr => ∃ (j : Nat), j ≤ n ∧ i = .int .i64 j ∧ v = .int .i64 (k + j) ∧ wr.ownsRow base 3 1 (.slice a n cap) n ((nums k j).map (Value.int .i64) ++ xs.drop j) ∧ w.grownBy wr (Value.slice a n cap).ownBlock) (fun _ i _ => n - (intOf i).toNat)
  case atStart => exact ⟨0, Nat.zero_le _, rfl, by simp, by simpa [nums] using hown, grown_refl _ _⟩
  case round =>
    have hxl := hown.1
    clear hown
    obtain ⟨j, hj, rfl, rfl, hown, hgrow⟩ := hrel
    by_cases hlt : j < n
    · obtain ⟨g, cap', hv, hbg, hgl⟩ := hown.form (by omega)
      simp at hv
      obtain ⟨rfl, rfl⟩ := hv
      have hlt' : (j : Int) < n := by omega
      have hst := hown.stored j (.int .i64 ((k : Int) + j))
      rw [nums_set k j xs (by omega)] at hst
      have hcc : wr.cell? ⟨g, j, none⟩ = ((nums k j).map (Value.int .i64) ++ xs.drop j)[j]? := hown.cellAt j (by omega)
      rw [List.getElem?_eq_getElem (by simp [nums_length]; omega)] at hcc
      have hff := hown.frozenAt j
      have hg2 := grown_trans hgrow hst.2
      have HH : Hid _ := And.intro hst.1 hg2
      clear hst hg2 hown hgrow
      go_wp2
      exact ⟨⟨j + 1, by omega, by go_num, by go_num, HH.out.1, HH.out.2⟩, by simp [intOf]; omega⟩
    · obtain rfl : j = n := by omega
      go_wp2
      go_ret
      refine ⟨rfl, ?_, hgrow⟩
      rw [List.drop_of_length_le (by omega), List.append_nil] at hown
      exact hown

set_option maxHeartbeats 1000000 in
theorem heldI_any (a : Option Addr) (n cap k B : Nat) (z : Int) (w : World) (hz : z = k) (hrow : IRow w B a (nums k n)) (_ : B ≤ w.heap.size) (hk : 1 ≤ k) (hkn : k + n ≤ 100000000) :
    Calls Try.prog 35 #[.slice a n cap, .int .i64 z] w fun e w' => e = .returned (.int .i64 (z + n)) ∧ Below w.heap.size w w' := by
  subst hz
  go_enter Try.func35, Try.ntmps35
  go_wp2
  go_loopw [1, 5] (fun v i wr => ∃ (j m : Nat), j ≤ n ∧ i = .int .i64 j ∧ v = .int .i64 (k + j) ∧ wr = w.drewN m) (fun _ i _ => n - (intOf i).toNat)
  case atStart => exact ⟨0, 0, Nat.zero_le _, rfl, by simp, rfl⟩
  case round =>
    obtain ⟨j, m, hj, rfl, rfl, rfl⟩ := hrel
    by_cases hlt : j < n
    · obtain ⟨b, off, ha, hbw, hc⟩ := hrow.at (k := j) (by rw [nums_length]; exact hlt)
      subst ha
      have hck : w.cell? ⟨b, off + j, none⟩ = some (.int .i64 ((k : Int) + j)) := hc j _ (nums_get k n j hlt)
      have hlt' : (j : Int) < n := by omega
      clear hc hrow
      go_wp2
      exact ⟨⟨j + 1, _, by omega, by go_num, by go_num, rfl⟩, by simp [intOf]; omega⟩
    · obtain rfl : j = n := by omega
      go_wp2
      go_ret
      exact ⟨rfl, ⟨rfl, rfl, rfl, Nat.le_refl _, fun _ _ => rfl⟩⟩

end Go.Proofs.Ytbelneejghdmoaa
