/-
  Slices of strings that are read; laws.szStringS, toStringS, eqStringS.
-/
import Derived.Test.YtbelneejghdmoaaProg
import Derived.WalkKit
import Derived.ProofKit
import Derived.Deep.AppendLies
import Derived.Deep.QuietTactic
import Derived.BigQuiet
namespace Go.Proofs.Ytbelneejghdmoaa
open Go.ChangeShapes Go.WideShapes Go.ChangeAt Go.RowKit

theorem ret_i {k : IntKind} {a b : Int} (h : a = b) : Ending.returned (.int k a) = .returned (.int k b) := by rw [h]

/-- A slice's address leads to the strings ss, in a block below B. -/
def SRow (w : World) (B : Nat) (a : Option Addr) (ss : List ByteArray) : Prop :=
  ss = [] ∨ ∃ b off, a = some ⟨b, off, none⟩ ∧ b < B ∧ ∀ i s, ss[i]? = some s → w.cell? ⟨b, off + i, none⟩ = some (.string s)

theorem SRow.below {w w' : World} {B : Nat} {a : Option Addr} {ss : List ByteArray} (h : SRow w B a ss) (hb : Below B w w') : SRow w' B a ss := by
  rcases h with h | ⟨b, off, ha, hlt, hc⟩
  · exact .inl h
  · exact .inr ⟨b, off, ha, hlt, fun i s hs => (hb.cell (p := ⟨b, off + i, none⟩) hlt).trans (hc i s hs)⟩

theorem SRow.mono {w : World} {B B' : Nat} {a : Option Addr} {ss : List ByteArray} (h : SRow w B a ss) (hb : B ≤ B') : SRow w B' a ss := by
  rcases h with h | ⟨b, off, ha, hlt, hc⟩
  · exact .inl h
  · exact .inr ⟨b, off, ha, by omega, hc⟩

theorem SRow.at {w : World} {B : Nat} {a : Option Addr} {ss : List ByteArray} (h : SRow w B a ss) {k : Nat} (hk : k < ss.length) :
    ∃ b off, a = some ⟨b, off, none⟩ ∧ b < B ∧ ∀ i s, ss[i]? = some s → w.cell? ⟨b, off + i, none⟩ = some (.string s) := by
  rcases h with h | h
  · subst h; simp at hk
  · exact h

/-- The strings' bytes and their number. -/
def bulk (ss : List ByteArray) : Nat := (ss.map ByteArray.size).sum

theorem bulk_take (ss : List ByteArray) (k : Nat) (s : ByteArray) (h : ss[k]? = some s) : bulk (ss.take (k + 1)) = bulk (ss.take k) + s.size := by
  obtain ⟨hlt, rfl⟩ := List.getElem?_eq_some_iff.1 h
  unfold bulk
  rw [List.take_succ_eq_append_getElem hlt, List.map_append, List.sum_append]
  simp

theorem bulk_le (ss : List ByteArray) (k : Nat) : bulk (ss.take k) ≤ bulk ss := by
  have h : bulk ss = bulk (ss.take k) + bulk (ss.drop k) := by
    unfold bulk
    rw [← List.sum_append, ← List.map_append, List.take_append_drop]
  omega

theorem le_bulk (ss : List ByteArray) (k : Nat) (s : ByteArray) (h : ss[k]? = some s) : s.size ≤ bulk ss := by
  have := bulk_take ss k s h
  have := bulk_le ss (k + 1)
  omega

set_option maxHeartbeats 400000 in
theorem szS_yes (a : Option Addr) (cap : Nat) (ss : List ByteArray) (left : Int) (w : World) (B : Nat) (hrow : SRow w B a ss)
    (h2 : left ≤ 1048576) (hfit : (ss.length : Int) + bulk ss ≤ left) :
    Calls Try.prog 58 #[.slice a ss.length cap, .int .i64 left] w fun e w' => e = .returned (.int .i64 (left - ss.length - bulk ss)) ∧ w' = w := by
  go_enter Try.func58, Try.ntmps58
  go_wp2
  go_loop [1, 5] (fun l i => ∃ k : Nat, k ≤ ss.length ∧ i = .int .i64 k ∧ l = .int .i64 (left - ss.length - bulk (ss.take k))) (fun _ i => ss.length - (intOf i).toNat)
  case atStart => exact ⟨0, Nat.zero_le _, rfl, by simp [bulk]⟩
  case round =>
    obtain ⟨k, hk, rfl, rfl⟩ := hrel
    by_cases hlt : k < ss.length
    · obtain ⟨b, off, ha, hb, hc⟩ := hrow.at hlt
      subst ha
      have hck := hc k ss[k] (List.getElem?_eq_getElem hlt)
      have hbt : Hid (bulk (ss.take (k + 1)) = bulk (ss.take k) + ss[k].size) := bulk_take ss k _ (List.getElem?_eq_getElem hlt)
      have hle := bulk_le ss (k + 1)
      rw [hbt.out] at hle
      clear hc hrow
      generalize ss[k] = s at *
      go_wp2
      refine ⟨⟨k + 1, by omega, by go_num, ?_⟩, by simp [intOf]; omega⟩
      rw [hbt.out]; go_num
    · go_wp2
      go_ret
      exact ⟨ret_i (by rw [List.take_of_length_le (by omega)]), rfl⟩

set_option maxHeartbeats 400000 in
theorem szS_no (a : Option Addr) (cap : Nat) (ss : List ByteArray) (left : Int) (w : World) (B : Nat) (hrow : SRow w B a ss)
    (hl : ss.length ≤ maxLen) (hs : ∀ s ∈ ss, s.size ≤ maxLen)
    (h1 : 0 ≤ left) (h2 : left ≤ 1048576) (hfit : left < (ss.length : Int) + bulk ss) :
    Calls Try.prog 58 #[.slice a ss.length cap, .int .i64 left] w fun e w' => e = .returned (.int .i64 (-1)) ∧ w' = w := by
  unfold maxLen at hl hs
  by_cases hn : left < ss.length
  · go_enter Try.func58, Try.ntmps58
    go_wp2
    go_ret
    exact ⟨rfl, rfl⟩
  · go_enter Try.func58, Try.ntmps58
    go_wp2
    go_loop [1, 5] (fun l i => ∃ k : Nat, k ≤ ss.length ∧ i = .int .i64 k ∧ l = .int .i64 (left - ss.length - bulk (ss.take k)) ∧ (ss.length : Int) + bulk (ss.take k) ≤ left) (fun _ i => ss.length - (intOf i).toNat)
    case atStart => exact ⟨0, Nat.zero_le _, rfl, by simp [bulk], by simp [bulk]; omega⟩
    case round =>
      obtain ⟨k, hk, rfl, rfl, hfk⟩ := hrel
      by_cases hlt : k < ss.length
      · obtain ⟨b, off, ha, hb, hc⟩ := hrow.at hlt
        subst ha
        have hck := hc k ss[k] (List.getElem?_eq_getElem hlt)
        have hbt : Hid (bulk (ss.take (k + 1)) = bulk (ss.take k) + ss[k].size) := bulk_take ss k _ (List.getElem?_eq_getElem hlt)
        have hsz := hs ss[k] (List.getElem_mem hlt)
        clear hc hrow hs
        generalize ss[k] = s at *
        by_cases hgo : left - ss.length - bulk (ss.take k) - s.size < 0
        · go_wp2
          go_ret
          exact ⟨rfl, rfl⟩
        · go_wp2
          refine ⟨⟨k + 1, by omega, by go_num, ?_, ?_⟩, by simp [intOf]; omega⟩
          · rw [hbt.out]; go_num
          · rw [hbt.out]; omega
      · exfalso
        rw [List.take_of_length_le (by omega)] at hfk
        omega

theorem Try.infoStr : (Try.prog.info? 9).map (fun i => (i.zero, i.size, i.bytes)) = some (some (.string ⟨#[]⟩), 1, 16) := by kernel_rfl

/-- What a row of the call's own holds, as strings. -/
theorem SRow.own {w : World} {base : Nat} {g c : Nat} {ss : List ByteArray} (h : w.ownsRow base 9 1 (.slice (some ⟨g, 0, none⟩) ss.length c) ss.length (ss.map Value.string)) : SRow w w.heap.size (some ⟨g, 0, none⟩) ss := by
  refine .inr ⟨g, 0, rfl, (h.lt g rfl).2, fun i s hs => ?_⟩
  obtain ⟨hlt, rfl⟩ := List.getElem?_eq_some_iff.1 hs
  rw [Nat.zero_add, h.cellAt i (by omega)]
  simp [hlt]

theorem set_snoc (ss : List ByteArray) (k : Nat) (z : Value) (h : k < ss.length) :
    ((ss.take k).map Value.string ++ List.replicate (ss.length - k) z).set k (.string ss[k]) = (ss.take (k + 1)).map Value.string ++ List.replicate (ss.length - (k + 1)) z := by
  have hl : ((ss.take k).map Value.string).length = k := by simp; omega
  obtain ⟨m, hm⟩ : ∃ m, ss.length - k = m + 1 := ⟨ss.length - k - 1, by omega⟩
  rw [hm, show ss.length - (k + 1) = m from by omega, List.set_append_right _ _ (by omega), hl, Nat.sub_self, List.replicate_succ, List.set_cons_zero, List.take_succ_eq_append_getElem h, List.map_append, List.append_assoc]
  rfl

set_option maxHeartbeats 400000 in
theorem toS_any (a : Option Addr) (cap : Nat) (ss : List ByteArray) (w : World) (hrow : SRow w w.heap.size a ss) (hl : ss.length ≤ 1048576) :
    Calls Try.prog 60 #[.slice a ss.length cap] w fun e w' => ∃ g, e = .returned (.slice (some ⟨g, 0, none⟩) ss.length ss.length) ∧ w.heap.size ≤ g ∧
      w'.ownsRow w.heap.size 9 1 (.slice (some ⟨g, 0, none⟩) ss.length ss.length) ss.length (ss.map Value.string) ∧ Below w.heap.size w w' := by
  obtain ⟨i0, hi, hz0, hz1, hz2⟩ := info_parts Try.infoStr
  go_enter Try.func60, Try.ntmps60
  go_wp2_with (at_make; refine wpList_make_full _ rfl _ _ 38 rfl w.heap.size 9 i0 (.string ⟨#[]⟩) 1 Try.underlying38 hi hz0 hz1 .i64 .i64 _ _ ss.length rfl rfl rfl rfl ?c1 ?c2 ?c3 ?_)
  case c1 => rw [hz2]; omega
  case c2 => unfold maxLen; omega
  case c3 => exact Nat.le_refl _
  intro w1 hown hgrow
  have hb1 : Below w.heap.size w w1 := (Below.refl _ _).grown hgrow (Nat.le_refl _) (by simp)
  rw [toList_madeCells_one] at hown
  clear hgrow
  go_wp2
  go_loopw [4] (fun i wr => ∃ k : Nat, k ≤ ss.length ∧ i = .int .i64 k ∧ wr.ownsRow w.heap.size 9 1 (.slice (some ⟨w.heap.size, 0, none⟩) ss.length ss.length) ss.length ((ss.take k).map Value.string ++ List.replicate (ss.length - k) (.string ⟨#[]⟩)) ∧ Below w.heap.size w wr) (fun i _ => ss.length - (intOf i).toNat)
  case atStart => exact ⟨0, Nat.zero_le _, rfl, by simpa using hown, hb1⟩
  case round =>
    obtain ⟨k, hk, rfl, hown, hbel⟩ := hrel
    by_cases hlt : k < ss.length
    · obtain ⟨b, off, ha, hb, hc⟩ := hrow.at hlt
      subst ha
      have hck : wr.cell? ⟨b, off + k, none⟩ = some (.string ss[k]) := (hbel.cell (p := ⟨b, off + k, none⟩) hb).trans (hc k ss[k] (List.getElem?_eq_getElem hlt))
      have hset : Hid (((ss.take k).map Value.string ++ List.replicate (ss.length - k) (Value.string ⟨#[]⟩)).set k (.string ss[k]) = (ss.take (k + 1)).map Value.string ++ List.replicate (ss.length - (k + 1)) (.string ⟨#[]⟩)) := set_snoc ss k _ hlt
      have hst := hown.stored k (.string ss[k])
      have hcw : wr.cell? ⟨w.heap.size, k, none⟩ = some (.string ⟨#[]⟩) := by
        have hl : ((ss.take k).map Value.string).length = k := by simp; omega
        rw [hown.cellAt k (by omega), List.getElem?_append_right (by omega), hl, Nat.sub_self, List.getElem?_replicate, if_pos (by omega)]
      have hfw := hown.frozenAt k
      rw [hset.out] at hst
      obtain ⟨hst1, hst2⟩ := hst
      have hb2 := hbel.setCell (p := ⟨w.heap.size, k, none⟩) (Nat.le_refl _) (.string ss[k])
      have HS : Hid (_ ∧ _) := And.intro hst1 hb2
      clear hc hrow hst1 hst2 hb2 hown hset
      generalize ss[k] = s at *
      go_wp2
      exact ⟨⟨k + 1, by omega, by go_num, HS.out.1, HS.out.2⟩, by simp [intOf]; omega⟩
    · go_wp2
      go_ret
      refine ⟨_, rfl, Nat.le_refl _, ?_, hbel⟩
      rw [List.take_of_length_le (by omega), show ss.length - k = 0 from by omega] at hown
      simpa using hown

set_option maxHeartbeats 400000 in
theorem eqS_yes (a a' : Option Addr) (cap cap' : Nat) (ss : List ByteArray) (w : World) (B B' : Nat) (hrow : SRow w B a ss) (hrow' : SRow w B' a' ss) (hl : ss.length ≤ 1048576) :
    Calls Try.prog 28 #[.slice a ss.length cap, .slice a' ss.length cap'] w fun e w' => e = .returned (.bool true) ∧ ∃ n, w' = w.drewN n := by
  go_enter Try.func28, Try.ntmps28
  go_wp2
  go_loopw [5] (fun i wr => ∃ k n : Nat, k ≤ ss.length ∧ i = .int .i64 k ∧ wr = w.drewN n) (fun i _ => ss.length - (intOf i).toNat)
  case atStart => exact ⟨0, 0, Nat.zero_le _, rfl, rfl⟩
  case round =>
    obtain ⟨k, n, hk, rfl, rfl⟩ := hrel
    by_cases hlt : k < ss.length
    · obtain ⟨b, off, ha, hb, hc⟩ := hrow.at hlt
      obtain ⟨b', off', ha', hb', hc'⟩ := hrow'.at hlt
      subst ha ha'
      have hck := hc k ss[k] (List.getElem?_eq_getElem hlt)
      have hck' := hc' k ss[k] (List.getElem?_eq_getElem hlt)
      clear hc hc' hrow hrow'
      generalize ss[k] = s at *
      go_wp2
      go_quiet (fail)
      go_wp2
      exact ⟨⟨k + 1, _, by omega, by go_num, rfl⟩, by simp [intOf]; omega⟩
    · go_wp2
      go_ret
      exact ⟨rfl, _, rfl⟩

end Go.Proofs.Ytbelneejghdmoaa
