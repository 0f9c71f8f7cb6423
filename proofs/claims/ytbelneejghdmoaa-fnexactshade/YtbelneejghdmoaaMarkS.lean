/-
  laws.markText, markStringS, heldStringS.
-/
import Derived.Test.YtbelneejghdmoaaThingH
import Derived.Deep.RegionWith
namespace Go.Proofs.Ytbelneejghdmoaa
open Go.ChangeShapes Go.WideShapes Go.ChangeAt Go.RowKit

def mkD : Nat → Nat → ByteArray → ByteArray
  | 0, _, o => o
  | f + 1, j, o => if j = 0 then o else mkD f (j / 10) (strOfNums [48 + (j : Int) % 10] ++ o)

/-- The k-th mark. -/
def mkT (k : Nat) : ByteArray := ⟨#[109]⟩ ++ mkD k k ByteArray.empty

theorem mkD_zero (f : Nat) (o : ByteArray) : mkD f 0 o = o := by
  cases f <;> simp [mkD]

theorem strOne (x : Int) : (strOfNums [x]).size = 1 := by
  rfl

set_option maxHeartbeats 400000 in
theorem markText_any (k : Nat) (w : World) (hk : 1 ≤ k) (hk2 : k ≤ 1000000000) :
    Calls Try.prog 72 #[.int .i64 k] w fun e w' => e = .returned (.string (mkT k)) ∧ Below w.heap.size w w' := by
  have hk0 : ¬ ((k : Int) ≤ 0) := by omega
  go_enter Try.func72, Try.ntmps72
  go_wp2
  go_loopw [0, 3] (fun v out wr => ∃ (f j : Nat) (o : ByteArray), v = .int .i64 j ∧ out = .string o ∧ j ≤ f ∧ o.size + j ≤ k ∧ Hid (mkD f j o = mkD k k ByteArray.empty) ∧ Below w.heap.size w wr) (fun v _ _ => (intOf v).toNat)
  case atStart => exact ⟨k, k, ByteArray.empty, rfl, rfl, Nat.le_refl _, by simp, rfl, Below.refl _ _⟩
  case round =>
    obtain ⟨f, j, o, rfl, rfl, hjf, hj, heq, hb⟩ := hrel
    by_cases hlt : 0 < j
    · have hjp : (0 : Int) < j := by omega
      have hcv := run_convert_bytes_arg (P := Try.prog) (wr.alloc (Obj.cells #[Value.int IntKind.u8 (48 + (j : Int) % 10)] 5)) 130 5 Try.underlying130 Try.underlying5 wr.heap.size 0 1 1 [48 + (j : Int) % 10] rfl (fun i hi => by
        obtain rfl : i = 0 := by omega
        simp) 9 Try.underlying9
      obtain ⟨f', rfl⟩ : ∃ f', f = f' + 1 := ⟨f - 1, by omega⟩
      have hst : Hid (mkD f' (j / 10) (strOfNums [48 + (j : Int) % 10] ++ o) = mkD k k ByteArray.empty) := by
        have := heq.out
        rw [mkD, if_neg (by omega)] at this
        exact this
      have h1 := strOne (48 + (j : Int) % 10)
      have hos : (strOfNums [48 + (j : Int) % 10] ++ o).size = 1 + o.size := by rw [ByteArray.size_append, h1]
      have HOS : Hid _ := hos
      clear hos
      generalize strOfNums [48 + (j : Int) % 10] = x at *
      go_wp2
      refine ⟨⟨f', j / 10, x ++ o, by go_num, rfl, by omega, by rw [HOS.out]; omega, hst, hb.alloc hb.size _⟩, by simp [intOf]; omega⟩
    · obtain rfl : j = 0 := by omega
      have hos : ¬ 9223372036854775807 < 1 + o.size := by omega
      go_wp2
      go_ret
      refine ⟨?_, hb⟩
      have := heq.out
      rw [mkD_zero] at this
      unfold mkT
      rw [← this]; rfl

theorem grown_trans {a b c : World} {row : Option Nat} (h1 : a.grownBy b row) (h2 : b.grownBy c row) : a.grownBy c row :=
  ⟨h2.os.trans h1.os, h2.tape.trans h1.tape, h2.output.trans h1.output, Nat.le_trans h1.size h2.size, fun k hk hne => (h2.block k (Nat.lt_of_lt_of_le hk h1.size) hne).trans (h1.block k hk hne)⟩

theorem grown_below {a b : World} (row : Option Nat) (h : Below a.heap.size a b) : a.grownBy b row := ⟨h.os, h.tape, h.output, h.size, fun k hk _ => h.block k hk⟩

theorem grown_refl (a : World) (row : Option Nat) : a.grownBy a row := ⟨rfl, rfl, rfl, Nat.le_refl _, fun _ _ _ => rfl⟩

/-- Marks from the k-th on. -/
def marks (k n : Nat) : List ByteArray := (List.range n).map fun i => mkT (k + i)

theorem marks_length (k n : Nat) : (marks k n).length = n := by simp [marks]

theorem marks_get (k n i : Nat) (h : i < n) : (marks k n)[i]? = some (mkT (k + i)) := by simp [marks, h]

theorem marks_set (k i : Nat) (xs : List Value) (h : i < xs.length) : ((marks k i).map Value.string ++ xs.drop i).set i (.string (mkT (k + i))) = (marks k (i + 1)).map Value.string ++ xs.drop (i + 1) := by
  have hl : ((marks k i).map Value.string).length = i := by simp [marks_length]
  rw [List.set_append_right _ _ (by omega), hl, Nat.sub_self, List.drop_eq_getElem_cons h, List.set_cons_zero]
  simp [marks, List.range_succ]

set_option maxHeartbeats 400000 in
theorem markS_any (a : Option Addr) (n cap k base : Nat) (xs : List Value) (w : World) (hown : w.ownsRow base 9 1 (.slice a n cap) n xs) (hk : 1 ≤ k) (hkn : k + n ≤ 100000000) :
    Calls Try.prog 29 #[.slice a n cap, .int .i64 k] w fun e w' => e = .returned (.int .i64 (k + n)) ∧ w'.ownsRow base 9 1 (.slice a n cap) n ((marks k n).map Value.string) ∧ w.grownBy w' (Value.slice a n cap).ownBlock := by
  go_enter Try.func29, Try.ntmps29
  go_wp2
  go_loopw [1, 5] (fun v i wr => ∃ (j : Nat), j ≤ n ∧ i = .int .i64 j ∧ v = .int .i64 (k + j) ∧ wr.ownsRow base 9 1 (.slice a n cap) n ((marks k j).map Value.string ++ xs.drop j) ∧ w.grownBy wr (Value.slice a n cap).ownBlock) (fun _ i _ => n - (intOf i).toNat)
  case atStart => exact ⟨0, Nat.zero_le _, rfl, by simp, by simpa [marks] using hown, grown_refl _ _⟩
  case round =>
    have hxl := hown.1
    clear hown
    obtain ⟨j, hj, rfl, rfl, hown, hgrow⟩ := hrel
    by_cases hlt : j < n
    · obtain ⟨g, cap', hv, hbg, hgl⟩ := hown.form (by omega)
      simp at hv
      obtain ⟨rfl, rfl⟩ := hv
      have hcall := markText_any (k + j) wr (by omega) (by omega)
      rw [show ((k + j : Nat) : Int) = (k : Int) + j from by omega] at hcall
      have hlt' : (j : Int) < n := by omega
      go_wp2_with fail
      refine hcall.mono ?_
      rintro e w2 ⟨rfl, hb2⟩
      have hown2 := hown.kept (grown_below none hb2) (.inr (by simp [Value.ownBlock]))
      have hst := hown2.stored j (.string (mkT (k + j)))
      rw [marks_set k j xs (by omega)] at hst
      have hcc : w2.cell? ⟨g, j, none⟩ = ((marks k j).map Value.string ++ xs.drop j)[j]? := hown2.cellAt j (by omega)
      rw [List.getElem?_eq_getElem (by simp [marks_length]; omega)] at hcc
      have hff := hown2.frozenAt j
      have hg2 := grown_trans hgrow (grown_trans (grown_below _ hb2) hst.2)
      have HH : Hid _ := And.intro hst.1 hg2
      clear hst hg2 hown hown2 hgrow hcall
      go_wp2
      exact ⟨⟨j + 1, by omega, by go_num, by go_num, HH.out.1, HH.out.2⟩, by simp [intOf]; omega⟩
    · obtain rfl : j = n := by omega
      go_wp2
      go_ret
      refine ⟨rfl, ?_, hgrow⟩
      rw [List.drop_of_length_le (by omega), List.append_nil] at hown
      exact hown

set_option maxHeartbeats 1000000 in
theorem heldS_any (a : Option Addr) (n cap k B : Nat) (w : World) (hrow : SRow w B a (marks k n)) (hB : B ≤ w.heap.size) (hk : 1 ≤ k) (hkn : k + n ≤ 100000000) :
    Calls Try.prog 30 #[.slice a n cap, .int .i64 k] w fun e w' => e = .returned (.int .i64 (k + n)) ∧ Below w.heap.size w w' := by
  go_enter Try.func30, Try.ntmps30
  go_wp2
  go_loopw [1, 5] (fun v i wr => ∃ (j : Nat), j ≤ n ∧ i = .int .i64 j ∧ v = .int .i64 (k + j) ∧ Below w.heap.size w wr) (fun _ i _ => n - (intOf i).toNat)
  case atStart => exact ⟨0, Nat.zero_le _, rfl, by simp, Below.refl _ _⟩
  case round =>
    obtain ⟨j, hj, rfl, rfl, hbel⟩ := hrel
    by_cases hlt : j < n
    · obtain ⟨b, off, ha, hbw, hc⟩ := hrow.at (k := j) (by rw [marks_length]; exact hlt)
      subst ha
      have hck : wr.cell? ⟨b, off + j, none⟩ = some (.string (mkT (k + j))) := (hbel.cell (p := ⟨b, off + j, none⟩) (by simp; omega)).trans (hc j _ (marks_get k n j hlt))
      have hcall := fun W => markText_any (k + j) W (by omega) (by omega)
      rw [show ((k + j : Nat) : Int) = (k : Int) + j from by omega] at hcall
      have hlt' : (j : Int) < n := by omega
      have hbs := hbel.size
      have HC : Hid _ := hcall
      clear hcall hc hrow
      go_wp2
      go_region_with (go_at_call 72; refine (HC.out _).mono ?_; rintro e w2 ⟨rfl, hb2⟩; have hck2 : w2.cell? ⟨b, off + j, none⟩ = some (.string (mkT (k + j))) := (hb2.cell (p := ⟨b, off + j, none⟩) (by simp; omega)).trans hck; have hB2 := hbel.drew.trans (hb2.mono (by simp; omega)))
      all_goals go_wp2
      all_goals exact ⟨⟨j + 1, by omega, by go_num, by go_num, hB2⟩, by simp [intOf]; omega⟩
    · obtain rfl : j = n := by omega
      go_wp2
      go_ret
      exact ⟨rfl, hbel⟩

end Go.Proofs.Ytbelneejghdmoaa
