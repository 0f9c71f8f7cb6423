/-
  laws.szLog, toLog, eqLog; spec.ValidLog.
-/
import Derived.Test.YtdecihmplkgfkaaThingH
import Derived.Deep.RegionWith
namespace Go.Proofs.Ytdecihmplkgfkaa
open Go.ChangeShapes Go.WideShapes Go.ChangeAt Go.RowKit

set_option maxHeartbeats 400000 in
theorem szLog_yes (a b : Option Addr) (c d : Nat) (ss tt : List ByteArray) (left : Int) (w : World) (hr : SRow w w.heap.size a ss) (hq : SRow w w.heap.size b tt)
    (h2 : left ≤ 1048576) (hfit : (ss.length : Int) + bulk ss + tt.length + bulk tt ≤ left) :
    Calls Try.prog 28 #[.agg #[.slice a ss.length c, .slice b tt.length d], .int .i64 left] w fun e w' => e = .returned (.int .i64 (left - ss.length - bulk ss - tt.length - bulk tt)) ∧ Below w.heap.size w w' := by
  have hb : Below w.heap.size w (w.alloc (.cells #[.slice a ss.length c, .slice b tt.length d] 37)) := (Below.refl _ _).alloc (Nat.le_refl _) _
  go_enter Try.func28, Try.ntmps28
  go_wp2_with fail
  refine (szS_yes a c ss _ _ w.heap.size (hr.below hb) (by omega) (by omega)).mono ?_
  rintro e w' ⟨rfl, rfl⟩
  go_wp2_with fail
  refine (szS_yes b d tt _ _ w.heap.size (hq.below hb) (by omega) (by omega)).mono ?_
  rintro e w' ⟨rfl, rfl⟩
  go_wp2
  go_ret
  exact ⟨rfl, hb⟩

set_option maxHeartbeats 400000 in
theorem szLog_no (a b : Option Addr) (c d : Nat) (ss tt : List ByteArray) (left : Int) (w : World) (hr : SRow w w.heap.size a ss) (hq : SRow w w.heap.size b tt)
    (hl : ss.length ≤ maxLen) (hs : ∀ s ∈ ss, s.size ≤ maxLen) (hl' : tt.length ≤ maxLen) (hs' : ∀ s ∈ tt, s.size ≤ maxLen)
    (h1 : 0 ≤ left) (h2 : left ≤ 1048576) (hfit : left < (ss.length : Int) + bulk ss + tt.length + bulk tt) :
    Calls Try.prog 28 #[.agg #[.slice a ss.length c, .slice b tt.length d], .int .i64 left] w fun e w' => e = .returned (.int .i64 (-1)) ∧ Below w.heap.size w w' := by
  have hb : Below w.heap.size w (w.alloc (.cells #[.slice a ss.length c, .slice b tt.length d] 37)) := (Below.refl _ _).alloc (Nat.le_refl _) _
  by_cases hn : left < (ss.length : Int) + bulk ss
  · go_enter Try.func28, Try.ntmps28
    go_wp2_with fail
    refine (szS_no a c ss _ _ w.heap.size (hr.below hb) hl hs (by omega) (by omega) (by omega)).mono ?_
    rintro e w' ⟨rfl, rfl⟩
    go_wp2
    go_ret
    exact ⟨rfl, hb⟩
  · go_enter Try.func28, Try.ntmps28
    go_wp2_with fail
    refine (szS_yes a c ss _ _ w.heap.size (hr.below hb) (by omega) (by omega)).mono ?_
    rintro e w' ⟨rfl, rfl⟩
    go_wp2_with fail
    refine (szS_no b d tt _ _ w.heap.size (hq.below hb) hl' hs' (by omega) (by omega) (by omega)).mono ?_
    rintro e w' ⟨rfl, rfl⟩
    go_wp2
    go_ret
    exact ⟨rfl, hb⟩

set_option maxHeartbeats 1000000 in
theorem toLog_any (a b : Option Addr) (c d : Nat) (ss tt : List ByteArray) (w : World) (hr : SRow w w.heap.size a ss) (hq : SRow w w.heap.size b tt) (hl : ss.length ≤ 1048576) (hl' : tt.length ≤ 1048576) :
    Calls Try.prog 30 #[.agg #[.slice a ss.length c, .slice b tt.length d]] w fun e w' => ∃ g k, e = .returned (.agg #[.slice (some ⟨g, 0, none⟩) ss.length ss.length, .slice (some ⟨k, 0, none⟩) tt.length tt.length]) ∧ w.heap.size ≤ g ∧ g < k ∧
      w'.ownsRow w.heap.size 9 1 (.slice (some ⟨g, 0, none⟩) ss.length ss.length) ss.length (ss.map Value.string) ∧
      w'.ownsRow w.heap.size 9 1 (.slice (some ⟨k, 0, none⟩) tt.length tt.length) tt.length (tt.map Value.string) ∧ Below w.heap.size w w' := by
  have hbA : Below w.heap.size w (((w.alloc (.cells #[.slice a ss.length c, .slice b tt.length d] 37)).alloc (.cells #[.slice none 0 0, .slice none 0 0] 40)).alloc (.cells #[.slice none 0 0, .slice none 0 0] 40)) := (((Below.refl _ _).alloc (Nat.le_refl _) _).alloc (by simp) _).alloc (by simp; omega) _
  go_enter Try.func30, Try.ntmps30
  go_wp2_with fail
  refine (toS_any a c ss _ (hr.below' hbA) hl).mono ?_
  rintro e w1 ⟨g, rfl, hg, hown, hb⟩
  have hB1 := hbA.trans (hb.mono (by simp; omega))
  obtain ⟨hc, hf⟩ := bcell hb
  have hz := hb.size
  simp at hz hg
  go_wp2_with fail
  obtain ⟨W2, hW2⟩ : ∃ W2, W2 = w1.setCell ⟨w.heap.size + 1 + 1, 0, none⟩ (.slice (some ⟨g, 0, none⟩) ss.length ss.length) := ⟨_, rfl⟩
  have hB2 : Below w.heap.size w W2 := by rw [hW2]; exact hB1.setCell (by simp; omega) _
  have hzW : W2.heap.size = w1.heap.size := by rw [hW2]; simp
  have hO2 : W2.ownsRow (w.heap.size + 1) 9 1 (.slice (some ⟨g, 0, none⟩) ss.length ss.length) ss.length (ss.map Value.string) := by
    rw [hW2]; exact (ownsRow_setCell_below hown (by simp) _).mono (by simp)
  have c20 : W2.cell? ⟨w.heap.size + 1 + 1, 0, none⟩ = some (.slice (some ⟨g, 0, none⟩) ss.length ss.length) := by rw [hW2]; simp [go_sem, hc]
  have c21 : W2.cell? ⟨w.heap.size + 1 + 1, 1, none⟩ = some (.slice none 0 0) := by rw [hW2]; simp [go_sem, hc]
  have c10 : W2.cell? ⟨w.heap.size + 1, 0, none⟩ = some (.slice none 0 0) := by rw [hW2]; simp [go_sem, hc]
  have c11 : W2.cell? ⟨w.heap.size + 1, 1, none⟩ = some (.slice none 0 0) := by rw [hW2]; simp [go_sem, hc]
  have f2 : ∀ o, W2.frozen? ⟨w.heap.size + 1 + 1, o, none⟩ = false := fun o => by rw [hW2]; simp [go_sem, hf]
  have f1 : ∀ o, W2.frozen? ⟨w.heap.size + 1, o, none⟩ = false := fun o => by rw [hW2]; simp [go_sem, hf]
  rw [← hW2]
  clear hW2 hown hb hc hf
  refine (toS_any b d tt _ (hq.below' hB2) hl').mono ?_
  rintro e w3 ⟨k, rfl, hk, hown3, hb3⟩
  have hz3 := hb3.size
  replace c20 := (hb3.cell (p := ⟨w.heap.size + 1 + 1, 0, none⟩) (by simp; omega)).trans c20
  replace c21 := (hb3.cell (p := ⟨w.heap.size + 1 + 1, 1, none⟩) (by simp; omega)).trans c21
  replace c10 := (hb3.cell (p := ⟨w.heap.size + 1, 0, none⟩) (by simp; omega)).trans c10
  replace c11 := (hb3.cell (p := ⟨w.heap.size + 1, 1, none⟩) (by simp; omega)).trans c11
  replace f2 : ∀ o, w3.frozen? ⟨w.heap.size + 1 + 1, o, none⟩ = false := fun o => (hb3.frozen (p := ⟨w.heap.size + 1 + 1, o, none⟩) (by simp; omega)).trans (f2 o)
  replace f1 : ∀ o, w3.frozen? ⟨w.heap.size + 1, o, none⟩ = false := fun o => (hb3.frozen (p := ⟨w.heap.size + 1, o, none⟩) (by simp; omega)).trans (f1 o)
  have hlt := (hO2.lt g rfl).2
  have hO3 : w3.ownsRow (w.heap.size + 1) 9 1 (.slice (some ⟨g, 0, none⟩) ss.length ss.length) ss.length (ss.map Value.string) := hO2.kept (row := none) ⟨hb3.os, hb3.tape, hb3.output, hb3.size, fun i hi _ => hb3.block i hi⟩ (.inr (by simp [Value.ownBlock]))
  go_wp2
  refine bodyPost_ret (v := .agg #[.slice (some ⟨g, 0, none⟩) ss.length ss.length, .slice (some ⟨k, 0, none⟩) tt.length tt.length]) (by simp [results, Try.results30, go_sem, c10, c11]) rfl ⟨g, k, rfl, by omega, by omega, ?_, ?_, ?_⟩
  · refine (ownsRow_setCell_other (ownsRow_setCell_other (ownsRow_setCell_other hO3 ?_ _) ?_ _) ?_ _).mono (by omega) <;> (simp [Value.ownBlock]; omega)
  · refine (ownsRow_setCell_other (ownsRow_setCell_other (ownsRow_setCell_other hown3 ?_ _) ?_ _) ?_ _).mono (by omega) <;> (simp [Value.ownBlock]; omega)
  · exact (hB2.trans (hb3.mono (by omega))).setCell (by simp; omega) _ |>.setCell (by simp) _ |>.setCell (by simp) _

/-- A log is valid. -/
def okLog (ss tt : List ByteArray) : Bool := decide (ss.length + tt.length ≤ 4000) && (ss ++ tt).all (fun s => decide (s.size ≤ 5000))

/-- No entry of the list is too long. -/
def okEs (ss : List ByteArray) : Bool := ss.all (fun s => decide (s.size ≤ 5000))

theorem okLog_eq (ss tt : List ByteArray) : okLog ss tt = (decide (ss.length + tt.length ≤ 4000) && (okEs ss && okEs tt)) := by simp [okLog, okEs]

theorem okEs_take (ss : List ByteArray) (k : Nat) (s : ByteArray) (h : ss[k]? = some s) : okEs (ss.take (k + 1)) = (okEs (ss.take k) && decide (s.size ≤ 5000)) := by
  obtain ⟨hlt, rfl⟩ := List.getElem?_eq_some_iff.1 h
  unfold okEs
  rw [List.take_succ_eq_append_getElem hlt, List.all_append, List.all_cons, List.all_nil, Bool.and_true]

theorem okEs_false (ss : List ByteArray) (k : Nat) (s : ByteArray) (h : ss[k]? = some s) (hs : 5000 < s.size) : okEs ss = false := by
  simp only [okEs, List.all_eq_false]
  exact ⟨s, List.mem_of_getElem? h, by simp; omega⟩

set_option maxHeartbeats 1000000 in
theorem sValidLog_any (a b : Option Addr) (c d : Nat) (ss tt : List ByteArray) (w : World) (B : Nat) (hB : B ≤ w.heap.size) (hr : SRow w B a ss) (hq : SRow w B b tt) (hl : ss.length ≤ 1048576) (hl' : tt.length ≤ 1048576)
    (hs : ∀ s ∈ ss, s.size ≤ 1048576) (hs' : ∀ s ∈ tt, s.size ≤ 1048576) :
    Calls Try.prog 29 #[.agg #[.slice a ss.length c, .slice b tt.length d]] w fun e w' => e = .returned (.bool (okLog ss tt)) ∧ Below w.heap.size w w' := by
  have hb : Below w.heap.size w (w.alloc (.cells #[.slice a ss.length c, .slice b tt.length d] 40)) := (Below.refl _ _).alloc (Nat.le_refl _) _
  go_enter Try.func29, Try.ntmps29
  go_wp2
  go_loop [3] (fun i => ∃ k : Nat, k ≤ ss.length ∧ i = .int .i64 k ∧ okEs (ss.take k) = true) (fun i => ss.length - (intOf i).toNat)
  case atStart => exact ⟨0, Nat.zero_le _, rfl, by simp [okEs]⟩
  case round =>
    obtain ⟨k, hk, rfl, hok⟩ := hrel
    by_cases hlt : k < ss.length
    · obtain ⟨p, off, ha, hp, hc⟩ := hr.at hlt
      subst ha
      have hck := (hb.cell (p := ⟨p, off + k, none⟩) (by simp; omega)).trans (hc k ss[k] (List.getElem?_eq_getElem hlt))
      have hbt : Hid (okEs (ss.take (k + 1)) = (okEs (ss.take k) && decide (ss[k].size ≤ 5000))) := okEs_take ss k _ (List.getElem?_eq_getElem hlt)
      have hno : Hid (5000 < ss[k].size → okEs ss = false) := okEs_false ss k _ (List.getElem?_eq_getElem hlt)
      have hsz := hs ss[k] (List.getElem_mem hlt)
      clear hc hs hs'
      generalize ss[k] = s at *
      by_cases hbig : 5000 < s.size
      · go_wp2
        go_ret
        exact ⟨by rw [okLog_eq, hno.out hbig]; simp, hb⟩
      · go_wp2
        refine ⟨⟨k + 1, by omega, by go_num, ?_⟩, by simp [intOf]; omega⟩
        rw [hbt.out, hok]; simp; omega
    · rw [List.take_of_length_le (by omega)] at hok
      go_wp2
      go_loop [4] (fun i => ∃ k : Nat, k ≤ tt.length ∧ i = .int .i64 k ∧ okEs (tt.take k) = true) (fun i => tt.length - (intOf i).toNat)
      case atStart => exact ⟨0, Nat.zero_le _, rfl, by simp [okEs]⟩
      case round =>
        obtain ⟨k2, hk2, rfl, hok2⟩ := hrel
        by_cases hlt2 : k2 < tt.length
        · obtain ⟨p, off, ha, hp, hc⟩ := hq.at hlt2
          subst ha
          have hck := (hb.cell (p := ⟨p, off + k2, none⟩) (by simp; omega)).trans (hc k2 tt[k2] (List.getElem?_eq_getElem hlt2))
          have hbt : Hid (okEs (tt.take (k2 + 1)) = (okEs (tt.take k2) && decide (tt[k2].size ≤ 5000))) := okEs_take tt k2 _ (List.getElem?_eq_getElem hlt2)
          have hno : Hid (5000 < tt[k2].size → okEs tt = false) := okEs_false tt k2 _ (List.getElem?_eq_getElem hlt2)
          have hsz := hs' tt[k2] (List.getElem_mem hlt2)
          clear hc hs hs'
          generalize tt[k2] = s at *
          by_cases hbig : 5000 < s.size
          · go_wp2
            go_ret
            exact ⟨by rw [okLog_eq, hno.out hbig]; simp, hb⟩
          · go_wp2
            refine ⟨⟨k2 + 1, by omega, by go_num, ?_⟩, by simp [intOf]; omega⟩
            rw [hbt.out, hok2]; simp; omega
        · rw [List.take_of_length_le (by omega)] at hok2
          go_wp2
          go_ret
          refine ⟨?_, hb⟩
          rw [okLog_eq, hok, hok2]
          simp
          omega

set_option maxHeartbeats 400000 in
theorem eqLog_yes (a b a' b' : Option Addr) (c d c' d' : Nat) (ss tt : List ByteArray) (w : World) (hr : SRow w w.heap.size a ss) (hq : SRow w w.heap.size b tt) (hr' : SRow w w.heap.size a' ss) (hq' : SRow w w.heap.size b' tt)
    (hl : ss.length ≤ 1048576) (hl' : tt.length ≤ 1048576) :
    Calls Try.prog 32 #[.agg #[.slice a ss.length c, .slice b tt.length d], .agg #[.slice a' ss.length c', .slice b' tt.length d']] w fun e w' => e = .returned (.bool true) ∧ Below w.heap.size w w' := by
  have hb : Below w.heap.size w ((w.alloc (.cells #[.slice a ss.length c, .slice b tt.length d] 40)).alloc (.cells #[.slice a' ss.length c', .slice b' tt.length d'] 40)) := ((Below.refl _ _).alloc (Nat.le_refl _) _).alloc (by simp) _
  go_enter Try.func32, Try.ntmps32
  go_wp2_with fail
  refine (eqS_yes a a' c c' ss _ _ _ (hr.below hb) (hr'.below hb) hl).mono ?_
  rintro e w' ⟨rfl, n, rfl⟩
  have hbn := belowN hb n
  go_wp2_with fail
  refine (eqS_yes b b' d d' tt _ _ _ (hq.below hbn) (hq'.below hbn) hl').mono ?_
  rintro e w' ⟨rfl, m, rfl⟩
  go_wp2
  go_ret
  exact ⟨rfl, belowN hb (n + m)⟩

end Go.Proofs.Ytdecihmplkgfkaa
