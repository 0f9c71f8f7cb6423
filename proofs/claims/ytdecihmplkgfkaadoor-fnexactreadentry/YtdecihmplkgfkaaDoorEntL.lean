/-
  FormEntry at every entry; laws.szEntry, toEntry, eqEntry.
-/
import Derived.Test.YtdecihmplkgfkaaDoorEntG
namespace Go.Proofs.YtdecihmplkgfkaaDoor
open Go.ChangeShapes Go.WideShapes Go.ChangeAt Go.RowKit

def okE (k : Int) (sum name : ByteArray) (n : Int) (t : ByteArray) (ss : List ByteArray) (wd : Int) : Bool := decide (1 ≤ k ∧ k ≤ 7) && entOk k.toNat sum name n t ss wd

/-- FormEntry's answer. -/
def entTxt (k : Int) (sum name : ByteArray) (n : Int) (t : ByteArray) (ss : List ByteArray) (wd : Int) : ByteArray := if okE k sum name n t ss wd = true then ⟨(entB k.toNat sum name n t ss).toArray⟩ else ByteArray.empty

theorem sOkE (k : Int) (sum name : ByteArray) (n : Int) (t : ByteArray) (ad : Option Addr) (cap : Nat) (ss : List ByteArray) (wd : Int) (w : World)
    (hrow : SRow w w.heap.size ad ss) (hl : ss.length ≤ 1048576) (ht : t.size ≤ maxLen) (hn : name.size ≤ maxLen) :
    Calls Tryd.prog 24 #[.agg (entV k sum name n t ad ss.length cap), .int .i64 wd] w fun e w' => e = .returned (.bool (okE k sum name n t ss wd)) ∧ Below w.heap.size w w' := by
  unfold okE
  by_cases hk : 1 ≤ k ∧ k ≤ 7
  · obtain ⟨m, rfl⟩ : ∃ m : Nat, k = m := ⟨k.toNat, by omega⟩
    rw [decide_eq_true hk, Bool.true_and, Int.toNat_natCast]
    by_cases hw : 1 ≤ wd ∧ wd ≤ 8
    · exact sOk_any m sum name n t ad cap ss wd w (by omega) (by omega) hw.1 hw.2 hrow hl ht hn
    · exact sOk_width m sum name n t ad cap ss wd w hw
  · rw [decide_eq_false hk, Bool.false_and]
    exact sOk_kind k sum name n t ad cap ss wd w hk

theorem iOkE (k : Int) (sum name : ByteArray) (n : Int) (t : ByteArray) (ad : Option Addr) (cap : Nat) (ss : List ByteArray) (wd : Int) (w : World) (hT : Tab w)
    (hrow : SRow w w.heap.size ad ss) (hl : ss.length ≤ 1048576) (ht : t.size ≤ maxLen) (hn : name.size ≤ maxLen) :
    Calls Tryd.prog 26 #[.agg (entV k sum name n t ad ss.length cap), .int .i64 wd] w fun e w' => e = .returned (.bool (okE k sum name n t ss wd)) ∧ Below w.heap.size w w' := by
  unfold okE
  by_cases hk : 1 ≤ k ∧ k ≤ 7
  · obtain ⟨m, rfl⟩ : ∃ m : Nat, k = m := ⟨k.toNat, by omega⟩
    rw [decide_eq_true hk, Bool.true_and, Int.toNat_natCast]
    exact ivalid_any m sum name n t ad cap ss wd w hT (by omega) (by omega) hrow hl ht hn
  · rw [decide_eq_false hk, Bool.false_and]
    exact ivalid_kind k sum name n t ad cap ss wd w hk

theorem sFormE (k : Int) (sum name : ByteArray) (n : Int) (t : ByteArray) (ad : Option Addr) (cap : Nat) (ss : List ByteArray) (wd : Int) (w : World)
    (hrow : SRow w w.heap.size ad ss) (hl : ss.length ≤ 1048576) (ht : t.size ≤ maxLen) (hn : name.size ≤ maxLen) :
    Calls Tryd.prog 7 #[.agg (entV k sum name n t ad ss.length cap), .int .i64 wd] w fun e w' => e = .returned (.string (entTxt k sum name n t ss wd)) ∧ Below w.heap.size w w' := by
  cases hok : okE k sum name n t ss wd with
  | true =>
    rw [show entTxt k sum name n t ss wd = ⟨(entB k.toNat sum name n t ss).toArray⟩ from by unfold entTxt; rw [if_pos hok]]
    unfold okE at hok
    simp only [Bool.and_eq_true, decide_eq_true_eq] at hok
    obtain ⟨m, rfl⟩ : ∃ m : Nat, k = m := ⟨k.toNat, by omega⟩
    rw [Int.toNat_natCast] at hok ⊢
    exact sForm_ent m sum name n t ad cap ss wd w (by omega) (by omega) hrow hl ht hok.2
  | false =>
    rw [show entTxt k sum name n t ss wd = ByteArray.empty from by unfold entTxt; rw [if_neg (by rw [hok]; decide)]]
    have hb0 : Below w.heap.size w (w.alloc (.cells (entV k sum name n t ad ss.length cap) 31)) := (Below.refl _ _).alloc (Nat.le_refl _) _
    have hcall := sOkE k sum name n t ad cap ss wd _ (hrow.below' hb0) hl ht hn
    rw [hok] at hcall
    clear hok
    go_enter Tryd.func7, Tryd.ntmps7
    go_wp2_with fail
    refine hcall.mono ?_
    rintro e w1 ⟨rfl, hb1⟩
    go_wp2
    go_ret
    exact ⟨rfl, hb0.trans (hb1.mono (by simp))⟩

theorem iFormE (k : Int) (sum name : ByteArray) (n : Int) (t : ByteArray) (ad : Option Addr) (cap : Nat) (ss : List ByteArray) (wd : Int) (w : World) (hT : Tab w)
    (hrow : SRow w w.heap.size ad ss) (hl : ss.length ≤ 1048576) (ht : t.size ≤ maxLen) (hn : name.size ≤ maxLen) :
    Calls Tryd.prog 9 #[.agg (entV k sum name n t ad ss.length cap), .int .i64 wd] w fun e w' => e = .returned (.string (entTxt k sum name n t ss wd)) ∧ Below w.heap.size w w' := by
  cases hok : okE k sum name n t ss wd with
  | true =>
    rw [show entTxt k sum name n t ss wd = ⟨(entB k.toNat sum name n t ss).toArray⟩ from by unfold entTxt; rw [if_pos hok]]
    unfold okE at hok
    simp only [Bool.and_eq_true, decide_eq_true_eq] at hok
    obtain ⟨m, rfl⟩ : ∃ m : Nat, k = m := ⟨k.toNat, by omega⟩
    rw [Int.toNat_natCast] at hok ⊢
    exact iForm_ent m sum name n t ad cap ss wd w hT (by omega) (by omega) hrow hl ht hok.2
  | false =>
    rw [show entTxt k sum name n t ss wd = ByteArray.empty from by unfold entTxt; rw [if_neg (by rw [hok]; decide)]]
    have hb0 : Below w.heap.size w (w.alloc (.cells (entV k sum name n t ad ss.length cap) 31)) := (Below.refl _ _).alloc (Nat.le_refl _) _
    have hcall := iOkE k sum name n t ad cap ss wd _ (hT.below hb0) (hrow.below' hb0) hl ht hn
    rw [hok] at hcall
    clear hok
    go_enter Tryd.func9, Tryd.ntmps9
    go_wp2_with fail
    refine hcall.mono ?_
    rintro e w1 ⟨rfl, hb1⟩
    go_wp2
    go_ret
    exact ⟨rfl, hb0.trans (hb1.mono (by simp))⟩

set_option maxHeartbeats 400000 in
theorem szEntry_yes (k : Int) (sum name : ByteArray) (n : Int) (t : ByteArray) (ad : Option Addr) (cap : Nat) (ss : List ByteArray) (w : World) (hrow : SRow w w.heap.size ad ss)
    (hfit : (sum.size : Int) + name.size + t.size + ss.length + bulk ss ≤ 1048576) :
    Calls Tryd.prog 6 #[.agg (entV k sum name n t ad ss.length cap), .int .i64 1048576] w fun e w' => e = .returned (.int .i64 (1048576 - sum.size - name.size - t.size - ss.length - bulk ss)) ∧ Below w.heap.size w w' := by
  have hb : Below w.heap.size w (w.alloc (.cells (entV k sum name n t ad ss.length cap) 26)) := (Below.refl _ _).alloc (Nat.le_refl _) _
  go_enter Tryd.func6, Tryd.ntmps6
  go_wp2_with fail
  refine (szThing_yes t ad cap ss _ _ (hrow.below' hb) (by omega) (by omega)).mono ?_
  rintro e w1 ⟨rfl, hb1⟩
  go_wp2
  go_ret
  exact ⟨rfl, hb.trans (hb1.mono (by simp))⟩

set_option maxHeartbeats 400000 in
theorem szEntry_no (k : Int) (sum name : ByteArray) (n : Int) (t : ByteArray) (ad : Option Addr) (cap : Nat) (ss : List ByteArray) (w : World) (hrow : SRow w w.heap.size ad ss)
    (hs : sum.size ≤ maxLen) (hn : name.size ≤ maxLen) (ht : t.size ≤ maxLen) (hl : ss.length ≤ maxLen) (hss : ∀ s ∈ ss, s.size ≤ maxLen)
    (hfit : 1048576 < (sum.size : Int) + name.size + t.size + ss.length + bulk ss) :
    Calls Tryd.prog 6 #[.agg (entV k sum name n t ad ss.length cap), .int .i64 1048576] w fun e w' => e = .returned (.int .i64 (-1)) ∧ Below w.heap.size w w' := by
  have hb : Below w.heap.size w (w.alloc (.cells (entV k sum name n t ad ss.length cap) 26)) := (Below.refl _ _).alloc (Nat.le_refl _) _
  have hs' := hs
  have hn' := hn
  unfold maxLen at hs' hn'
  by_cases h1 : (1048576 : Int) < sum.size
  · go_enter Tryd.func6, Tryd.ntmps6
    go_wp2
    go_ret
    exact ⟨rfl, hb⟩
  · by_cases h2 : (1048576 : Int) - sum.size < name.size
    · go_enter Tryd.func6, Tryd.ntmps6
      go_wp2
      go_ret
      exact ⟨rfl, hb⟩
    · go_enter Tryd.func6, Tryd.ntmps6
      go_wp2_with fail
      refine (szThing_no t ad cap ss _ _ (hrow.below' hb) ht hl hss (by omega) (by omega) (by omega)).mono ?_
      rintro e w1 ⟨rfl, hb1⟩
      go_wp2
      go_ret
      exact ⟨rfl, hb.trans (hb1.mono (by simp))⟩

set_option maxHeartbeats 1000000 in
theorem toEntry_any (k : Int) (sum name : ByteArray) (n : Int) (t : ByteArray) (ad : Option Addr) (cap : Nat) (ss : List ByteArray) (w : World) (hrow : SRow w w.heap.size ad ss) (hl : ss.length ≤ 1048576) :
    Calls Tryd.prog 8 #[.agg (entV k sum name n t ad ss.length cap)] w fun e w' => ∃ g, e = .returned (.agg (entV k sum name n t (some ⟨g, 0, none⟩) ss.length ss.length)) ∧ w.heap.size ≤ g ∧
      w'.ownsRow w.heap.size 9 1 (.slice (some ⟨g, 0, none⟩) ss.length ss.length) ss.length (ss.map Value.string) ∧ Below w.heap.size w w' := by
  go_enter Tryd.func8, Tryd.ntmps8
  go_wp2_with fail
  refine (toThing_any t ad cap ss _ (hrow.below' ((((Below.refl _ _).alloc (Nat.le_refl _) _).alloc (by simp) _).alloc (by simp; omega) _)) hl).mono ?_
  rintro e w1 ⟨g, rfl, hg, hown, hb⟩
  obtain ⟨hc, hf⟩ := bcell hb
  have hz := hb.size
  simp at hz hg
  go_wp2
  refine bodyPost_ret (v := .agg (entV k sum name n t (some ⟨g, 0, none⟩) ss.length ss.length)) (by simp [results, Tryd.results8, go_sem, hc]) rfl ⟨g, rfl, by omega, ?_, ?_⟩
  · have hsm : ∀ b, b ≤ w.heap.size + 2 → b < (((w.alloc (.cells (entV k sum name n t ad ss.length cap) 26)).alloc (.cells #[.int .i64 0, .string ⟨#[]⟩, .string ⟨#[]⟩, .int .i64 0, .string ⟨#[]⟩, .slice none 0 0] 31)).alloc (.cells #[.int .i64 k, .string sum, .string name, .int .i64 n, .string ⟨#[]⟩, .slice none 0 0] 31)).heap.size := by
      intro b hb'
      simp
      omega
    refine World.ownsRow.mono ?_ (Nat.le_of_lt (hsm w.heap.size (by omega)))
    iterate 6 (refine ownsRow_setCell_below ?_ (hsm (w.heap.size + 1) (by omega)) _)
    iterate 2 (refine ownsRow_setCell_below ?_ (hsm (w.heap.size + 1 + 1) (by omega)) _)
    exact hown
  · iterate 6 (refine Below.setCell ?_ (show w.heap.size ≤ w.heap.size + 1 by omega) _)
    iterate 2 (refine Below.setCell ?_ (show w.heap.size ≤ w.heap.size + 1 + 1 by omega) _)
    exact ((((Below.refl _ _).alloc (Nat.le_refl _) _).alloc (by simp) _).alloc (by simp; omega) _).trans (hb.mono (by simp; omega))

set_option maxHeartbeats 1000000 in
theorem eqEntry_yes (k : Int) (sum name : ByteArray) (n : Int) (t : ByteArray) (a a' : Option Addr) (cap cap' : Nat) (ss : List ByteArray) (w : World) (hrow : SRow w w.heap.size a ss) (hrow' : SRow w w.heap.size a' ss) (hl : ss.length ≤ 1048576) :
    Calls Tryd.prog 10 #[.agg (entV k sum name n t a ss.length cap), .agg (entV k sum name n t a' ss.length cap')] w fun e w' => e = .returned (.bool true) ∧ Below w.heap.size w w' := by
  have hb : Below w.heap.size w ((w.alloc (.cells (entV k sum name n t a ss.length cap) 31)).alloc (.cells (entV k sum name n t a' ss.length cap') 31)) := ((Below.refl _ _).alloc (Nat.le_refl _) _).alloc (by simp) _
  go_enter Tryd.func10, Tryd.ntmps10
  go_wp2_with fail
  refine (eqThing_yes t a a' cap cap' ss _ (hrow.below' hb) (hrow'.below' hb) hl).mono ?_
  rintro e w1 ⟨rfl, hb1⟩
  go_wp2
  go_ret
  exact ⟨rfl, hb.trans (hb1.mono (by simp; omega))⟩

end Go.Proofs.YtdecihmplkgfkaaDoor
