/-
  slices.Collect; impl.Crash, impl.Sync.
-/
import Derived.Test.YtdecihmplkgfkaaLogC
import Derived.Lib.SmallJoins
namespace Go.Proofs.Ytdecihmplkgfkaa
open Go.ChangeShapes Go.WideShapes Go.ChangeAt Go.RowKit

set_option maxHeartbeats 400000 in
theorem collect_any (gf : Nat) (recv : Value) (eg : ∀ args w, (callFunc gf args).run Try.prog w = .ok (.enter gf args) w) (xs : List ByteArray) (n0 : Nat) (w : World)
    (hseq : IterOk Try.prog gf (fun l => #[recv, .func (.yield l) #[] #[]]) xs n0 w) (hn0 : n0 ≤ w.heap.size) (hl : xs.length ≤ 2097152) :
    Calls Try.prog 85 #[.func (.func gf) #[recv] #[]] w fun e w' => ∃ v, e = .returned v ∧ w'.ownsRow w.heap.size 9 1 v xs.length (xs.map Value.string) ∧ Below w.heap.size w w' := by
  go_enter Try.func85, Try.ntmps85
  go_wp2_with fail
  refine (appendSeq_any gf recv eg xs n0 w hseq hn0 hl).mono ?_
  rintro e w1 ⟨v, rfl, hown, hb⟩
  go_wp2
  go_ret
  exact ⟨v, rfl, hown, hb⟩

/-- What a crash leaves. -/
def crashL (ss tt : List ByteArray) (keep : Int) : List ByteArray := if okLog ss tt then ss ++ tt.take (min (max keep 0) tt.length).toNat else []

theorem crash_fin {w w4 : World} {L : List ByteArray} {v : Value} (hB : Below w.heap.size w w4) (ho : w4.ownsRow (w.heap.size + 2) 9 1 v L.length (L.map Value.string)) :
    ((w4.setCell ⟨w.heap.size + 1, 0, none⟩ v).setCell ⟨w.heap.size + 1, 1, none⟩ (.slice none 0 0)).ownsRow w.heap.size 9 1 v L.length (L.map Value.string) ∧
      Below w.heap.size w ((w4.setCell ⟨w.heap.size + 1, 0, none⟩ v).setCell ⟨w.heap.size + 1, 1, none⟩ (.slice none 0 0)) :=
  ⟨(ownsRow_setCell_below (ownsRow_setCell_below ho (by simp) _) (by simp) _).mono (by omega), (hB.setCell (p := ⟨w.heap.size + 1, 0, none⟩) (by simp) _).setCell (p := ⟨w.heap.size + 1, 1, none⟩) (by simp) _⟩

set_option maxHeartbeats 1000000 in
theorem iCrash_any (a b : Option Addr) (c d : Nat) (ss tt : List ByteArray) (keep : Int) (w : World) (hr : SRow w w.heap.size a ss) (hq : SRow w w.heap.size b tt) (hl : ss.length ≤ 1048576) (hl' : tt.length ≤ 1048576)
    (hs : ∀ s ∈ ss, s.size ≤ 1048576) (hs' : ∀ s ∈ tt, s.size ≤ 1048576) (hd : tt.length ≤ d) :
    Calls Try.prog 38 #[.agg #[.slice a ss.length c, .slice b tt.length d], .int .i64 keep] w fun e w' => ∃ v, e = .returned (.agg #[v, .slice none 0 0]) ∧
      w'.ownsRow w.heap.size 9 1 v (crashL ss tt keep).length ((crashL ss tt keep).map Value.string) ∧ Below w.heap.size w w' := by
  have hbA : Below w.heap.size w ((w.alloc (.cells #[.slice a ss.length c, .slice b tt.length d] 40)).alloc (.cells #[.slice none 0 0, .slice none 0 0] 40)) := ((Below.refl _ _).alloc (Nat.le_refl _) _).alloc (by simp) _
  go_enter Try.func38, Try.ntmps38
  go_wp2_with fail
  refine (iValidLog_any a b c d ss tt _ (hr.below' hbA) (hq.below' hbA) hl hl' hs hs').mono ?_
  rintro e w1 ⟨rfl, hb1⟩
  have hB1 := hbA.trans (hb1.mono (by simp; omega))
  have hz1 := hb1.size
  simp at hz1
  have c0 : w1.cell? ⟨w.heap.size, 0, none⟩ = some (.slice a ss.length c) := by rw [hb1.cell (p := ⟨w.heap.size, 0, none⟩) (by simp; omega)]; simp
  have c1 : w1.cell? ⟨w.heap.size, 1, none⟩ = some (.slice b tt.length d) := by rw [hb1.cell (p := ⟨w.heap.size, 1, none⟩) (by simp; omega)]; simp
  have r0 : w1.cell? ⟨w.heap.size + 1, 0, none⟩ = some (.slice none 0 0) := by rw [hb1.cell (p := ⟨w.heap.size + 1, 0, none⟩) (by simp)]; simp
  have r1 : w1.cell? ⟨w.heap.size + 1, 1, none⟩ = some (.slice none 0 0) := by rw [hb1.cell (p := ⟨w.heap.size + 1, 1, none⟩) (by simp)]; simp
  have f0 : ∀ o, w1.frozen? ⟨w.heap.size + 1, o, none⟩ = false := fun o => by rw [hb1.frozen (p := ⟨w.heap.size + 1, o, none⟩) (by simp)]; simp [go_sem]
  clear hb1
  cases hok : okLog ss tt with
  | false =>
    go_wp2
    refine bodyPost_ret (v := .agg #[.slice none 0 0, .slice none 0 0]) (by simp [results, Try.results38, go_sem, r0, r1]) rfl ⟨.slice none 0 0, rfl, ?_, ?_⟩
    · simp only [crashL, hok]; exact World.ownsRow_nil _ _ _ _
    · exact (hB1.setCell (p := ⟨w.heap.size + 1, 0, none⟩) (by simp) _).setCell (p := ⟨w.heap.size + 1, 1, none⟩) (by simp) _
  | true =>
    go_wp2_with fail
    refine (diskOf_any a b ss.length tt.length c d _).mono ?_
    rintro e w2 ⟨rfl, hb2⟩
    have hB2 := hB1.trans (hb2.mono hB1.size)
    have hz2 := hb2.size
    replace r0 := (hb2.cell (p := ⟨w.heap.size + 1, 0, none⟩) (by simp; omega)).trans r0
    replace r1 := (hb2.cell (p := ⟨w.heap.size + 1, 1, none⟩) (by simp; omega)).trans r1
    replace f0 : ∀ o, w2.frozen? ⟨w.heap.size + 1, o, none⟩ = false := fun o => (hb2.frozen (p := ⟨w.heap.size + 1, o, none⟩) (by simp; omega)).trans (f0 o)
    clear hb2 c0 c1
    have fin : ∀ K, K ≤ tt.length → Calls Try.prog 85 #[.func (.func 84) #[.agg #[.slice a ss.length c, .slice b K d]] #[]] (w2.alloc (.cells #[.slice a ss.length c, .slice b K d] 113)) fun e w' =>
        ∃ v, e = .returned v ∧ ((v = .slice none 0 0 ∧ (ss ++ tt.take K).length = 0) ∨ ∃ g cap, v = .slice (some ⟨g, 0, none⟩) (ss ++ tt.take K).length cap) ∧ w'.ownsRow (w.heap.size + 2) 9 1 v (ss ++ tt.take K).length ((ss ++ tt.take K).map Value.string) ∧ Below (w.heap.size + 2) w2 w' := by
      intro K hK
      have hKl : (tt.take K).length = K := by simp; omega
      have hb3 : Below (w.heap.size + 2) w2 (w2.alloc (.cells #[.slice a ss.length c, .slice b K d] 113)) := (Below.refl _ _).alloc (by omega) _
      have hB3 : Below w.heap.size w (w2.alloc (.cells #[.slice a ss.length c, .slice b K d] 113)) := hB2.alloc hB2.size _
      have hqK : SRow w w.heap.size b (tt.take K) := by
        rcases hq with h | ⟨q, off, h1, h2, h3⟩
        · exact .inl (by simp [h])
        · refine .inr ⟨q, off, h1, h2, fun i s his => h3 i s ?_⟩
          have hi := (List.getElem?_eq_some_iff.1 his).1
          rw [List.getElem?_take_of_lt (by omega)] at his
          exact his
      have hit := all_iter a b c d ss (tt.take K) w.heap.size (w2.alloc (.cells #[.slice a ss.length c, .slice b K d] 113)) (hr.below hB3) (hqK.below hB3) hB3.size (by unfold maxLen; omega) (by unfold maxLen; omega)
      rw [hKl] at hit
      refine (collect_any 84 _ (enters_of Try.func84 (by kernel_rfl) rfl) (ss ++ tt.take K) w.heap.size _ hit hB3.size (by simp; omega)).mono ?_
      rintro e w4 ⟨v, rfl, ho, hb4⟩
      exact ⟨v, rfl, Joins.ownsRow_forms ho, ho.mono (by simp; omega), hb3.trans (hb4.mono (by simp; omega))⟩
    have FIN : Hid _ := fin
    clear fin hr hq hs hs'
    have close : ∀ K : Nat, (K : Int) = min (max keep 0) tt.length → crashL ss tt keep = ss ++ tt.take K := fun K hK => by
      simp only [crashL, hok, if_true]; rw [← hK]; simp
    have CLOSE : Hid _ := close
    clear close
    by_cases h1 : (tt.length : Int) < keep
    · go_wp2_with fail
      refine (FIN.out tt.length (by omega)).mono ?_
      rintro e w4 ⟨v, rfl, hv, ho, hb4⟩
      have hcl := CLOSE.out tt.length (by omega)
      have hz4 := hb4.size
      replace r0 := (hb4.cell (p := ⟨w.heap.size + 1, 0, none⟩) (by simp)).trans r0
      replace r1 := (hb4.cell (p := ⟨w.heap.size + 1, 1, none⟩) (by simp)).trans r1
      replace f0 : ∀ o, w4.frozen? ⟨w.heap.size + 1, o, none⟩ = false := fun o => (hb4.frozen (p := ⟨w.heap.size + 1, o, none⟩) (by simp)).trans (f0 o)
      have hB4 := hB2.trans (hb4.mono (by omega))
      rw [← hcl] at hv ho
      have R := crash_fin hB4 ho
      have HR : Hid _ := R
      clear FIN CLOSE ho hcl R
      obtain ⟨L, hL⟩ : ∃ L, L = crashL ss tt keep := ⟨_, rfl⟩
      rw [← hL] at hv
      have HL : Hid _ := hL
      clear hL
      rcases hv with ⟨rfl, hv⟩ | ⟨g, cap, rfl⟩
      · go_wp2
        exact bodyPost_ret (v := .agg #[.slice none 0 0, .slice none 0 0]) (by simp [results, Try.results38, go_sem, r0, r1]) rfl ⟨_, rfl, HR.out.1, HR.out.2⟩
      · rw [HL.out] at HR ⊢
        go_wp2
        exact bodyPost_ret (v := .agg #[.slice (some ⟨g, 0, none⟩) (crashL ss tt keep).length cap, .slice none 0 0]) (by simp [results, Try.results38, go_sem, r0, r1]) rfl ⟨_, rfl, HR.out.1, HR.out.2⟩
    · by_cases h2 : keep < 0
      · go_wp2_with fail
        refine (FIN.out 0 (by omega)).mono ?_
        rintro e w4 ⟨v, rfl, hv, ho, hb4⟩
        have hcl := CLOSE.out 0 (by omega)
        have hz4 := hb4.size
        replace r0 := (hb4.cell (p := ⟨w.heap.size + 1, 0, none⟩) (by simp)).trans r0
        replace r1 := (hb4.cell (p := ⟨w.heap.size + 1, 1, none⟩) (by simp)).trans r1
        replace f0 : ∀ o, w4.frozen? ⟨w.heap.size + 1, o, none⟩ = false := fun o => (hb4.frozen (p := ⟨w.heap.size + 1, o, none⟩) (by simp)).trans (f0 o)
        have hB4 := hB2.trans (hb4.mono (by omega))
        rw [← hcl] at hv ho
        have R := crash_fin hB4 ho
        have HR : Hid _ := R
        clear FIN CLOSE ho hcl R
        obtain ⟨L, hL⟩ : ∃ L, L = crashL ss tt keep := ⟨_, rfl⟩
        rw [← hL] at hv
        have HL : Hid _ := hL
        clear hL
        rcases hv with ⟨rfl, hv⟩ | ⟨g, cap, rfl⟩
        · go_wp2
          exact bodyPost_ret (v := .agg #[.slice none 0 0, .slice none 0 0]) (by simp [results, Try.results38, go_sem, r0, r1]) rfl ⟨_, rfl, HR.out.1, HR.out.2⟩
        · rw [HL.out] at HR ⊢
          go_wp2
          exact bodyPost_ret (v := .agg #[.slice (some ⟨g, 0, none⟩) (crashL ss tt keep).length cap, .slice none 0 0]) (by simp [results, Try.results38, go_sem, r0, r1]) rfl ⟨_, rfl, HR.out.1, HR.out.2⟩
      · go_wp2_with fail
        refine (FIN.out keep.toNat (by omega)).mono ?_
        rintro e w4 ⟨v, rfl, hv, ho, hb4⟩
        have hcl := CLOSE.out keep.toNat (by omega)
        have hz4 := hb4.size
        replace r0 := (hb4.cell (p := ⟨w.heap.size + 1, 0, none⟩) (by simp)).trans r0
        replace r1 := (hb4.cell (p := ⟨w.heap.size + 1, 1, none⟩) (by simp)).trans r1
        replace f0 : ∀ o, w4.frozen? ⟨w.heap.size + 1, o, none⟩ = false := fun o => (hb4.frozen (p := ⟨w.heap.size + 1, o, none⟩) (by simp)).trans (f0 o)
        have hB4 := hB2.trans (hb4.mono (by omega))
        rw [← hcl] at hv ho
        have R := crash_fin hB4 ho
        have HR : Hid _ := R
        clear FIN CLOSE ho hcl R
        obtain ⟨L, hL⟩ : ∃ L, L = crashL ss tt keep := ⟨_, rfl⟩
        rw [← hL] at hv
        have HL : Hid _ := hL
        clear hL
        rcases hv with ⟨rfl, hv⟩ | ⟨g, cap, rfl⟩
        · go_wp2
          exact bodyPost_ret (v := .agg #[.slice none 0 0, .slice none 0 0]) (by simp [results, Try.results38, go_sem, r0, r1]) rfl ⟨_, rfl, HR.out.1, HR.out.2⟩
        · rw [HL.out] at HR ⊢
          go_wp2
          exact bodyPost_ret (v := .agg #[.slice (some ⟨g, 0, none⟩) (crashL ss tt keep).length cap, .slice none 0 0]) (by simp [results, Try.results38, go_sem, r0, r1]) rfl ⟨_, rfl, HR.out.1, HR.out.2⟩

end Go.Proofs.Ytdecihmplkgfkaa
