/-
  impl.linksUp.
-/
import Derived.Test.YtbelneejghdmoaaStLn
namespace Go.Proofs.Ytbelneejghdmoaa
open Go.ChangeShapes Go.WideShapes Go.ChangeAt Go.RowKit
attribute [local go_sem ↓] Go.wp_at_zero Go.wp_at_succ

set_option maxRecDepth 20000 in
set_option maxHeartbeats 16000000 in
theorem linksUp_any (wd now given births : Int) (a : Option Addr) (ac : Nat) (P L : Value) (ks : List Kd) (w : World) (hrow : KRow w w.heap.size a ks) (hl : ks.length ≤ 600) (hr30 : ∀ k ∈ ks, k.refs.length ≤ 30) (hsz : ∀ k ∈ ks, (k.sum.size : Int) = wd) (hrs : ∀ k ∈ ks, ∀ r ∈ k.refs, (r.size : Int) = wd) (h8 : wd ≤ 8) :
    Calls Try.prog 76 #[.agg #[.int .i64 wd, .int .i64 now, .int .i64 given, .int .i64 births, .slice a ks.length ac, P, L]] w fun e w' => ∃ b n f, e = .returned (.map (some b)) ∧ w.heap.size < b ∧ Lk w' (b + 1) b n wd (upE ks) [] f ∧ Below w.heap.size w w' := by
  have hmm := @run_makeMap Try.prog
  have HKR : Hid _ := hrow
  have HSZ : Hid _ := And.intro hr30 (And.intro hsz hrs)
  have hb0 : Below w.heap.size w (w.alloc (.cells #[.int .i64 wd, .int .i64 now, .int .i64 given, .int .i64 births, .slice a ks.length ac, P, L] 33)) := (Below.refl _ _).alloc (Nat.le_refl _) _
  have hx := SBox.new w wd now given births (.slice a ks.length ac) P L 33
  obtain ⟨W0, hW0⟩ : ∃ W, W = (w.alloc (.cells #[.int .i64 wd, .int .i64 now, .int .i64 given, .int .i64 births, .slice a ks.length ac, P, L] 33)).alloc (.map #[] 0) := ⟨_, rfl⟩
  have hz0 : W0.heap.size = w.heap.size + 2 := by rw [hW0]; simp
  have hB0 : Below w.heap.size w W0 := by rw [hW0]; exact hb0.alloc hb0.size _
  have hM0 : KMap W0 96 (w.heap.size + 1) 0 (fun _ => none) := by
    have := KMap.new (w.alloc (.cells #[.int .i64 wd, .int .i64 now, .int .i64 given, .int .i64 births, .slice a ks.length ac, P, L] 33)) 96
    rw [World.size_alloc] at this
    rw [hW0]
    exact this
  have hX0 : SBox W0 w.heap.size wd now given births (.slice a ks.length ac) P L := by rw [hW0]; exact hx.keep ((Below.refl _ _).alloc (Nat.le_refl _) _) hx.2.2.2.2.2.2.2
  have HM0 : Hid (Lk W0 (w.heap.size + 1 + 1) (w.heap.size + 1) 0 wd [] [] (fun _ => none)) := Lk.new hM0
  clear hrow hr30 hsz hrs hx hb0 hM0
  obtain ⟨q0, q1, q2, q3, q4, q5, q6, q7⟩ := hX0
  go_enter Try.func76, Try.ntmps76
  go_upto_region 2 with fail
  rw [← hW0]
  clear hW0 hmm
  go_wp2
  go_loopw [13] (fun i wr => ∃ (k : Nat) (f : Lit → Option Value), k ≤ ks.length ∧ i = .int .i64 k ∧ Hid (Lk wr (w.heap.size + 1 + 1) (w.heap.size + 1) (upE (ks.take k)).length wd (upE (ks.take k)) [] f) ∧ Below w.heap.size w wr ∧ Hid (SBox wr w.heap.size wd now given births (.slice a ks.length ac) P L) ∧ w.heap.size + 2 ≤ wr.heap.size) (fun i _ => ks.length - (intOf i).toNat)
  case atStart => exact ⟨0, _, Nat.zero_le _, rfl, by rw [List.take_zero]; exact HM0, hB0, ⟨q0, q1, q2, q3, q4, q5, q6, q7⟩, by omega⟩
  case round =>
    rename World => wo
    clear q0 q1 q2 q3 q4 q5 q6 q7 HM0 hB0 hz0
    obtain ⟨k, f, hk, rfl, HL, hbel, HX, hzr⟩ := hrel
    by_cases hlt : k < ks.length
    · obtain ⟨b, off, ha, hb, hc⟩ := (KRow.below HKR.out hbel).at hlt
      subst ha
      have HG : Hid (ks[k]? = some ks[k]) := List.getElem?_eq_getElem hlt
      obtain ⟨c0, c1, c2, ra, rc, c3, hra⟩ := hc k _ HG.out
      have hmem : ks[k] ∈ ks := List.getElem_mem hlt
      have hx30 := HSZ.out.1 _ hmem
      have hxs := HSZ.out.2.1 _ hmem
      have HXR : Hid _ := HSZ.out.2.2 _ hmem
      have hbr : b < wo.heap.size := by omega
      have HE : Hid _ := upE_snoc HG.out
      have hEl : (upE (ks.take k)).length ≤ 18000 := by
        have := flat_len (ks := ks.take k) (fun u => u.refs.map (fun r => (r, u.sum))) (fun u hu => by simpa using HSZ.out.1 u (List.mem_of_mem_take hu))
        have h2 : (ks.take k).length ≤ 600 := by simp; omega
        unfold upE
        omega
      have HRA : Hid _ := hra
      clear hc hra hmem
      generalize ks[k] = x at *
      generalize upE (ks.take k) = E0 at *
      obtain ⟨W1, hW1⟩ : ∃ W1, W1 = wo.alloc (.cells #[.string x.sum, .int .i64 x.born, .string x.text, .slice ra x.refs.length rc] 92) := ⟨_, rfl⟩
      have h11 : Below wo.heap.size wo W1 := by rw [hW1]; exact (Below.refl _ _).alloc (Nat.le_refl _) _
      have Z1 : CellsAt W1 wo.heap.size [.string x.sum, .int .i64 x.born, .string x.text, .slice ra x.refs.length rc] := by rw [hW1]; exact CellsAt.new wo _ _
      have hz1 : W1.heap.size = wo.heap.size + 1 := by rw [hW1]; simp
      obtain ⟨z3, _⟩ := Z1 3 _ rfl
      have X1 : SBox W1 w.heap.size wd now given births (.slice (some ⟨b, off, none⟩) ks.length ac) P L := SBox.keep HX.out h11 HX.out.2.2.2.2.2.2.2
      have B1 : Below w.heap.size wo W1 := h11.mono hbel.size
      have L1 : Lk W1 (w.heap.size + 1 + 1) (w.heap.size + 1) E0.length wd E0 [wo.heap.size] f := Lk.keep (Lk.avoid HL.out _ (by intro q hq; simp at hq; omega)) h11
      have HI : Hid _ := And.intro L1 (And.intro B1 (And.intro X1 Z1))
      have HW1 : Hid _ := hW1
      clear hW1 L1 B1 X1 Z1 h11
      obtain ⟨x0, x1, x2, x3, x4, x5, x6, x7⟩ := HX.out
      go_upto_region 5 with fail
      rw [← HW1.out]
      clear HW1 x0 x1 x2 x3 x4 x5 x6 x7
      obtain ⟨B5, hB5⟩ : ∃ B5, B5 = wo.heap.size := ⟨_, rfl⟩
      rw [← hB5] at HI z3 ⊢
      have hB5w : w.heap.size + 2 ≤ B5 := by omega
      have hB5l : B5 < W1.heap.size := by omega
      clear hB5 hz1
      go_wp2
      go_loopw [21] (fun i wr => ∃ (m : Nat) (f2 : Lit → Option Value), m ≤ x.refs.length ∧ i = .int .i64 m ∧ Hid (Lk wr (w.heap.size + 1 + 1) (w.heap.size + 1) (E0.length + m) wd (E0 ++ (x.refs.take m).map (fun r => (r, x.sum))) [B5] f2) ∧ Below w.heap.size wo wr ∧ Hid (SBox wr w.heap.size wd now given births (.slice (some ⟨b, off, none⟩) ks.length ac) P L) ∧ Hid (CellsAt wr B5 [.string x.sum, .int .i64 x.born, .string x.text, .slice ra x.refs.length rc]) ∧ B5 < wr.heap.size) (fun i _ => x.refs.length - (intOf i).toNat)
      case atStart => exact ⟨0, f, Nat.zero_le _, rfl, (show Lk _ _ _ _ _ _ _ _ from by simpa using HI.out.1), HI.out.2.1, HI.out.2.2.1, HI.out.2.2.2, hB5l⟩
      case round =>
        clear HI z3 HL
        obtain ⟨m, f2, hm, rfl, HL, hbel2, HX, HZ, hzr2⟩ := hrel
        by_cases hmlt : m < x.refs.length
        · obtain ⟨b', off', ha', hb', hc'⟩ := (SRow.below HRA.out hbel2).at hmlt
          subst ha'
          have HGr : Hid (x.refs[m]? = some x.refs[m]) := List.getElem?_eq_getElem hmlt
          have hck := hc' m _ HGr.out
          have HMS : Hid _ := map_snoc (fun r => (r, x.sum)) HGr.out
          clear hc'
          generalize x.refs[m] = r at *
          have hrsz : (r.size : Int) = wd := HXR.out r (List.mem_of_getElem? HGr.out)
          have hb'r : b' < wr.heap.size := by have := hbel2.size; omega
          go_wp2_with fail
          refine (key_out r wr).mono ?_
          rintro e w2 ⟨rfl, hb2⟩
          obtain ⟨W2, hW2⟩ : ∃ W2, W2 = w2.alloc (oneK r) := ⟨_, rfl⟩
          have h22 : Below w2.heap.size w2 W2 := by rw [hW2]; exact (Below.refl _ _).alloc (Nat.le_refl _) _
          have Y2 : Hid (CellsAt W2 w2.heap.size [.int .u8 (kB r 0), .int .u8 (kB r 1), .int .u8 (kB r 2), .int .u8 (kB r 3), .int .u8 (kB r 4), .int .u8 (kB r 5), .int .u8 (kB r 6), .int .u8 (kB r 7)]) := by rw [hW2]; exact CellsAt.new w2 _ _
          have h12 : Below wr.heap.size wr W2 := hb2.trans (h22.mono hb2.size)
          have hz2 : wr.heap.size ≤ w2.heap.size := hb2.size
          have hz22 : w2.heap.size < W2.heap.size := Y2.out.lt
          have L2 : Hid (Lk W2 (w.heap.size + 1 + 1) (w.heap.size + 1) (E0.length + m) wd (E0 ++ (x.refs.take m).map (fun r => (r, x.sum))) [w2.heap.size, B5] f2) := Lk.keep (Lk.more HL.out hz2) h12
          have X2 : Hid (SBox W2 w.heap.size wd now given births (.slice (some ⟨b, off, none⟩) ks.length ac) P L) := SBox.keep HX.out h12 HX.out.2.2.2.2.2.2.2
          have Z2 : Hid (CellsAt W2 B5 [.string x.sum, .int .i64 x.born, .string x.text, .slice (some ⟨b', off', none⟩) x.refs.length rc]) := CellsAt.below HZ.out h12
          have B2 : Hid (Below w.heap.size wo W2) := hbel2.trans (h12.mono (by have := hbel.size; have := hbel2.size; omega))
          obtain ⟨B6, hB6⟩ : ∃ B6, B6 = w2.heap.size := ⟨_, rfl⟩
          have HW2 : Hid _ := hW2
          unfold oneK at HW2
          have hB56 : B5 < B6 := by omega
          have hB6l : B6 < W2.heap.size := by omega
          clear hW2 h22 h12 hb2 HL HX HZ hck
          go_upto_region 9 with fail
          rw [← HW2.out]
          rw [← hB6] at Y2 L2 ⊢
          clear HW2 hB6 hz22 hz2
          have hEm : (E0 ++ (x.refs.take m).map (fun r => (r, x.sum))).length ≤ 18030 := by simp; omega
          have hwb : w.heap.size + 1 < w.heap.size + 1 + 1 := Nat.lt_succ_self _
          have hwr2 : w.heap.size + 1 + 1 ≤ W2.heap.size := by omega
          have hav2 : ∀ q ∈ [B6, B5], q < W2.heap.size := by intro q hq; simp at hq; rcases hq with rfl | rfl <;> omega
          have kD : Below W2.heap.size W2 W2.drew := (Below.refl _ _).drew
          have hbB6 : B6 ≠ w.heap.size + 1 := by omega
          have hbB5 : B5 ≠ w.heap.size + 1 := by omega
          have eD : W2.drew.heap[B6]? = W2.heap[B6]? ∧ W2.drew.heap[B5]? = W2.heap[B5]? := ⟨rfl, rfl⟩
          have hB6av : B6 ∈ [B6, B5] := by simp
          have hB5av : B5 ∈ [B6, B5] := by simp
          have hB5W : B5 < W2.heap.size := by omega
          go_region_held3 (fun w' => w'.cell? ⟨B5, 0, none⟩ = some (.string x.sum) ∧ w'.cell? ⟨B6, 0, none⟩ = some (.int .u8 (kB r 0)) ∧ w'.cell? ⟨B6, 1, none⟩ = some (.int .u8 (kB r 1)) ∧ w'.cell? ⟨B6, 2, none⟩ = some (.int .u8 (kB r 2)) ∧ w'.cell? ⟨B6, 3, none⟩ = some (.int .u8 (kB r 3)) ∧ w'.cell? ⟨B6, 4, none⟩ = some (.int .u8 (kB r 4)) ∧ w'.cell? ⟨B6, 5, none⟩ = some (.int .u8 (kB r 5)) ∧ w'.cell? ⟨B6, 6, none⟩ = some (.int .u8 (kB r 6)) ∧ w'.cell? ⟨B6, 7, none⟩ = some (.int .u8 (kB r 7)))
            (exact sk9 (by assumption) Z2.out Y2.out)
            (first
              | (go_at_call 71; refine (key_out x.sum W2.drew).mono ?_; rintro e w3 ⟨rfl, hb3⟩; have k3 : Below W2.heap.size W2 w3 := kD.trans (hb3.mono (Nat.le_refl _)); have k4 : Below W2.heap.size W2 (w3.alloc (oneK x.sum)) := k3.alloc k3.size _; obtain ⟨stC, wC, hEC, hgC, hsC⟩ := (L2.out.keep k4).entry (by omega) r; have gC : W2.grownBy wC (some (w.heap.size + 1)) := (grown_below _ k4).trans hgC; have l3 : w.heap.size + 1 < w3.heap.size := (by have := k3.size; omega); obtain ⟨vC, w4C, w5C, hrC, htC, hLC, hbC, haC, hzC⟩ := L2.out.add hwb hwr2 hav2 gC hrsz h8 hsC (R8.one_stay x.sum hgC (by omega)) (by omega) 102; have e3 : w3.heap[B6]? = W2.heap[B6]? ∧ w3.heap[B5]? = W2.heap[B5]? := ⟨k3.block B6 hB6l, k3.block B5 hB5W⟩; have e3a : (w3.alloc (oneK x.sum)).heap[B6]? = W2.heap[B6]? ∧ (w3.alloc (oneK x.sum)).heap[B5]? = W2.heap[B5]? := ⟨k4.block B6 hB6l, k4.block B5 hB5W⟩; have eC : wC.heap[B6]? = W2.heap[B6]? ∧ wC.heap[B5]? = W2.heap[B5]? := ⟨gC.block B6 hB6l (fun e => hbB6 (Option.some.inj e)), gC.block B5 hB5W (fun e => hbB5 (Option.some.inj e))⟩; have e4C : w4C.heap[B6]? = W2.heap[B6]? ∧ w4C.heap[B5]? = W2.heap[B5]? := ⟨(haC B6 hB6av hbB6).2, (haC B5 hB5av hbB5).2⟩; have e5C : w5C.heap[B6]? = W2.heap[B6]? ∧ w5C.heap[B5]? = W2.heap[B5]? := ⟨(haC B6 hB6av hbB6).1, (haC B5 hB5av hbB5).1⟩; unfold oneK at hEC e3a; unfold goInt at htC)
              | (refine step_append_run (by rfl) (.tmp 29) (.tmp 33) 102 102 (by rfl) (by rfl) (by rfl) hrC ?_; have HF : Hid _ := (And.intro hLC (And.intro hbC (And.intro haC hzC)))))
          all_goals
            have hlen : E0.length + (m + 1) = E0.length + m + 1 := by omega
            go_wp2
            refine ⟨⟨m + 1, upd f2 (keyL r) vC, by omega, by go_num, ?_, ?_, ?_, ?_, ?_⟩, by simp [intOf]; omega⟩
            · rw [HMS.out, ← List.append_assoc, hlen]
              exact Lk.less HF.out.1
            · exact B2.out.trans (HF.out.2.1.mono (by omega))
            · exact SBox.keep X2.out HF.out.2.1 (by omega)
            · exact CellsAt.same Z2.out (HF.out.2.2.1 B5 (by simp) (by omega)).1
            · have := HF.out.2.2.2
              omega
        · obtain rfl : m = x.refs.length := by omega
          rw [List.take_of_length_le (Nat.le_refl _), ← HE.out] at HL
          have hln : (upE (ks.take (k + 1))).length = E0.length + x.refs.length := by rw [HE.out]; simp
          rw [← hln] at HL
          have HLf : Hid _ := Lk.free HL.out
          clear HL
          go_wp2
          exact ⟨⟨k + 1, f2, by omega, by go_num, HLf, hbel.trans hbel2, HX, by omega⟩, by simp [intOf]; omega⟩
    · rw [List.take_of_length_le (by omega)] at HL
      obtain rfl : k = ks.length := by omega
      go_wp2
      go_ret
      exact ⟨_, _, f, rfl, by omega, HL.out, hbel⟩

end Go.Proofs.Ytbelneejghdmoaa
