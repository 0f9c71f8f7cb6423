/-
  impl.validNumbers, validThings.
-/
import Derived.Test.YtbelneejghdmoaaStFind
import Derived.Deep.RegionWith
import Derived.Deep.DrawnRows
import Derived.Test.YtbelneejghdmoaaCls
namespace Go.Proofs.Ytbelneejghdmoaa
open Go.ChangeShapes Go.WideShapes Go.ChangeAt Go.RowKit
attribute [local go_sem ↓] Go.wp_at_zero Go.wp_at_succ

theorem formTxt_size (t : ByteArray) (ss : List ByteArray) (wd : Int) : (formTxt t ss wd).size ≤ maxLen := by
  unfold formTxt
  split
  · rename_i h
    have h := okThing_parts h
    have h1 := h.bulk_le
    have h2 := h.text
    have : (ByteArray.mk (formB t ss).toArray).size = 1 + (bulk ss + t.size) := by
      show (formB t ss).toArray.size = _
      simp only [List.size_toArray, formB, List.length_cons, List.length_append, flat_length, Array.length_toList]
      show _ + t.size + 1 = _
      omega
    rw [this]
    unfold maxLen
    omega
  · simp [maxLen]

theorem ivalidThing_b (t : ByteArray) (a : Option Addr) (cap : Nat) (ss : List ByteArray) (wd : Int) (w : World) (hrow : SRow w w.heap.size a ss) (hl : ss.length ≤ 1048576) (ht : t.size ≤ maxLen) :
    Calls Try.prog 89 #[.agg #[.string t, .slice a ss.length cap], .int .i64 wd] w fun e w' => e = .returned (.bool (okThing t ss wd)) ∧ Below w.heap.size w w' := by
  refine (ivalidThing_any t a cap ss wd w hrow hl ht).mono ?_
  rintro e w' ⟨rfl, rfl⟩
  exact ⟨rfl, (Below.refl _ _).alloc (Nat.le_refl _) _⟩

theorem wrap_small {a : Int} (h0 : 0 ≤ a) (h1 : a ≤ 1048576) : IntKind.i64.wrap a = a := by
  unfold IntKind.wrap
  simp [IntKind.signed, IntKind.bits]
  omega

/-- What a region over a thing reads, and that nothing else has turned. -/
def TS (W : World) (b c : Nat) (wd : Value) (s t r : Value) (w' : World) : Prop :=
  w'.cell? ⟨b, 0, none⟩ = some wd ∧ w'.cell? ⟨c, 0, none⟩ = some s ∧ w'.cell? ⟨c, 2, none⟩ = some t ∧ w'.cell? ⟨c, 3, none⟩ = some r ∧ Below W.heap.size W w'

theorem TS.keep {W w' w'' : World} {b c : Nat} {wd s t r : Value} (h : TS W b c wd s t r w') (hb : Below w'.heap.size w' w'') (h1 : b < W.heap.size) (h2 : c < W.heap.size) : TS W b c wd s t r w'' := by
  obtain ⟨a0, a1, a2, a3, hB⟩ := h
  have := hB.size
  exact ⟨(hb.cell (p := ⟨b, 0, none⟩) (by simp; omega)).trans a0, (hb.cell (p := ⟨c, 0, none⟩) (by simp; omega)).trans a1, (hb.cell (p := ⟨c, 2, none⟩) (by simp; omega)).trans a2, (hb.cell (p := ⟨c, 3, none⟩) (by simp; omega)).trans a3, hB.trans (hb.mono this)⟩

theorem TS.drew {W w' : World} {b c : Nat} {wd s t r : Value} (h : TS W b c wd s t r w') : TS W b c wd s t r w'.drew := ⟨h.1, h.2.1, h.2.2.1, h.2.2.2.1, h.2.2.2.2.drew⟩

theorem drewN_cell (w : World) (n : Nat) (a : Addr) : (w.drewN n).cell? a = w.cell? a := rfl
theorem drewN_size (w : World) (n : Nat) : (w.drewN n).heap.size = w.heap.size := rfl

/-- A thing's copy on the heap's end. -/
theorem TS.new {w wr : World} {n : Nat} {ty : TypeId} {wd : Int} (s b t r : Value) (x0 : wr.cell? ⟨w.heap.size, 0, none⟩ = some (.int .i64 wd)) (x7 : w.heap.size < wr.heap.size) :
    Below wr.heap.size wr ((wr.alloc (.cells #[s, b, t, r] ty)).drewN n) ∧ ((wr.alloc (.cells #[s, b, t, r] ty)).drewN n).heap.size = wr.heap.size + 1 ∧
      TS ((wr.alloc (.cells #[s, b, t, r] ty)).drewN n) w.heap.size wr.heap.size (.int .i64 wd) s t r ((wr.alloc (.cells #[s, b, t, r] ty)).drewN n) := by
  have hb1 : Below wr.heap.size wr ((wr.alloc (.cells #[s, b, t, r] ty)).drewN n) := belowN ((Below.refl _ _).alloc (Nat.le_refl _) _) _
  refine ⟨hb1, by rw [drewN_size]; simp, (hb1.cell (p := ⟨w.heap.size, 0, none⟩) x7).trans x0, ?_, ?_, ?_, Below.refl _ _⟩
  all_goals rw [drewN_cell]; simp

set_option maxHeartbeats 2000000 in
theorem ivalidThings_any (wd now given births : Int) (a : Option Addr) (ac : Nat) (P L : Value) (ks : List Kd) (w : World) (hrow : KRow w w.heap.size a ks) (hm : KMem ks) (hl : ks.length ≤ 1048576) (hrl : ∀ k ∈ ks, k.refs.length ≤ 1048576) (h1 : 1 ≤ wd) (h8 : wd ≤ 8) :
    Calls Try.prog 48 #[.agg #[.int .i64 wd, .int .i64 now, .int .i64 given, .int .i64 births, .slice a ks.length ac, P, L]] w fun e w' => ∃ b, e = .returned (.bool b) ∧ (b = true ↔ ks.length ≤ 600 ∧ ∀ (i : Nat) k, ks[i]? = some k → ThAt wd ks i k) ∧ Below w.heap.size w w' := by
  have hb0 : Below w.heap.size w (w.alloc (.cells #[.int .i64 wd, .int .i64 now, .int .i64 given, .int .i64 births, .slice a ks.length ac, P, L] 33)) := (Below.refl _ _).alloc (Nat.le_refl _) _
  by_cases hn : 600 < ks.length
  · go_enter Try.func48, Try.ntmps48
    go_wp2
    go_ret
    exact ⟨_, rfl, by simp; intro h; omega, hb0⟩
  · have hx := SBox.new w wd now given births (.slice a ks.length ac) P L 33
    go_enter Try.func48, Try.ntmps48
    go_wp2
    go_loopw [12] (fun i wr => ∃ k : Nat, k ≤ ks.length ∧ i = .int .i64 k ∧ Below w.heap.size w wr ∧ SBox wr w.heap.size wd now given births (.slice a ks.length ac) P L ∧ Hid (∀ j x, j < k → ks[j]? = some x → ThAt wd ks j x)) (fun i _ => ks.length - (intOf i).toNat)
    case atStart => exact ⟨0, Nat.zero_le _, rfl, hb0, hx, fun j x h => by omega⟩
    case round =>
      obtain ⟨k, hk, rfl, hbel, hbox, hall⟩ := hrel
      by_cases hlt : k < ks.length
      · obtain ⟨b, off, ha, hb, hc⟩ := (hrow.below hbel).at hlt
        subst ha
        have hg : ks[k]? = some ks[k] := List.getElem?_eq_getElem hlt
        obtain ⟨c0, c1, c2, ra, rc, c3, hr⟩ := hc k _ hg
        obtain ⟨x0, x1, x2, x3, x4, x5, x6, x7⟩ := hbox
        have hmem := List.getElem_mem hlt
        have m1 := hm.text _ hmem
        have m2 := hrl _ hmem
        match k, hk, hlt, hall, hg, c0, c1, c2, c3, hr, m1, m2 with
        | 0, hk, hlt, hall, hg, c0, c1, c2, c3, hr, m1, m2 =>
          have HG : Hid _ := hg
          clear hc hrow hm hrl hmem hg
          simp only [Nat.zero_mul, Nat.add_zero] at c0 c1 c2 c3
          generalize ks[0] = x at *
          go_wp2
          go_quiet (fail)
          go_wp2
          obtain ⟨hb1, z1, hTS⟩ := TS.new (n := nq) (ty := 92) (.string x.sum) (.int .i64 x.born) (.string x.text) (.slice ra x.refs.length rc) x0 x7
          generalize hW1 : (wr.alloc (Obj.cells #[Value.string x.sum, Value.int IntKind.i64 x.born, Value.string x.text, Value.slice ra x.refs.length rc] 92)).drewN nq = W1 at *
          have hr1 : SRow W1 W1.heap.size ra x.refs := (hr.mono hbel.size).below' hb1
          have hbx : SBox W1 w.heap.size wd now given births (.slice (some ⟨b, off, none⟩) ks.length ac) P L := SBox.keep ⟨x0, x1, x2, x3, x4, x5, x6, x7⟩ hb1 x7
          obtain ⟨t0, t1, t2, t3, t4⟩ := hTS
          have q0 := Cls.cell t0 (by omega)
          have q1 := Cls.cell t1 (by omega)
          have q2 := Cls.cell t2 (by omega)
          have q3 := Cls.cell t3 (by omega)
          have hne := Cls.ne W1
          have hV : ∀ n : Cls W1, Calls Try.prog 89 #[.agg #[.string x.text, .slice ra x.refs.length rc], .int .i64 wd] n.w fun e w' => e = .returned (.bool (okThing x.text x.refs wd)) ∧ Below n.w.heap.size n.w w' := fun n => ivalidThing_b x.text ra rc x.refs wd _ (hr1.below' n.h) m2 m1
          have hF : ∀ n : Cls W1, Calls Try.prog 91 #[.agg #[.string x.text, .slice ra x.refs.length rc], .int .i64 wd] n.w fun e w' => e = .returned (.string (formTxt x.text x.refs wd)) ∧ Below n.w.heap.size n.w w' := fun n => iForm_any x.text ra rc x.refs wd _ (hr1.below' n.h) m2 m1
          have hS : ∀ n : Cls W1, Calls Try.prog 90 #[.string (formTxt x.text x.refs wd), .int .i64 wd] n.w fun e w' => e = .returned (.string (sumOf x wd)) ∧ Below n.w.heap.size n.w w' := fun n => isum_any _ wd _ (formTxt_size _ _ _) h1 h8
          have HF : Hid _ := And.intro hF hS
          have HV : Hid _ := hV
          clear hF hS hV
          generalize formTxt x.text x.refs wd = fx at *
          generalize hsx : sumOf x wd = sx at *
          have hB1 := hbel.trans (hb1.mono hbel.size)
          cases hok : okThing x.text x.refs wd with
          | false =>
            rw [hok] at HV
            refine region_cls_lit (by kernel_rfl) (by kernel_rfl) ?_
            repeat (go_big_quiet_step (exact Cls.calls (HV.out _)))
            refine wpQuiet_nil ?_
            intro n
            go_wp2
            go_ret
            refine ⟨_, rfl, ?_, hB1.trans (n.h.mono hB1.size)⟩
            simp
            intro _
            exact ⟨_, _, HG.out, fun h => by rw [h.ok] at hok; cases hok⟩
          | true =>
            rw [hok] at HV
            by_cases hs : x.sum = sx
            · have hs' : (x.sum.toList != sx.toList) = false := by rw [hs]; simp
              have HA : Hid (∀ j' y, j' < 0 + 1 → ks[j']? = some y → ThAt wd ks j' y) := by
                intro j' y hj hy
                rcases Nat.lt_or_ge j' (0) with h' | h'
                · exact hall.out j' y h' hy
                · obtain rfl : j' = 0 := by omega
                  rw [HG.out] at hy
                  cases hy
                  exact ⟨hok, by rw [hsx]; exact hs, fun j p h => by omega⟩
              refine region_cls_lit (by kernel_rfl) (by kernel_rfl) ?_
              repeat (go_big_quiet_step (first | exact Cls.calls (HV.out _) | exact Cls.calls (HF.out.1 _) | exact Cls.calls (HF.out.2 _)))
              refine wpQuiet_nil ?_
              intro n
              go_wp2
              exact ⟨⟨0 + 1, by omega, by go_num, hB1.trans (n.h.mono hB1.size), hbx.keep n.h (by omega), HA⟩, by simp [intOf]; omega⟩
            · have hs' : (x.sum.toList != sx.toList) = true := by simp [beq_ne hs, bne]
              have hs'' := beq_ne hs
              refine region_cls_lit (by kernel_rfl) (by kernel_rfl) ?_
              repeat (go_big_quiet_step (first | exact Cls.calls (HV.out _) | exact Cls.calls (HF.out.1 _) | exact Cls.calls (HF.out.2 _)))
              refine wpQuiet_nil ?_
              intro n
              go_wp2
              go_ret
              refine ⟨_, rfl, ?_, hB1.trans (n.h.mono hB1.size)⟩
              simp
              intro _
              exact ⟨_, _, HG.out, fun h => hs (by rw [← hsx]; exact h.sum)⟩
        | j + 1, hk, hlt, hall, hg, c0, c1, c2, c3, hr, m1, m2 =>
          have HG : Hid _ := hg
          have HP : Hid (ks[j]? = some ks[j]) := List.getElem?_eq_getElem (by omega)
          obtain ⟨d0, _, _, _⟩ := hc j _ HP.out
          clear hc hrow hm hrl hmem hg
          generalize ks[j + 1] = x at *
          generalize ks[j] = p at *
          have hwj : IntKind.i64.wrap (j : Int) = (j : Int) := wrap_small (by omega) (by omega)
          have hj0 : (0 : Int) ≤ (j : Int) := by omega
          have hbr : b < wr.heap.size := by omega
          have hj1 : (j : Int) < (ks.length : Int) := by omega
          cases hless : Op.bytesLess p.sum.toList x.sum.toList with
          | false =>
            go_wp2
            go_quiet (fail)
            go_wp2
            go_ret
            refine ⟨_, rfl, ?_, belowN (hbel.alloc hbel.size _) _⟩
            simp
            intro _
            exact ⟨_, _, HG.out, fun h => by have := h.up j p rfl HP.out; unfold less at this; rw [hless] at this; cases this⟩
          | true =>
            go_wp2
            go_quiet (fail)
            go_wp2
            obtain ⟨hb1, z1, hTS⟩ := TS.new (n := nq) (ty := 92) (.string x.sum) (.int .i64 x.born) (.string x.text) (.slice ra x.refs.length rc) x0 x7
            generalize hW1 : (wr.alloc (Obj.cells #[Value.string x.sum, Value.int IntKind.i64 x.born, Value.string x.text, Value.slice ra x.refs.length rc] 92)).drewN nq = W1 at *
            have hr1 : SRow W1 W1.heap.size ra x.refs := (hr.mono hbel.size).below' hb1
            have hbx : SBox W1 w.heap.size wd now given births (.slice (some ⟨b, off, none⟩) ks.length ac) P L := SBox.keep ⟨x0, x1, x2, x3, x4, x5, x6, x7⟩ hb1 x7
            obtain ⟨t0, t1, t2, t3, t4⟩ := hTS
            have q0 := Cls.cell t0 (by omega)
            have q1 := Cls.cell t1 (by omega)
            have q2 := Cls.cell t2 (by omega)
            have q3 := Cls.cell t3 (by omega)
            have hne := Cls.ne W1
            have hV : ∀ n : Cls W1, Calls Try.prog 89 #[.agg #[.string x.text, .slice ra x.refs.length rc], .int .i64 wd] n.w fun e w' => e = .returned (.bool (okThing x.text x.refs wd)) ∧ Below n.w.heap.size n.w w' := fun n => ivalidThing_b x.text ra rc x.refs wd _ (hr1.below' n.h) m2 m1
            have hF : ∀ n : Cls W1, Calls Try.prog 91 #[.agg #[.string x.text, .slice ra x.refs.length rc], .int .i64 wd] n.w fun e w' => e = .returned (.string (formTxt x.text x.refs wd)) ∧ Below n.w.heap.size n.w w' := fun n => iForm_any x.text ra rc x.refs wd _ (hr1.below' n.h) m2 m1
            have hS : ∀ n : Cls W1, Calls Try.prog 90 #[.string (formTxt x.text x.refs wd), .int .i64 wd] n.w fun e w' => e = .returned (.string (sumOf x wd)) ∧ Below n.w.heap.size n.w w' := fun n => isum_any _ wd _ (formTxt_size _ _ _) h1 h8
            have HF : Hid _ := And.intro hF hS
            have HV : Hid _ := hV
            clear hF hS hV
            generalize formTxt x.text x.refs wd = fx at *
            generalize hsx : sumOf x wd = sx at *
            have hB1 := hbel.trans (hb1.mono hbel.size)
            cases hok : okThing x.text x.refs wd with
            | false =>
              rw [hok] at HV
              refine region_cls_lit (by kernel_rfl) (by kernel_rfl) ?_
              repeat (go_big_quiet_step (exact Cls.calls (HV.out _)))
              refine wpQuiet_nil ?_
              intro n
              go_wp2
              go_ret
              refine ⟨_, rfl, ?_, hB1.trans (n.h.mono hB1.size)⟩
              simp
              intro _
              exact ⟨_, _, HG.out, fun h => by rw [h.ok] at hok; cases hok⟩
            | true =>
              rw [hok] at HV
              by_cases hs : x.sum = sx
              · have hs' : (x.sum.toList != sx.toList) = false := by rw [hs]; simp
                have HA : Hid (∀ j' y, j' < (j + 1) + 1 → ks[j']? = some y → ThAt wd ks j' y) := by
                  intro j' y hj hy
                  rcases Nat.lt_or_ge j' ((j + 1)) with h' | h'
                  · exact hall.out j' y h' hy
                  · obtain rfl : j' = (j + 1) := by omega
                    rw [HG.out] at hy
                    cases hy
                    exact ⟨hok, by rw [hsx]; exact hs, fun j2 p2 h hp2 => by cases h; rw [HP.out] at hp2; cases hp2; exact hless⟩
                refine region_cls_lit (by kernel_rfl) (by kernel_rfl) ?_
                repeat (go_big_quiet_step (first | exact Cls.calls (HV.out _) | exact Cls.calls (HF.out.1 _) | exact Cls.calls (HF.out.2 _)))
                refine wpQuiet_nil ?_
                intro n
                go_wp2
                exact ⟨⟨(j + 1) + 1, by omega, by go_num, hB1.trans (n.h.mono hB1.size), hbx.keep n.h (by omega), HA⟩, by simp [intOf]; omega⟩
              · have hs' : (x.sum.toList != sx.toList) = true := by simp [beq_ne hs, bne]
                have hs'' := beq_ne hs
                refine region_cls_lit (by kernel_rfl) (by kernel_rfl) ?_
                repeat (go_big_quiet_step (first | exact Cls.calls (HV.out _) | exact Cls.calls (HF.out.1 _) | exact Cls.calls (HF.out.2 _)))
                refine wpQuiet_nil ?_
                intro n
                go_wp2
                go_ret
                refine ⟨_, rfl, ?_, hB1.trans (n.h.mono hB1.size)⟩
                simp
                intro _
                exact ⟨_, _, HG.out, fun h => hs (by rw [← hsx]; exact h.sum)⟩
      · go_wp2
        go_ret
        exact ⟨_, rfl, by simp; exact ⟨by omega, fun i x hx => hall.out i x (by have := (List.getElem?_eq_some_iff.1 hx).1; omega) hx⟩, hbel⟩

end Go.Proofs.Ytbelneejghdmoaa
