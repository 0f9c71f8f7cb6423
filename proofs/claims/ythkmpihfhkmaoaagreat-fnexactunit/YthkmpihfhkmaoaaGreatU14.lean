import Derived.Test.YthkmpihfhkmaoaaGreatU12
import Derived.Test.YthkmpihfhkmaoaaGreatU13
import Derived.Test.YthkmpihfhkmaoaaGreatU06
import Derived.Test.YthkmpihfhkmaoaaGreatU03
import Derived.Test.YthkmpihfhkmaoaaGreatU08
import Derived.Test.YthkmpihfhkmaoaaGreatU07
/-
  (*impl.clearing).sweepNext.
-/
namespace Go.Proofs.YthkmpihfhkmaoaaGreat
open Go.ChangeShapes Go.WideShapes Go.ChangeAt Go.RowKit

/-- What a unit leaves: the draft, the clearing's box, its three rows. -/
structure UE (w : World) (base c d m : Nat) (P L : Value) (wd now given births : Int) (ks : List Kd) (ps : List Pd) (ls : List Ld) (ph top at_ ro : Int) (Q M D : Value) (qs ms ds : List ByteArray) : Prop where
  dr : ∃ O, Dr w base d m O P L wd now given births ks ps ls
  box : ∃ mm, CellsAt w c (clC d ph Q M top at_ ro mm D)
  q : ORow w base Q qs
  mr : ORow w base M ms
  dd : ORow w base D ds
  ap : (∀ g, sBlk Q = some g → sBlk M ≠ some g ∧ sBlk D ≠ some g) ∧ (∀ g, sBlk M = some g → sBlk D ≠ some g)

theorem CM.ue {w : World} {base c d m : Nat} {O P L : Value} {wd now given births : Int} {ks : List Kd} {ps : List Pd} {ls : List Ld} {ph top at_ ro : Int} {Q M : Value} {mm : Nat} {qs ms ns : List ByteArray} (h : CM w base c d m O P L wd now given births ks ps ls ph top at_ ro Q M mm qs ms ns) : UE w base c d m P L wd now given births ks ps ls ph top at_ ro Q M (.slice none 0 0) qs ms [] :=
  ⟨⟨O, h.dr⟩, ⟨mm, h.box⟩, h.q, h.mr, ORow.nil _ _, fun g hg => ⟨(h.ap.q g hg).2.2.2, fun e => by cases e⟩, fun g _ e => by cases e⟩

/-- The youngest below a number. -/
def Young (ks : List Kd) (at_ : Int) (u : Kd) : Prop := u ∈ ks ∧ u.born < at_ ∧ ∀ y ∈ ks, y.born < at_ → y.born ≤ u.born

set_option maxRecDepth 20000 in
set_option maxHeartbeats 16000000 in
theorem sweepNext_any (base c d m : Nat) (O P L : Value) (wd now given births : Int) (ks : List Kd) (ps : List Pd) (ls : List Ld) (ph top at_ ro : Int) (Q M : Value) (mm : Nat) (qs ms : List ByteArray) (w : World) (h : CM w base c d m O P L wd now given births ks ps ls ph top at_ ro Q M mm qs ms ms) (hok : KsOk wd ks) (hb1 : ∀ k ∈ ks, 1 ≤ k.born) (hp : ps.length ≤ 100) (hl : ls.length ≤ 200) (hms : ∀ x ∈ ms, (x.size : Int) = wd) :
    Calls Tryz.prog 102 #[.pointer (some ⟨c, 0, none⟩)] w fun e w' => Below base w w' ∧
      ((e = .returned (.bool false) ∧ (∀ y ∈ ks, ¬ y.born < at_) ∧ CM w' base c d m O P L wd now given births ks ps ls ph top at_ ro Q M mm qs ms ms) ∨
       (e = .returned (.bool true) ∧ ∃ u, Young ks at_ u ∧ (((u.sum ∈ ms ∨ InUse ps ls ks u.sum) ∧ UE w' base c d m P L wd now given births ks ps ls ph top u.born ro Q M (.slice none 0 0) qs ms []) ∨ (u.sum ∉ ms ∧ ¬ InUse ps ls ks u.sum ∧ ∃ D, UE w' base c d m P L wd now given births (dropK ks u.sum) ps ls ph top u.born ro Q M D qs ms [u.sum])))) := by
  have HS : Hid (∀ X, Below w.heap.size w X → X.cell? ⟨c, 0, none⟩ = some (.pointer (some ⟨d, 0, none⟩)) ∧ X.cell? ⟨c, 5, none⟩ = some (.int .i64 at_)) := fun X hX => ⟨((h.box.below hX) 0 _ rfl).1, ((h.box.below hX) 5 _ rfl).1⟩
  have HY : Hid (∀ X, Below w.heap.size w X → Calls Tryz.prog 135 #[.pointer (some ⟨d, 0, none⟩), .int .i64 at_] X fun e w' => ∃ u ra rc, e = .returned (.tuple #[keptV u ra rc, .bool (decide (0 < u.born))]) ∧ YB ks at_ u ra rc ∧ Below X.heap.size X w') := fun X hX => youngest_any base d m O P L wd now given births at_ ks ps ls X (h.dr.below hX) hok.nd hok.sz hok.len hb1
  have HC : Hid (CM w base c d m O P L wd now given births ks ps ls ph top at_ ro Q M mm qs ms ms) := h
  have D0 : Below w.heap.size w w.drew := (Below.refl _ _).drew
  have D1 : ∀ o, Below w.heap.size w (w.alloc o).drew := fun o => ((Below.refl _ _).alloc (Nat.le_refl _) _).drew
  have hcl := h.box.lt
  have hfl : ∀ (k : Int) (X : World), (Instr.field 129 (.agg #[.int .i64 k, .int .i64 0, .int .i64 0, .int .i64 0, .int .i64 0, .slice none 0 0, .slice none 0 0, .slice none 0 0, .string ⟨#[]⟩, .int .i64 0, .string ⟨#[]⟩, .string ⟨#[]⟩]) 0).run Tryz.prog X = .ok (.int .i64 k) X := fun _ _ => by first | rfl | kernel_rfl
  clear h
  unfold keptV at HY
  go_enter Tryz.func102, Tryz.ntmps102
  go_upto_region 1 with fail
  go_cut [3, 4] (fun v t wx => ∃ (kb : Nat) (u : Kd) (ra : Option Addr) (rc : Nat), v = .pointer (some ⟨kb, 0, none⟩) ∧ t = .bool (decide (0 < u.born)) ∧ Hid (CellsAt wx kb [.string u.sum, .int .i64 u.born, .string u.text, .slice ra u.refs.length rc] ∧ YB ks at_ u ra rc ∧ Below w.heap.size w wx ∧ w.heap.size ≤ kb))
  case first =>
    go_region_held3 (fun X => X.cell? ⟨c, 0, none⟩ = some (.pointer (some ⟨d, 0, none⟩)) ∧ X.cell? ⟨c, 5, none⟩ = some (.int .i64 at_))
      (first | with_reducible exact HS.out _ D0 | with_reducible exact HS.out _ (D1 _) | with_reducible exact HS.out _ B2 | with_reducible exact HS.out _ (B2a _) | with_reducible exact HS.out _ (B2s _ _ _ _))
      (first
        | (go_at_call 135; refine Calls.mono (HY.out _ D0) ?_; rintro e w2 ⟨u, ra, rc, rfl, hY, hb2⟩; have B2 : Below w.heap.size w w2 := D0.trans (hb2.mono D0.size); have B2a : ∀ o, Below w.heap.size w (w2.alloc o) := fun o => B2.alloc B2.size o)
        | (go_at_call 135; refine Calls.mono (HY.out _ (D1 _)) ?_; rintro e w2 ⟨u, ra, rc, rfl, hY, hb2⟩; have B2 : Below w.heap.size w w2 := (D1 _).trans (hb2.mono (D1 _).size); have n0 : CellsAt w2 w.heap.size kz4 := CellsAt.below (v := .string ⟨#[]⟩) (CellsAt.new w kz4 59) (below_undrew hb2); have B2s : ∀ v0 v1 v2 v3, Below w.heap.size w ((((w2.setCell ⟨w.heap.size, 0, none⟩ v0).setCell ⟨w.heap.size, 1, none⟩ v1).setCell ⟨w.heap.size, 2, none⟩ v2).setCell ⟨w.heap.size, 3, none⟩ v3) := fun _ _ _ _ => (((B2.setCell (by simp) _).setCell (by simp) _).setCell (by simp) _).setCell (by simp) _; obtain ⟨m0, k0⟩ := n0 0 _ rfl; obtain ⟨m1, k1⟩ := n0 1 _ rfl; obtain ⟨m2, k2⟩ := n0 2 _ rfl; obtain ⟨m3, k3⟩ := n0 3 _ rfl))
    all_goals
      go_wp2_with fail
      go_meet
      first
        | exact ⟨_, u, ra, rc, rfl, rfl, ⟨(((n0.set 0 _).set 1 _).set 2 _).set 3 _, hY, B2s _ _ _ _, Nat.le_refl _⟩⟩
        | exact ⟨_, u, ra, rc, rfl, rfl, ⟨CellsAt.new w2 _ _, hY, B2a _, B2.size⟩⟩
  case rest =>
    revert wc
    intro w3 hcut
    obtain ⟨kb, u, ra, rc, rfl, rfl, HK⟩ := hcut
    clear HS HY D0 D1
    have hbw := HK.out.2.2.1
    have HC3 : Hid (CM w3 base c d m O P L wd now given births ks ps ls ph top at_ ro Q M mm qs ms ms) := HC.out.below hbw
    have hlo := HC.out.lo
    have hkc : ¬ kb = c := by have := HK.out.2.2.2; omega
    have hck : ¬ c = kb := fun e => hkc e.symm
    have hbc := HC.out.bc
    have HkV : Hid (kb ∉ vB d m O P L) := fun e => by have := HC.out.dr.lts kb e; have := HK.out.2.2.2; omega
    rcases HK.out.2.1 with ⟨hu, _, _, hall⟩ | ⟨hu, hua, humax⟩
    · have hd : decide (0 < u.born) = false := by rw [hu]; rfl
      have HA : Hid (∀ y ∈ ks, ¬ y.born < at_) := hall
      clear hall hu
      go_wp2
      go_ret
      exact ⟨hbw.mono hlo, .inl ⟨rfl, HA.out, HC3.out⟩⟩
    · have hd : decide (0 < u.born) = true := by have := hb1 u hu; simp; omega
      have HYo : Hid (Young ks at_ u) := ⟨hu, hua, humax⟩
      have hus := hok.sz u hu
      have h8 := hok.w8
      clear hua humax
      obtain ⟨k0, _⟩ := HK.out.1 0 _ rfl
      obtain ⟨k1, _⟩ := HK.out.1 1 _ rfl
      obtain ⟨q5, f5⟩ := HC3.out.box 5 _ rfl
      obtain ⟨W, hW⟩ : ∃ W, W = w3.setCell ⟨c, 5, none⟩ (.int .i64 u.born) := ⟨_, rfl⟩
      have HCW : Hid (CM W base c d m O P L wd now given births ks ps ls ph top u.born ro Q M mm qs ms ms) := by
        show CM _ _ _ _ _ _ _ _ _ _ _ _ _ _ _ _ _ _ _ _ _ _ _ _ _
        rw [hW]
        exact HC3.out.put 5 _ rfl HC3.out.q HC3.out.mr HC3.out.ap
      have HKW : Hid (CellsAt W kb [.string u.sum, .int .i64 u.born, .string u.text, .slice ra u.refs.length rc]) := CellsAt.same HK.out.1 (by rw [hW]; exact Below.heap_setCell _ _ _ _ hkc)
      have bW : Below base w W := by rw [hW]; exact (hbw.mono hlo).setCell (by simpa using hbc) _
      have HW : Hid _ := hW
      obtain ⟨nk, cc, fk, hMk, hFk, _⟩ := HCW.out.mks
      have HMk : Hid (∀ X, Below W.heap.size W X → Calls Tryz.prog 134 #[.pointer (some ⟨c, 0, none⟩), .string u.sum] X fun e w' => Says (u.sum ∈ ms) X w' e) := fun X hX =>
        isMarked_any c d ph top u.born ro Q M (.slice none 0 0) mm nk cc fk wd ms u.sum X (HCW.out.box.below hX) (hMk.keep hX hMk.lt) hFk hms hus h8
      have hth : There ks u.sum := ⟨u, hu, rfl⟩
      have HTH : Hid _ := hth
      clear hW hMk hFk HC HC3 HK hbw hu
      go_upto_region 5 with fail
      rw [← HW.out]
      clear HW k1 q5 f5 k0
      obtain ⟨k0, _⟩ := HKW.out 0 _ rfl
      obtain ⟨p0, _⟩ := HCW.out.box 0 _ rfl
      have hkl := CellsAt.lt HKW.out
      have hcW := HCW.out.box.lt
      by_cases hmk : u.sum ∈ ms
      · have HI : Hid (u.sum ∈ ms) := hmk
        have HV : Hid (∀ n : Cls W, Calls Tryz.prog 134 #[.pointer (some ⟨c, 0, none⟩), .string u.sum] n.w fun e w' => e = .returned (.bool true) ∧ Below n.w.heap.size n.w w') := fun n => (HMk.out _ n.h).mono (fun e w' ⟨b, he, hb, hbb⟩ => ⟨by rw [he, hb.2 HI.out], hbb⟩)
        have qk := Cls.cell k0 hkl
        have hne := Cls.ne W
        clear hmk k0 p0 HMk
        refine region_cls_lit (by kernel_rfl) (by kernel_rfl) ?_
        repeat (go_big_quiet_step (first | exact Cls.calls (HV.out _)))
        refine wpQuiet_nil ?_
        intro n
        clear qk hne HV
        go_wp2
        go_ret
        exact ⟨bW.trans (n.h.mono HCW.out.lo), .inr ⟨rfl, u, HYo.out, .inl ⟨.inl HI.out, (HCW.out.below n.h).ue⟩⟩⟩
      · have HI : Hid (u.sum ∉ ms) := hmk
        by_cases hin : InUse ps ls ks u.sum
        · have HU' : Hid (InUse ps ls ks u.sum) := hin
          have HV : Hid (∀ n : Cls W, Calls Tryz.prog 134 #[.pointer (some ⟨c, 0, none⟩), .string u.sum] n.w fun e w' => e = .returned (.bool false) ∧ Below n.w.heap.size n.w w') := fun n => (HMk.out _ n.h).mono (fun e w' ⟨b, he, hb, hbb⟩ => ⟨by
            cases b with
            | true => exact absurd (hb.1 rfl) HI.out
            | false => exact he, hbb⟩)
          have HA : Hid (∀ n : Cls W, Calls Tryz.prog 136 #[.pointer (some ⟨d, 0, none⟩), .agg #[.int .i64 7, .string u.sum, .string ⟨#[]⟩, .int .i64 0, .string ⟨#[]⟩, .slice none 0 0]] n.w fun e w' => e = .returned (.agg #[.int .i64 6, .int .i64 0, .int .i64 0, .int .i64 0, .int .i64 0, .slice none 0 0, .slice none 0 0, .slice none 0 0, .string ⟨#[]⟩, .int .i64 0, .string ⟨#[]⟩, .string ⟨#[]⟩]) ∧ Below n.w.heap.size n.w w') := fun n => attemptDrop_held base d m O P L wd now given births ks ps ls u.sum n.w (HCW.out.dr.below n.h) hok hp hl HTH.out HU'.out
          have qk := Cls.cell k0 hkl
          have q0 := Cls.cell p0 hcW
          have hne := Cls.ne W
          clear hmk hin k0 p0 HMk hth
          refine region_cls_lit (by kernel_rfl) (by kernel_rfl) ?_
          repeat (go_big_quiet_step (first | exact Cls.calls (HV.out _) | exact Cls.calls (HA.out _)))
          refine wpQuiet_nil ?_
          intro n
          clear qk q0 hne HV HA
          go_wp2
          go_ret
          exact ⟨bW.trans (n.h.mono HCW.out.lo), .inr ⟨rfl, u, HYo.out, .inl ⟨.inr HU'.out, (HCW.out.below n.h).ue⟩⟩⟩
        · have HU' : Hid (¬ InUse ps ls ks u.sum) := hin
          have HV : Hid (∀ X, Below W.heap.size W X → Calls Tryz.prog 134 #[.pointer (some ⟨c, 0, none⟩), .string u.sum] X fun e w' => e = .returned (.bool false) ∧ Below X.heap.size X w') := fun X hX => (HMk.out _ hX).mono (fun e w' ⟨b, he, hb, hbb⟩ => ⟨by
            cases b with
            | true => exact absurd (hb.1 rfl) HI.out
            | false => exact he, hbb⟩)
          have HA : Hid (∀ X, Below W.heap.size W X → Calls Tryz.prog 136 #[.pointer (some ⟨d, 0, none⟩), .agg #[.int .i64 7, .string u.sum, .string ⟨#[]⟩, .int .i64 0, .string ⟨#[]⟩, .slice none 0 0]] X fun e w' => e = .returned (.agg #[.int .i64 0, .int .i64 0, .int .i64 0, .int .i64 0, .int .i64 0, .slice none 0 0, .slice none 0 0, .slice none 0 0, .string ⟨#[]⟩, .int .i64 0, .string ⟨#[]⟩, .string ⟨#[]⟩]) ∧ ∃ O', Dr w' base d m O' P L wd now given births (dropK ks u.sum) ps ls ∧ O'.ownBlock = O.ownBlock ∧ Tn (vB d m O P L) X w') := fun X hX => attemptDrop_yes base d m O P L wd now given births ks ps ls u.sum X (HCW.out.dr.below hX) hok hp hl HTH.out HU'.out
          have HSS : Hid (∀ X, Below W.heap.size W X → X.cell? ⟨c, 0, none⟩ = some (.pointer (some ⟨d, 0, none⟩)) ∧ X.cell? ⟨kb, 0, none⟩ = some (.string u.sum)) := fun X hX => ⟨((HCW.out.box.below hX) 0 _ rfl).1, ((CellsAt.below HKW.out hX) 0 _ rfl).1⟩
          have HST : Hid (∀ X X', Below W.heap.size W X → Tn (vB d m O P L) X X' → X'.cell? ⟨c, 0, none⟩ = some (.pointer (some ⟨d, 0, none⟩)) ∧ X'.cell? ⟨kb, 0, none⟩ = some (.string u.sum)) := fun X X' hX hT =>
            ⟨(CellsAt.same (HCW.out.box.below hX) (hT.block c (Nat.lt_of_lt_of_le hcW hX.size) HCW.out.ap.cV) 0 _ rfl).1, (CellsAt.same (CellsAt.below HKW.out hX) (hT.block kb (Nat.lt_of_lt_of_le hkl hX.size) HkV.out) 0 _ rfl).1⟩
          have D0 : Below W.heap.size W W.drew := (Below.refl _ _).drew
          clear hmk hin k0 p0 HMk hth
          go_region_held3 (fun X => X.cell? ⟨c, 0, none⟩ = some (.pointer (some ⟨d, 0, none⟩)) ∧ X.cell? ⟨kb, 0, none⟩ = some (.string u.sum))
            (first | with_reducible exact HSS.out _ D0 | with_reducible exact HSS.out _ B6 | with_reducible exact HST.out _ _ B6 ht7)
            (first
              | (go_at_call 134; refine Calls.mono (HV.out _ D0) ?_; rintro e w6 ⟨rfl, hb6⟩; have B6 : Below W.heap.size W w6 := D0.trans (hb6.mono D0.size))
              | (go_at_call 136; refine Calls.mono (HA.out _ B6) ?_; rintro e w7 ⟨rfl, O', hd7, hO7, ht7⟩))
          all_goals
            have hcV := HCW.out.ap.cV
            have hc7 : w7.heap[c]? = w6.heap[c]? := ht7.block c (Nat.lt_of_lt_of_le hcW B6.size) hcV
            have hk7 : w7.heap[kb]? = w6.heap[kb]? := ht7.block kb (Nat.lt_of_lt_of_le hkl B6.size) HkV.out
            have x7 : CellsAt w7 c (clC d ph Q M top u.born ro mm (.slice none 0 0)) := CellsAt.same (HCW.out.box.below B6) hc7
            have y7 : CellsAt w7 kb [.string u.sum, .int .i64 u.born, .string u.text, .slice ra u.refs.length rc] := CellsAt.same (CellsAt.below HKW.out B6) hk7
            have cb7 : CBlk w7 c := (HCW.out.cb.same (B6.block c hcW)).same hc7
            have hq7 : ORow w7 base Q qs := (HCW.out.q.below B6).turn ht7 (fun g hg => (HCW.out.ap.q g hg).2.2.1)
            have hm7 : ORow w7 base M ms := (HCW.out.mr.below B6).turn ht7 (fun g hg => (HCW.out.ap.r g hg).2.2)
            have hz7 := ht7.size
            have hz6 := B6.size
            have hlW := HCW.out.lo
            have hbV : ∀ b ∈ vB d m O P L, base ≤ b := fun b hv => by
              unfold vB at hv
              simp only [List.mem_cons, List.mem_append, Option.mem_toList] at hv
              rcases hv with rfl | rfl | hv | hv | hv
              · exact HCW.out.dr.bd
              · exact HCW.out.dr.bm
              · exact (own_lt HCW.out.dr.ord hv).1
              · exact (own_lt HCW.out.dr.pin hv).1
              · exact (own_lt HCW.out.dr.lea hv).1
            have bB7 : Below base w w7 := (bW.trans (B6.mono hlW)).trans (ht7.below (by omega) hbV)
            have hvb : vB d m O' P L = vB d m O P L := by unfold vB; rw [hO7]
            obtain ⟨V', w8, hr, ho8, hg8, hb8⟩ := oappend (w7.drew.alloc (.cells #[.string u.sum] 9)) base (.slice none 0 0) [] (ORow.nil _ _) ⟨w7.heap.size, 0, none⟩ 1 u.sum (by simp [go_sem]) (by simp) (by simp; omega) 27
            obtain ⟨va, vc, rfl, _⟩ := ho8.row
            simp only [List.nil_append, List.length_cons, List.length_nil, Nat.zero_add] at hr ho8 hb8
            have b8 : Below w7.heap.size w7 w8 := ((Below.refl _ _).drew.alloc (by simp) _).grown hg8 (by simp) (fun q e => by cases e)
            have zA : (w7.drew.alloc (.cells #[.string u.sum] 9)).heap.size = w7.heap.size + 1 := by simp
            obtain ⟨x8, g8⟩ := (x7.below b8) 8 _ rfl
            have hVn : ∀ g, sBlk (.slice va 1 vc) = some g → w7.heap.size < g := fun g hg => by
              rcases hb8 with h' | h'
              · rw [h'] at hg; cases hg
              · rw [h', zA] at hg; cases hg; omega
            have hT := tn1 w8 c 8 (.slice va 1 vc)
            have hd8 : Dr (w8.setCell ⟨c, 8, none⟩ (.slice va 1 vc)) base d m O' P L wd now given births (dropK ks u.sum) ps ls := (hd7.below b8).apart hT hbc (by rw [hvb]; exact hcV) (fun cur fz e => by
              obtain ⟨a1, a2, h1⟩ := cb7.same (b8.block c (Nat.lt_of_lt_of_le hcW (Nat.le_trans hz6 hz7)))
              rw [e] at h1
              simp at h1)
            have hne : ∀ k, k ≠ c → (w8.setCell ⟨c, 8, none⟩ (.slice va 1 vc)).heap[k]? = w8.heap[k]? := fun k hk => Below.heap_setCell _ _ _ _ hk
            have HE : Hid (UE (w8.setCell ⟨c, 8, none⟩ (.slice va 1 vc)) base c d m P L wd now given births (dropK ks u.sum) ps ls ph top u.born ro Q M (.slice va 1 vc) qs ms [u.sum] ∧ Below base w (w8.setCell ⟨c, 8, none⟩ (.slice va 1 vc))) := by
              refine ⟨⟨⟨O', hd8⟩, ⟨mm, (x7.below b8).set 8 _⟩, (hq7.below b8).stays (by simp) (fun g hg => hne g (HCW.out.ap.q g hg).1), (hm7.below b8).stays (by simp) (fun g hg => hne g (HCW.out.ap.r g hg).1), ho8.stays (by simp) (fun g hg => hne g (by have := hVn g hg; omega)), fun g hg => ⟨(HCW.out.ap.q g hg).2.2.2, fun e => ?_⟩, fun g hg e => ?_⟩, (bB7.trans (b8.mono (by omega))).setCell (by simpa using hbc) _⟩
              · have := hVn g e; have := (hq7.blk hg).2; omega
              · have := hVn g e; have := (hm7.blk hg).2; omega
            obtain ⟨x70, _⟩ := x7 8 _ rfl
            obtain ⟨y70, _⟩ := y7 0 _ rfl
            have hc7l : c < w7.heap.size := by omega
            have hk7l : kb < w7.heap.size := by omega
            clear hd7 hO7 ht7 hd8 hne hT hVn b8 ho8 hb8 hg8 hvb hbV bB7 hq7 hm7 cb7 x7 y7 hc7 hk7 HSS HST HA HV B6 hb6 hcV
            go_upto_region 6 with fail
            go_region_law (first
              | (refine step_append_run (by rfl) (.tmp 47) (.tmp 50) 27 27 (by rfl) (by rfl) (by rfl) hr ?_))
            all_goals
              clear hr
              go_wp2
              go_ret
              exact ⟨HE.out.2, .inr ⟨rfl, u, HYo.out, .inr ⟨HI.out, HU'.out, _, HE.out.1⟩⟩⟩

end Go.Proofs.YthkmpihfhkmaoaaGreat

/-
  (*impl.clearing).unit.
-/
namespace Go.Proofs.YthkmpihfhkmaoaaGreat
open Go.ChangeShapes Go.WideShapes Go.ChangeAt Go.RowKit

/-- What a unit comes to. -/
structure UR where
  ks : List Kd
  ph : Int
  top : Int
  at_ : Int
  ro : Int
  qs : List ByteArray
  ms : List ByteArray
  ds : List ByteArray

/-- The first of the four rules that applies. -/
inductive UTo (ks : List Kd) (ps : List Pd) (ls : List Ld) (births ph top at_ ro : Int) (qs ms : List ByteArray) : UR → Prop
  | begin (h : ph = 0) : UTo ks ps ls births ph top at_ ro qs ms ⟨ks, 1, births, births + 1, ro, rootsL ps ls, ms, []⟩
  | mark (h : ph ≠ 0) (s : ByteArray) (q0 qs' ms' : List ByteArray) (hq : qs = s :: q0) (hm : MarkTo ks s q0 ms qs' ms') : UTo ks ps ls births ph top at_ ro qs ms ⟨ks, ph, top, at_, ro, qs', ms', []⟩
  | rest (h : ph ≠ 0) (hq : qs = []) (hn : ∀ y ∈ ks, ¬ y.born < at_) : UTo ks ps ls births ph top at_ ro qs ms ⟨ks, 0, 0, 0, ro + 1, [], [], []⟩
  | keep (h : ph ≠ 0) (hq : qs = []) (u : Kd) (hu : Young ks at_ u) (hk : u.sum ∈ ms ∨ InUse ps ls ks u.sum) : UTo ks ps ls births ph top at_ ro qs ms ⟨ks, 2, top, u.born, ro, [], ms, []⟩
  | drop (h : ph ≠ 0) (hq : qs = []) (u : Kd) (hu : Young ks at_ u) (hm : u.sum ∉ ms) (hk : ¬ InUse ps ls ks u.sum) : UTo ks ps ls births ph top at_ ro qs ms ⟨dropK ks u.sum, 2, top, u.born, ro, [], ms, [u.sum]⟩

/-- What is asked of a state and a round for a unit. -/
structure UOk (wd births : Int) (ks : List Kd) (ps : List Pd) (ls : List Ld) (ph ro : Int) (qs ms : List ByteArray) : Prop where
  ok : KsOk wd ks
  born : ∀ k ∈ ks, 1 ≤ k.born
  refs : ∀ k ∈ ks, k.refs.length ≤ 30 ∧ ∀ r ∈ k.refs, (r.size : Int) = wd
  pl : ps.length ≤ 100
  ll : ls.length ≤ 200
  psz : ∀ p ∈ ps, (p.sum.size : Int) = wd
  lsz : ∀ l ∈ ls, (l.sum.size : Int) = wd
  b0 : 0 ≤ births
  b1 : births ≤ 1000000000
  phs : ph = 0 ∨ ph = 1 ∨ ph = 2
  r0 : 0 ≤ ro
  r1 : ro ≤ 1000000000
  qsz : ∀ x ∈ qs, (x.size : Int) = wd
  msz : ∀ x ∈ ms, (x.size : Int) = wd
  ql : qs.length ≤ 1048576
  ml : ms.length ≤ 1048576

set_option maxRecDepth 20000 in
set_option maxHeartbeats 8000000 in
theorem unit_any (base c d m : Nat) (O P L : Value) (wd now given births : Int) (ks : List Kd) (ps : List Pd) (ls : List Ld) (ph top at_ ro : Int) (Q M : Value) (mm : Nat) (qs ms : List ByteArray) (w : World) (h : CM w base c d m O P L wd now given births ks ps ls ph top at_ ro Q M mm qs ms ms) (hok : UOk wd births ks ps ls ph ro qs ms) :
    Calls Tryz.prog 44 #[.pointer (some ⟨c, 0, none⟩)] w fun e w' => e = .returned (.tuple #[]) ∧ ∃ r Q' M' D', UTo ks ps ls births ph top at_ ro qs ms r ∧ UE w' base c d m P L wd now given births r.ks ps ls r.ph r.top r.at_ r.ro Q' M' D' r.qs r.ms r.ds ∧ Below base w w' := by
  have HC : Hid (CM w base c d m O P L wd now given births ks ps ls ph top at_ ro Q M mm qs ms ms) := h
  have HO : Hid _ := hok
  obtain ⟨q1, f1⟩ := h.box 1 _ rfl
  obtain ⟨va, vc, rfl, _⟩ := h.q.row
  obtain ⟨q2, f2⟩ := h.box 2 _ rfl
  have hbc := h.bc
  have hql := hok.ql
  rcases hok.phs with rfl | hph
  · clear h hok
    go_enter Tryz.func44, Tryz.ntmps44
    go_wp2_with fail
    refine (begin_any base c d m O P L wd now given births ks ps ls 0 top at_ ro _ M mm qs ms ms w HC.out HO.out.pl HO.out.ll HO.out.psz HO.out.lsz HO.out.ok.w8 HO.out.b0 HO.out.b1).mono ?_
    rintro e w1 ⟨rfl, V, hC1, hb1⟩
    have HE : Hid _ := And.intro hC1.ue hb1
    clear hC1 hb1 q1 q2 f1 f2
    go_wp2
    go_end0
    exact ⟨rfl, _, _, _, _, .begin rfl, HE.out.1, HE.out.2⟩
  · have hp0 : ph ≠ 0 := by rcases hph with rfl | rfl <;> decide
    have hp0' : (ph == 0) = false := by simpa using hp0
    cases qs with
    | cons s q0 =>
      clear h hok
      go_enter Tryz.func44, Tryz.ntmps44
      go_wp2_with fail
      refine (markFirst_any base c d m O P L wd now given births ks ps ls ph top at_ ro _ M mm s q0 ms w HC.out (fun k hk => ⟨HO.out.ok.sz k hk, (HO.out.refs k hk).1, (HO.out.refs k hk).2⟩) HO.out.msz (HO.out.qsz s (by simp)) HO.out.ok.w8 (by simp at hql; omega) HO.out.ml).mono ?_
      rintro e w1 ⟨rfl, Q', M', qs', ms', hC1, hm1, hb1⟩
      have HE : Hid (UE w1 base c d m P L wd now given births ks ps ls ph top at_ ro Q' M' (.slice none 0 0) qs' ms' [] ∧ MarkTo ks s q0 ms qs' ms' ∧ Below base w w1) := ⟨hC1.ue, hm1, hb1⟩
      clear hC1 hb1 hm1 q1 q2 f1 f2
      go_wp2
      go_end0
      exact ⟨rfl, _, _, _, _, .mark hp0 s q0 qs' ms' rfl HE.out.2.1, HE.out.1, HE.out.2.2⟩
    | nil =>
      rcases hph with rfl | rfl
      · obtain ⟨W, hW⟩ : ∃ W, W = w.setCell ⟨c, 1, none⟩ (.int .i64 2) := ⟨_, rfl⟩
        have HCW : Hid (CM W base c d m O P L wd now given births ks ps ls 2 top at_ ro (.slice va 0 vc) M mm [] ms ms) := by
          show CM _ _ _ _ _ _ _ _ _ _ _ _ _ _ _ _ _ _ _ _ _ _ _ _ _
          rw [hW]
          exact h.put 1 _ rfl h.q h.mr h.ap
        have bW : Below base w W := by rw [hW]; exact (Below.refl _ _).setCell (by simpa using hbc) _
        have HW : Hid _ := hW
        clear h hok hW
        go_enter Tryz.func44, Tryz.ntmps44
        go_upto_region 7 with fail
        rw [← HW.out]
        clear HW
        go_wp2_with fail
        refine (sweepNext_any base c d m O P L wd now given births ks ps ls 2 top at_ ro (.slice va 0 vc) M mm [] ms W HCW.out HO.out.ok HO.out.born HO.out.pl HO.out.ll HO.out.msz).mono ?_
        rintro e w1 ⟨hb1, hres⟩
        have hlo := HCW.out.lo
        rcases hres with ⟨rfl, hn, hC1⟩ | ⟨rfl, u, hu, hres⟩
        · have HN : Hid (∀ y ∈ ks, ¬ y.born < at_) := hn
          have HC1 : Hid (CM w1 base c d m O P L wd now given births ks ps ls 2 top at_ ro (.slice va 0 vc) M mm [] ms ms) := hC1
          clear hn hC1 q1 q2 f1 f2
          go_wp2_with fail
          refine (rest_any c d 2 top at_ ro (.slice va 0 vc) M (.slice none 0 0) mm w1 HC1.out.box HO.out.r0 HO.out.r1).mono ?_
          rintro e w2 ⟨rfl, mm', hc2, ht2⟩
          have hd2 := HC1.out.dr.turnU HC1.out.hu ht2 (fun b hb => by simp at hb; subst hb; exact ⟨hbc, HC1.out.ap.cV⟩)
          have hB2 : Below base w w2 := (bW.trans hb1).trans (ht2.below (Nat.le_trans hlo hb1.size) (by simp; exact hbc))
          have HE : Hid (UE w2 base c d m P L wd now given births ks ps ls 0 0 0 (ro + 1) (.slice none 0 0) (.slice none 0 0) (.slice none 0 0) [] [] [] ∧ Below base w w2) := ⟨⟨⟨O, hd2⟩, ⟨mm', hc2⟩, ORow.nil _ _, ORow.nil _ _, ORow.nil _ _, (fun g e => by cases e), fun g e => by cases e⟩, hB2⟩
          clear hd2 hB2 hc2 ht2
          go_wp2
          go_end0
          exact ⟨rfl, _, _, _, _, .rest hp0 rfl (fun y hy => Int.not_lt.2 (HN.out y hy)), HE.out.1, HE.out.2⟩
        · have HB : Hid (Below base w w1) := (bW.trans hb1)
          rcases hres with ⟨hk, hU⟩ | ⟨hm, hk, D, hU⟩
          · have HE : Hid (UE w1 base c d m P L wd now given births ks ps ls 2 top u.born ro (.slice va 0 vc) M (.slice none 0 0) [] ms [] ∧ Young ks at_ u ∧ (u.sum ∈ ms ∨ InUse ps ls ks u.sum)) := ⟨hU, hu, hk⟩
            clear hU hu hk q1 q2 f1 f2
            go_wp2
            go_end0
            exact ⟨rfl, _, _, _, _, .keep hp0 rfl u HE.out.2.1 HE.out.2.2, HE.out.1, HB.out⟩
          · have HE : Hid (UE w1 base c d m P L wd now given births (dropK ks u.sum) ps ls 2 top u.born ro (.slice va 0 vc) M D [] ms [u.sum] ∧ Young ks at_ u ∧ u.sum ∉ ms ∧ ¬ InUse ps ls ks u.sum) := ⟨hU, hu, hm, hk⟩
            clear hU hu hk hm q1 q2 f1 f2
            go_wp2
            go_end0
            exact ⟨rfl, _, _, _, _, .drop hp0 rfl u HE.out.2.1 HE.out.2.2.1 HE.out.2.2.2, HE.out.1, HB.out⟩
      · clear h hok
        go_enter Tryz.func44, Tryz.ntmps44
        go_wp2_with fail
        refine (sweepNext_any base c d m O P L wd now given births ks ps ls 2 top at_ ro (.slice va 0 vc) M mm [] ms w HC.out HO.out.ok HO.out.born HO.out.pl HO.out.ll HO.out.msz).mono ?_
        rintro e w1 ⟨hb1, hres⟩
        have hlo := HC.out.lo
        rcases hres with ⟨rfl, hn, hC1⟩ | ⟨rfl, u, hu, hres⟩
        · have HN : Hid (∀ y ∈ ks, ¬ y.born < at_) := hn
          have HC1 : Hid (CM w1 base c d m O P L wd now given births ks ps ls 2 top at_ ro (.slice va 0 vc) M mm [] ms ms) := hC1
          clear hn hC1 q1 q2 f1 f2
          go_wp2_with fail
          refine (rest_any c d 2 top at_ ro (.slice va 0 vc) M (.slice none 0 0) mm w1 HC1.out.box HO.out.r0 HO.out.r1).mono ?_
          rintro e w2 ⟨rfl, mm', hc2, ht2⟩
          have hd2 := HC1.out.dr.turnU HC1.out.hu ht2 (fun b hb => by simp at hb; subst hb; exact ⟨hbc, HC1.out.ap.cV⟩)
          have hB2 : Below base w w2 := hb1.trans (ht2.below (Nat.le_trans hlo hb1.size) (by simp; exact hbc))
          have HE : Hid (UE w2 base c d m P L wd now given births ks ps ls 0 0 0 (ro + 1) (.slice none 0 0) (.slice none 0 0) (.slice none 0 0) [] [] [] ∧ Below base w w2) := ⟨⟨⟨O, hd2⟩, ⟨mm', hc2⟩, ORow.nil _ _, ORow.nil _ _, ORow.nil _ _, (fun g e => by cases e), fun g e => by cases e⟩, hB2⟩
          clear hd2 hB2 hc2 ht2
          go_wp2
          go_end0
          exact ⟨rfl, _, _, _, _, .rest hp0 rfl (fun y hy => Int.not_lt.2 (HN.out y hy)), HE.out.1, HE.out.2⟩
        · have HB : Hid (Below base w w1) := hb1
          rcases hres with ⟨hk, hU⟩ | ⟨hm, hk, D, hU⟩
          · have HE : Hid (UE w1 base c d m P L wd now given births ks ps ls 2 top u.born ro (.slice va 0 vc) M (.slice none 0 0) [] ms [] ∧ Young ks at_ u ∧ (u.sum ∈ ms ∨ InUse ps ls ks u.sum)) := ⟨hU, hu, hk⟩
            clear hU hu hk q1 q2 f1 f2
            go_wp2
            go_end0
            exact ⟨rfl, _, _, _, _, .keep hp0 rfl u HE.out.2.1 HE.out.2.2, HE.out.1, HB.out⟩
          · have HE : Hid (UE w1 base c d m P L wd now given births (dropK ks u.sum) ps ls 2 top u.born ro (.slice va 0 vc) M D [] ms [u.sum] ∧ Young ks at_ u ∧ u.sum ∉ ms ∧ ¬ InUse ps ls ks u.sum) := ⟨hU, hu, hm, hk⟩
            clear hU hu hk hm q1 q2 f1 f2
            go_wp2
            go_end0
            exact ⟨rfl, _, _, _, _, .drop hp0 rfl u HE.out.2.1 HE.out.2.2.1 HE.out.2.2.2, HE.out.1, HB.out⟩

end Go.Proofs.YthkmpihfhkmaoaaGreat

/-
  impl.validSums, impl.validRound.
-/
namespace Go.Proofs.YthkmpihfhkmaoaaGreat
open Go.ChangeShapes Go.WideShapes Go.ChangeAt Go.RowKit
attribute [local go_sem ↓] Go.wp_at_zero Go.wp_at_succ

set_option maxHeartbeats 400000 in
theorem wrong_any (s : ByteArray) (wd : Int) (b : Nat) (w : World) (hc : w.cell? ⟨b, 0, none⟩ = some (.int .i64 wd)) :
    Calls Tryz.prog 161 #[.string s, .pointer (some ⟨b, 0, none⟩)] w fun e w' => e = .returned (.bool (!decide ((s.size : Int) = wd))) ∧ w' = w := by
  go_enter Tryz.func161, Tryz.ntmps161
  by_cases h : (s.size : Int) = wd
  · have h' : ((s.size : Int) != wd) = false := by simp [h]
    go_wp2
    go_ret
    exact ⟨by simp [h], rfl⟩
  · have h' : ((s.size : Int) != wd) = true := by simp [h]
    go_wp2
    go_ret
    exact ⟨by simp [h], rfl⟩

set_option maxHeartbeats 1000000 in
theorem indexFunc_any (a : Option Addr) (cap b : Nat) (ss : List ByteArray) (wd : Int) (w : World) (B : Nat) (hrow : SRow w B a ss) (hl : ss.length ≤ 1048576) (hc : w.cell? ⟨b, 0, none⟩ = some (.int .i64 wd)) :
    Calls Tryz.prog 191 #[.slice a ss.length cap, .func (.func 161) #[] #[.pointer (some ⟨b, 0, none⟩)]] w fun e w' => ∃ r : Int, e = .returned (.int .i64 r) ∧ (0 ≤ r ↔ ∃ s ∈ ss, ¬ (s.size : Int) = wd) ∧ w' = w := by
  go_enter Tryz.func191, Tryz.ntmps191
  go_wp2
  go_loop [8] (fun i => ∃ k : Nat, k ≤ ss.length ∧ i = .int .i64 k ∧ Hid (∀ j x, j < k → ss[j]? = some x → (x.size : Int) = wd)) (fun i => ss.length - (intOf i).toNat)
  case atStart => exact ⟨0, Nat.zero_le _, rfl, fun j x h => by omega⟩
  case round =>
    obtain ⟨k, hk, rfl, hall⟩ := hrel
    by_cases hlt : k < ss.length
    · obtain ⟨b', off, ha, hb, hc'⟩ := hrow.at hlt
      subst ha
      have hg : Hid (ss[k]? = some ss[k]) := List.getElem?_eq_getElem hlt
      have c0 := hc' k _ hg
      clear hc' hrow
      generalize ss[k] = x at *
      go_wp2_with fail
      refine (wrong_any x wd b w hc).mono ?_
      rintro e w1 ⟨rfl, rfl⟩
      by_cases h : (x.size : Int) = wd
      · have HA : Hid (∀ j y, j < k + 1 → ss[j]? = some y → (y.size : Int) = wd) := by
          intro j y hj hy
          rcases Nat.lt_or_ge j k with h' | h'
          · exact hall j y h' hy
          · obtain rfl : j = k := by omega
            rw [hg.out] at hy
            cases hy
            exact h
        have hd : decide ((x.size : Int) = wd) = true := by simp [h]
        rw [hd]
        go_wp2
        exact ⟨⟨k + 1, by omega, by go_num, HA⟩, by simp [intOf]; omega⟩
      · have hd : decide ((x.size : Int) = wd) = false := by simp [h]
        rw [hd]
        go_wp2
        go_ret
        exact ⟨_, rfl, ⟨fun _ => ⟨x, List.mem_of_getElem? hg.out, h⟩, fun _ => by omega⟩, rfl⟩
    · go_wp2
      go_ret
      refine ⟨_, rfl, ⟨fun h => by omega, fun ⟨s, hs, h⟩ => ?_⟩, rfl⟩
      obtain ⟨j, hj, rfl⟩ := List.getElem_of_mem hs
      exact absurd (hall j _ (by omega) (List.getElem?_eq_getElem hj)) h

open Classical in
set_option maxHeartbeats 400000 in
theorem containsFunc_any (a : Option Addr) (cap b : Nat) (ss : List ByteArray) (wd : Int) (w : World) (B : Nat) (hrow : SRow w B a ss) (hl : ss.length ≤ 1048576) (hc : w.cell? ⟨b, 0, none⟩ = some (.int .i64 wd)) :
    Calls Tryz.prog 162 #[.slice a ss.length cap, .func (.func 161) #[] #[.pointer (some ⟨b, 0, none⟩)]] w fun e w' => e = .returned (.bool (decide (∃ s ∈ ss, ¬ (s.size : Int) = wd))) ∧ w' = w := by
  go_enter Tryz.func162, Tryz.ntmps162
  go_wp2_with fail
  refine (indexFunc_any a cap b ss wd w B hrow hl hc).mono ?_
  rintro e w1 ⟨r, rfl, hr, rfl⟩
  by_cases h : 0 ≤ r
  · have hd : decide ((0 : Int) ≤ r) = true := by simpa using h
    go_wp2
    go_ret
    exact ⟨by simp [hr.1 h], rfl⟩
  · have hd : decide ((0 : Int) ≤ r) = false := by simpa using h
    have hd' : ¬ ∃ s ∈ ss, ¬ (s.size : Int) = wd := fun e => h (hr.2 e)
    go_wp2
    go_ret
    exact ⟨by rw [decide_eq_false hd']; rfl, rfl⟩

/-- The sums of a round are right. -/
structure SumsOk (wd : Int) (qs ms : List ByteArray) : Prop where
  nq : qs.length ≤ 23200
  nm : ms.length ≤ 600
  q : ∀ s ∈ qs, (s.size : Int) = wd
  m : ∀ s ∈ ms, (s.size : Int) = wd
  nd : ms.Nodup

theorem keys_nodup {wd : Int} {ms : List ByteArray} (h8 : wd ≤ 8) (hm : ∀ s ∈ ms, (s.size : Int) = wd) : (ms.map keyL).Nodup ↔ ms.Nodup := by
  induction ms with
  | nil => simp
  | cons x r ih =>
    have ih := ih (fun s hs => hm s (by simp [hs]))
    simp only [List.map_cons, List.nodup_cons, ih]
    have hx := hm x (by simp)
    constructor
    · rintro ⟨h1, h2⟩
      exact ⟨fun h => h1 (List.mem_map.2 ⟨x, h, rfl⟩), h2⟩
    · rintro ⟨h1, h2⟩
      refine ⟨fun h => ?_, h2⟩
      obtain ⟨y, hy, e⟩ := List.mem_map.1 h
      have hys := hm y (by simp [hy])
      have : y = x := key_inj e (by omega) (by omega)
      subst this
      exact h1 hy

set_option maxRecDepth 20000 in
set_option maxHeartbeats 2000000 in
theorem validSums_any (ph top at_ ro wd : Int) (a b : Option Addr) (ac bc : Nat) (qs ms : List ByteArray) (w : World) (hq : SRow w w.heap.size a qs) (hm : SRow w w.heap.size b ms) (hf : RFit qs ms) (h8 : wd ≤ 8) :
    Calls Tryz.prog 132 #[.agg #[.int .i64 ph, .slice a qs.length ac, .slice b ms.length bc, .int .i64 top, .int .i64 at_, .int .i64 ro], .int .i64 wd] w fun e w' => Says (SumsOk wd qs ms) w w' e := by
  have hfq := hf.q
  have hfm := hf.m
  have hb : Below w.heap.size w ((w.alloc (.cells #[.int .i64 ph, .slice a qs.length ac, .slice b ms.length bc, .int .i64 top, .int .i64 at_, .int .i64 ro] 37)).alloc (.cells #[.int .i64 wd] 3)) := ((Below.refl _ _).alloc (Nat.le_refl _) _).alloc (by simp) _
  go_enter Tryz.func132, Tryz.ntmps132
  by_cases h1 : qs.length ≤ 23200
  · have d1 : decide ((23200 : Int) < (qs.length : Int)) = false := by simp; omega
    by_cases h2 : ms.length ≤ 600
    · have d2 : decide ((600 : Int) < (ms.length : Int)) = false := by simp; omega
      go_wp2_with fail
      refine (containsFunc_any a ac _ qs wd _ w.heap.size (hq.below hb) hf.q (by simp [go_sem])).mono ?_
      rintro e w1 ⟨rfl, rfl⟩
      by_cases h3 : ∃ s ∈ qs, ¬ (s.size : Int) = wd
      · rw [decide_eq_true h3]
        go_wp2
        go_ret
        exact Says.no (fun h => by obtain ⟨s, hs, h'⟩ := h3; exact h' (h.q s hs)) hb
      · rw [decide_eq_false h3]
        go_wp2_with fail
        refine (containsFunc_any b bc _ ms wd _ w.heap.size (hm.below hb) hf.m (by simp [go_sem])).mono ?_
        rintro e w2 ⟨rfl, rfl⟩
        by_cases h4 : ∃ s ∈ ms, ¬ (s.size : Int) = wd
        · rw [decide_eq_true h4]
          go_wp2
          go_ret
          exact Says.no (fun h => by obtain ⟨s, hs, h'⟩ := h4; exact h' (h.m s hs)) hb
        · rw [decide_eq_false h4]
          have hqa : ∀ s ∈ qs, (s.size : Int) = wd := fun s hs => Classical.byContradiction fun h => h3 ⟨s, hs, h⟩
          have hma : ∀ s ∈ ms, (s.size : Int) = wd := fun s hs => Classical.byContradiction fun h => h4 ⟨s, hs, h⟩
          have HA : Hid _ := And.intro hqa hma
          clear hqa hma h3 h4
          go_wp2_with fail
          obtain ⟨W, hW⟩ : ∃ W, W = ((w.alloc (.cells #[.int .i64 ph, .slice a qs.length ac, .slice b ms.length bc, .int .i64 top, .int .i64 at_, .int .i64 ro] 37)).alloc (.cells #[.int .i64 wd] 3)) := ⟨_, rfl⟩
          have hbx : RBox W w.heap.size ph (.slice a qs.length ac) (.slice b ms.length bc) top at_ ro := by
            rw [hW]
            exact (RBox.new w ph top at_ ro _ _ 37).below ((Below.refl _ _).alloc (Nat.le_refl _) _)
          rw [← hW] at hb ⊢
          have HX : Hid _ := hbx
          have HMR : Hid _ := hm.below' hb
          obtain ⟨x0, x1, x2, x3, x4, x5, x6⟩ := hbx
          clear hW
          go_region_with (first
            | (go_at_call 97; refine (marksOf_any ph top at_ ro a b qs.length ac bc ms W.drew HMR.out (by omega)).mono ?_; rintro e w2 ⟨mb, cc, f, rfl, hmb, hkc, hmk, hb2⟩; have hlen := fun ty => hkc.len Tryz.underlying82 ty; have y2 := (hb2.cell (p := ⟨w.heap.size, 2, none⟩) x6).trans x2))
          all_goals
            have HB : Hid (Below w.heap.size w w2) := (hb.drew.trans (hb2.mono hb.size))
            have HK : Hid _ := hmk
            clear hlen hkc hmk hb2
            go_wp2
            go_ret
            refine ⟨_, rfl, ?_, HB.out⟩
            have h6 := HK.out.all
            rw [keys_nodup h8 HA.out.2] at h6
            have h7 : (cc : Int) = ms.length ↔ ms.Nodup := by rw [← h6]; omega
            simp only [beq_iff_eq, h7]
            exact ⟨fun h => ⟨h1, h2, HA.out.1, HA.out.2, h⟩, fun h => h.nd⟩
    · have d2 : decide ((600 : Int) < (ms.length : Int)) = true := by simp; omega
      go_wp2
      go_ret
      exact Says.no (fun h => h2 h.nm) hb
  · have d1 : decide ((23200 : Int) < (qs.length : Int)) = true := by simp; omega
    go_wp2
    go_ret
    exact Says.no (fun h => h1 h.nq) hb

end Go.Proofs.YthkmpihfhkmaoaaGreat
