/-
  spec.Live, spec.Waste.
-/
import Derived.Test.YtbelneejghdmoaaStWo
import Derived.Test.YtbelneejghdmoaaStSV
import Derived.Test.YtbelneejghdmoaaSrt
namespace Go.Proofs.Ytbelneejghdmoaa
open Go.ChangeShapes Go.WideShapes Go.ChangeAt Go.RowKit
attribute [local go_sem ↓] Go.wp_at_zero Go.wp_at_succ

theorem insS_self (l : List ByteArray) (x : ByteArray) : x ∈ insS l x := by
  unfold insS
  split
  · rename_i h
    exact List.mem_of_getElem? h
  · simp

theorem insS_old {l : List ByteArray} {x y : ByteArray} (h : y ∈ l) : y ∈ insS l x := by
  unfold insS
  split
  · exact h
  · have := List.take_append_drop (posS l x) l
    rw [← this] at h
    rcases List.mem_append.1 h with h | h
    · simp [h]
    · simp [h]

theorem sortS_all {ss : List ByteArray} {y : ByteArray} : y ∈ sortS ss ↔ y ∈ ss := by
  refine ⟨sortS_mem, fun h => ?_⟩
  have go : ∀ (ss acc : List ByteArray), (y ∈ acc ∨ y ∈ ss) → y ∈ ss.foldl insS acc := by
    intro ss
    induction ss with
    | nil => intro acc h; simpa using h
    | cons x xs ih =>
      intro acc h
      refine ih _ ?_
      rcases h with h | h
      · exact .inl (insS_old h)
      · rcases List.mem_cons.1 h with rfl | h
        · exact .inl (insS_self _ _)
        · exact .inr h
  exact go ss [] (.inr h)

theorem rootsL_mem {ps : List Pd} {ls : List Ld} {x : ByteArray} : x ∈ rootsL ps ls ↔ x ∈ rootS ps ls := by
  unfold rootsL rootS
  rw [mem_fold, mem_fold, List.mem_append]
  simp

theorem rootsL_len {ps : List Pd} {ls : List Ld} (hp : ps.length ≤ 100) (hl : ls.length ≤ 200) : (rootsL ps ls).length ≤ 300 := by
  unfold rootsL
  have h1 := fold_length (ls.map (·.sum)) ((ps.map (·.sum)).foldl addS [])
  have h2 := fold_length (ps.map (·.sum)) []
  simp at h1 h2
  omega

/-- What spec.Live gives of a valid state. -/
structure LiveAt (ks : List Kd) (fr : List ByteArray) (w : World) (e : Ending) (w' : World) : Prop where
  ex : ∃ g c R, e = .returned (.slice (some ⟨g, 0, none⟩) (sortS R).length c) ∧ w'.ownsRow w.heap.size 9 1 (.slice (some ⟨g, 0, none⟩) (sortS R).length c) (sortS R).length ((sortS R).map Value.string) ∧ (∀ s, s ∈ R ↔ Reach ks fr s) ∧ R.Nodup ∧ R.length ≤ 20000 ∧ Below w.heap.size w w'

set_option maxRecDepth 20000 in
set_option maxHeartbeats 8000000 in
theorem sLive_yes (wd now given births : Int) (a p l : Option Addr) (ac pc lc : Nat) (ks : List Kd) (ps : List Pd) (ls : List Ld) (w : World) (hrow : SRows w w.heap.size a p l ks ps ls) (hk : KMem ks) (hp : PMem ps) (hf : SFit ks ps ls) (hP : StateOk wd now given births ks ps ls) :
    Calls Try.prog 67 #[.agg #[.int .i64 wd, .int .i64 now, .int .i64 given, .int .i64 births, .slice a ks.length ac, .slice p ps.length pc, .slice l ls.length lc]] w fun e w' => LiveAt ks (rootS ps ls) w e w' := by
  obtain ⟨W1, hW1⟩ : ∃ W1, W1 = w.alloc (.cells #[.int .i64 wd, .int .i64 now, .int .i64 given, .int .i64 births, .slice a ks.length ac, .slice p ps.length pc, .slice l ls.length lc] 33) := ⟨_, rfl⟩
  have b1 : Below w.heap.size w W1 := by rw [hW1]; exact (Below.refl _ _).alloc (Nat.le_refl _) _
  have z1 : W1.heap.size = w.heap.size + 1 := by rw [hW1]; simp
  have X1 : SBox W1 w.heap.size wd now given births (.slice a ks.length ac) (.slice p ps.length pc) (.slice l ls.length lc) := by rw [hW1]; exact SBox.new w wd now given births _ _ _ 33
  have HW1 : Hid _ := hW1
  have HR : Hid _ := hrow
  have HM : Hid _ := And.intro hk (And.intro hp hf)
  have HX : Hid (SBox W1 w.heap.size wd now given births (.slice a ks.length ac) (.slice p ps.length pc) (.slice l ls.length lc)) := X1
  have HO : Hid _ := walkOk_of hP
  have HP : Hid _ := hP
  have hnk := hP.nth
  have hnp := hP.np
  have hnl := hP.nl
  obtain ⟨x0, x1, x2, x3, x4, x5, x6, x7⟩ := X1
  clear hW1 hrow hk hp hf hP
  go_enter Try.func67, Try.ntmps67
  go_upto_region 1 with fail
  rw [← HW1.out]
  clear HW1
  go_wp2_with fail
  refine (sValidState_any wd now given births a p l ac pc lc ks ps ls W1 (SRows.below' HR.out b1) HM.out.1 HM.out.2.1 HM.out.2.2).mono ?_
  rintro e w2 ⟨b2, rfl, hs2, hb2⟩
  have hb2t : b2 = true := hs2.2 HP.out
  subst hb2t
  have z2 := hb2.size
  have B2 : Below w.heap.size w w2 := b1.trans (hb2.mono b1.size)
  have HX2 : Hid (SBox w2 w.heap.size wd now given births (.slice a ks.length ac) (.slice p ps.length pc) (.slice l ls.length lc)) := SBox.keep HX.out hb2 (by omega)
  have kD : Below w2.heap.size w2 w2.drew := (Below.refl _ _).drew
  have hS0 := sb7 (SBox.keep HX2.out kD (by omega))
  have hrl := rootsL_len hnp hnl
  clear hs2 hb2 x0 x1 x2 x3 x4 x5 x6 x7
  go_upto_region 3 with fail
  go_region_held3 (fun w' => w'.cell? ⟨w.heap.size, 0, none⟩ = some (.int .i64 wd) ∧ w'.cell? ⟨w.heap.size, 1, none⟩ = some (.int .i64 now) ∧ w'.cell? ⟨w.heap.size, 2, none⟩ = some (.int .i64 given) ∧ w'.cell? ⟨w.heap.size, 3, none⟩ = some (.int .i64 births) ∧ w'.cell? ⟨w.heap.size, 4, none⟩ = some (.slice a ks.length ac) ∧ w'.cell? ⟨w.heap.size, 5, none⟩ = some (.slice p ps.length pc) ∧ w'.cell? ⟨w.heap.size, 6, none⟩ = some (.slice l ls.length lc))
    (first | exact hS0 | exact hS3 | exact hS4 | exact hS5)
    (first
      | (go_at_call 102; refine (sRoots_any wd now given births _ p l pc lc ps ls w2.drew (SRows.below' HR.out B2.drew).p (SRows.below' HR.out B2.drew).l hnp hnl).mono ?_; rintro e w3 ⟨g3, c3, rfl, ho3, hb3⟩; have k3 : Below w2.heap.size w2 w3 := kD.trans (hb3.mono (Nat.le_refl _)); have hS3 := sb7 (SBox.keep HX2.out k3 (by omega)); have B3 : Below w.heap.size w w3 := B2.trans (k3.mono B2.size))
      | (go_at_call 73; refine (sBelow_any wd now given births a ac _ _ ks _ c3 (rootsL ps ls) w3 (SRows.below' HR.out B3).k (SRow.own ho3) hnk hrl HO.out.r30 HO.out.uniq).mono ?_; rintro e w4 ⟨g4, c4, R, rfl, ho4, hB4, hb4⟩; have k4 : Below w2.heap.size w2 w4 := k3.trans (hb4.mono k3.size); have hS4 := sb7 (SBox.keep HX2.out k4 (by omega)); have hRl : R.length ≤ 20000 := (by have h1 := nodup_le hB4.nd hB4.pool; have h2 := pool_length (ks := ks) (from' := rootsL ps ls) HO.out.r30; omega); have B4 : Below w.heap.size w w4 := B2.trans (k4.mono B2.size))
      | (go_at_call 101; refine (sorted_any _ c4 R w4 (SRow.own ho4) (by omega)).mono ?_; rintro e w5 ⟨g5, c5, rfl, ho5, hb5⟩; have k5 : Below w2.heap.size w2 w5 := k4.trans (hb5.mono k4.size); have hS5 := sb7 (SBox.keep HX2.out k5 (by omega)); have HF : Hid (LiveAt ks (rootS ps ls) w (.returned (.slice (some ⟨g5, 0, none⟩) (sortS R).length c5)) w5) := ⟨g5, c5, R, rfl, ho5.mono B4.size, (fun s => hB4.reach.trans (reach_same (fun x => rootsL_mem))), hB4.nd, hRl, B2.trans (k5.mono B2.size)⟩))
  all_goals
    clear hS3 hS4 hS5 ho3 ho4 ho5 hB4 hb3 hb4 hb5 k3 k4 k5 B3 B4
    go_wp2
    go_ret
    exact HF.out

end Go.Proofs.Ytbelneejghdmoaa
