/-
  impl.Append.
-/
import Derived.Test.YtdecihmplkgfkaaLogD
import Derived.Test.YtdecihmplkgfkaaLogM
import Derived.Deep.RegionHeld3
import Derived.Deep.DrawnRows
namespace Go.Proofs.Ytdecihmplkgfkaa
open Go.ChangeShapes Go.WideShapes Go.ChangeAt Go.RowKit
attribute [local go_sem ↓] Go.wp_at_zero Go.wp_at_succ

/-- The code of an append. -/
def apCode (ss tt : List ByteArray) (e : ByteArray) : Int := if okLog ss tt = true ∧ e.size ≤ 5000 then (if ss.length + tt.length = 4000 then 2 else 0) else 1

theorem apPair {w w' : World} {b B : Nat} {u v : Value} (h : w.cell? ⟨b, 0, none⟩ = some u ∧ w.cell? ⟨b, 1, none⟩ = some v) (hb : Below B w w') (hB : b < B) : w'.cell? ⟨b, 0, none⟩ = some u ∧ w'.cell? ⟨b, 1, none⟩ = some v :=
  ⟨(hb.cell (p := ⟨b, 0, none⟩) hB).trans h.1, (hb.cell (p := ⟨b, 1, none⟩) hB).trans h.2⟩

set_option maxRecDepth 20000 in
set_option maxHeartbeats 8000000 in
theorem iAppend_go (a b : Option Addr) (c d : Nat) (ss tt : List ByteArray) (en : ByteArray) (w : World) (hr : SRow w w.heap.size a ss) (hq : SRow w w.heap.size b tt) (hl : ss.length ≤ 1048576) (hl' : tt.length ≤ 1048576)
    (hs : ∀ s ∈ ss, s.size ≤ 1048576) (hs' : ∀ s ∈ tt, s.size ≤ 1048576) (hok : okLog ss tt = true) (he : en.size ≤ 5000) (hn : ¬ ss.length + tt.length = 4000) :
    Calls Try.prog 40 #[.agg #[.slice a ss.length c, .slice b tt.length d], .string en] w fun e w' => ∃ v u, e = .returned (.tuple #[.agg #[v, u], .int .i64 0]) ∧
      w'.ownsRow w.heap.size 9 1 v ss.length (ss.map Value.string) ∧ w'.ownsRow w.heap.size 9 1 u (tt ++ [en]).length ((tt ++ [en]).map Value.string) ∧ (v.ownBlock = none ∨ v.ownBlock ≠ u.ownBlock) ∧ Below w.heap.size w w' := by
  obtain ⟨i0, hi, hz0, hz1, hz2⟩ := info_parts Try.infoStr
  have hbA : Below w.heap.size w ((w.alloc (.cells #[.slice a ss.length c, .slice b tt.length d] 40)).alloc (.cells #[.slice none 0 0, .slice none 0 0] 40)) := ((Below.refl _ _).alloc (Nat.le_refl _) _).alloc (by simp) _
  have he' : decide ((5000 : Int) < (en.size : Int)) = false := by simp; omega
  go_enter Try.func40, Try.ntmps40
  go_wp2_with fail
  refine (iValidLog_any a b c d ss tt _ (hr.below' hbA) (hq.below' hbA) hl hl' hs hs').mono ?_
  rintro e w1 ⟨rfl, hb1⟩
  have hB1 := hbA.trans (hb1.mono (by simp; omega))
  have hz1' := hb1.size
  simp at hz1'
  have c0 : w1.cell? ⟨w.heap.size, 0, none⟩ = some (.slice a ss.length c) := by rw [hb1.cell (p := ⟨w.heap.size, 0, none⟩) (by simp; omega)]; simp [go_sem]
  have c1 : w1.cell? ⟨w.heap.size, 1, none⟩ = some (.slice b tt.length d) := by rw [hb1.cell (p := ⟨w.heap.size, 1, none⟩) (by simp; omega)]; simp [go_sem]
  have r0 : w1.cell? ⟨w.heap.size + 1, 0, none⟩ = some (.slice none 0 0) := by rw [hb1.cell (p := ⟨w.heap.size + 1, 0, none⟩) (by simp)]; simp [go_sem]
  have r1 : w1.cell? ⟨w.heap.size + 1, 1, none⟩ = some (.slice none 0 0) := by rw [hb1.cell (p := ⟨w.heap.size + 1, 1, none⟩) (by simp)]; simp [go_sem]
  have f0 : ∀ o, w1.frozen? ⟨w.heap.size + 1, o, none⟩ = false := fun o => by rw [hb1.frozen (p := ⟨w.heap.size + 1, o, none⟩) (by simp)]; simp [go_sem]
  have HR : Hid _ := And.intro r0 (And.intro r1 f0)
  have HSR : Hid _ := And.intro hr hq
  clear hb1 r0 r1 f0 hr hq hs hs'
  rw [hok]
  go_wp2_with fail
  refine (diskOf_any a b ss.length tt.length c d _).mono ?_
  rintro e w2 ⟨rfl, hb2⟩
  have hB2 := hB1.trans (hb2.mono hB1.size)
  have HR2 : Hid (w2.cell? ⟨w.heap.size + 1, 0, none⟩ = some (.slice none 0 0) ∧ w2.cell? ⟨w.heap.size + 1, 1, none⟩ = some (.slice none 0 0) ∧ ∀ o, w2.frozen? ⟨w.heap.size + 1, o, none⟩ = false) := ⟨(hb2.cell (p := ⟨w.heap.size + 1, 0, none⟩) (by simp; omega)).trans HR.out.1, (hb2.cell (p := ⟨w.heap.size + 1, 1, none⟩) (by simp; omega)).trans HR.out.2.1, fun o => (hb2.frozen (p := ⟨w.heap.size + 1, o, none⟩) (by simp; omega)).trans (HR.out.2.2 o)⟩
  have hz2' := hb2.size
  clear hb2 HR c0 c1
  go_wp2_with fail
  refine (count_any a b ss.length tt.length c d _ hl hl').mono ?_
  rintro e w3 ⟨rfl, hb3⟩
  have hB3 : Below w.heap.size w w3 := (hB2.alloc hB2.size _).trans (hb3.mono (by simp; omega))
  have hz3 := hb3.size
  simp at hz3
  have d0 : w3.cell? ⟨w2.heap.size, 0, none⟩ = some (.slice a ss.length c) ∧ w3.cell? ⟨w2.heap.size, 1, none⟩ = some (.slice b tt.length d) := apPair (B := w2.heap.size + 1) ⟨by simp, by simp⟩ (hb3.mono (by simp)) (by omega)
  have hbb : Below w2.heap.size w2 w3 := ((Below.refl _ _).alloc (Nat.le_refl _) _).trans (hb3.mono (by simp))
  have q0 := (hbb.cell (p := ⟨w.heap.size + 1, 0, none⟩) (by simp; omega)).trans HR2.out.1
  have q1 := (hbb.cell (p := ⟨w.heap.size + 1, 1, none⟩) (by simp; omega)).trans HR2.out.2.1
  have qf : ∀ o, w3.frozen? ⟨w.heap.size + 1, o, none⟩ = false := fun o => (hbb.frozen (p := ⟨w.heap.size + 1, o, none⟩) (by simp; omega)).trans (HR2.out.2.2 o)
  have hne : ((ss.length : Int) + tt.length == 4000) = false := by simp; omega
  have hDN : w2.heap.size < w3.heap.size := by omega
  have hRN : w.heap.size + 1 < w3.heap.size := by omega
  have hDW : w.heap.size + 1 < w2.heap.size := by omega
  generalize w2.heap.size = D at *
  have hK : ∀ W, Below w3.heap.size w3 W → Calls Try.prog 85 #[.func (.func 87) #[.agg #[.slice a ss.length c]] #[]] W fun e w' => ∃ v, e = .returned v ∧ w'.ownsRow W.heap.size 9 1 v ss.length (ss.map Value.string) ∧ Below W.heap.size W w' := fun W hB => by
    have hBW := hB3.trans (hB.mono hB3.size)
    exact collect_any 87 _ (enters_of Try.func87 (by kernel_rfl) rfl) ss w.heap.size _ (kept_iter a c ss w.heap.size W (HSR.out.1.below hBW) hBW.size (by unfold maxLen; omega)) hBW.size (by omega)
  have hO : ∀ W, Below w3.heap.size w3 W → Calls Try.prog 85 #[.func (.func 88) #[.agg #[.slice a ss.length c, .slice b tt.length d]] #[]] W fun e w' => ∃ v, e = .returned v ∧ w'.ownsRow W.heap.size 9 1 v tt.length (tt.map Value.string) ∧ Below W.heap.size W w' := fun W hB => by
    have hBW := hB3.trans (hB.mono hB3.size)
    exact collect_any 88 _ (enters_of Try.func88 (by kernel_rfl) rfl) tt w.heap.size _ (open_iter _ b d tt w.heap.size W (HSR.out.2.below hBW) hBW.size (by unfold maxLen; omega)) hBW.size (by omega)
  have HK : Hid _ := hK
  have HO : Hid _ := hO
  have HB3 : Hid _ := hB3
  clear hK hO hB3 hb3 hbb HR2 HSR hB2 hB1 hbA hz1' hz2' hz3
  have hD0 : Below w3.heap.size w3 w3.drew := (Below.refl _ _).drew
  have hD1 : ∀ o, Below w3.heap.size w3 (w3.alloc o).drew := fun o => ((Below.refl _ _).alloc (Nat.le_refl _) _).drew
  go_wp2
  go_region_held3 (fun w' => w'.cell? ⟨D, 0, none⟩ = some (.slice a ss.length c) ∧ w'.cell? ⟨D, 1, none⟩ = some (.slice b tt.length d))
    (first | exact hP31 | exact ⟨by rw [World.cell?_setCell_other _ _ _ _ (by simp <;> omega), World.cell?_setCell_other _ _ _ _ (by simp <;> omega)]; exact hP31.1, by rw [World.cell?_setCell_other _ _ _ _ (by simp <;> omega), World.cell?_setCell_other _ _ _ _ (by simp <;> omega)]; exact hP31.2⟩ | exact P28 | exact apPair P28 ((Below.refl _ _).alloc (Nat.le_refl _) _) hD28 | exact P25 | exact apPair P25 ((Below.refl _ _).alloc (Nat.le_refl _) _) hD25 | exact d0 | exact apPair d0 (hD1 _) hDN | go_keep)
    (first
      | (go_at_call 85; guard_target =~ Calls Try.prog 85 #[Value.func (Fn.func 87) #[Value.agg #[Value.slice a ss.length c]] #[]] (World.drew w3) _; refine (HK.out w3.drew hD0).mono ?_; rintro e w25 ⟨v25, rfl, ho25, hb25⟩; obtain ⟨av, cv, rfl, _⟩ := own_slice ho25; have hB25 : Below w3.heap.size w3 w25 := hD0.trans (hb25.mono (by first | omega | simp)); have P25 := apPair d0 hB25 hDN; have hz25 := hB25.size; have hD25 : D < w25.heap.size := Nat.lt_of_lt_of_le hDN hz25; have ho25 : w25.ownsRow w3.heap.size 9 1 (.slice av ss.length cv) ss.length (ss.map Value.string) := ho25.mono (by first | omega | simp))
      | (go_at_call 85; guard_target =~ Calls Try.prog 85 #[Value.func (Fn.func 87) #[Value.agg #[Value.slice a ss.length c]] #[]] (World.drew (World.alloc w3 _)) _; refine (HK.out (w3.alloc _).drew (hD1 _)).mono ?_; rintro e w25 ⟨v25, rfl, ho25, hb25⟩; obtain ⟨av, cv, rfl, _⟩ := own_slice ho25; have hB25 : Below w3.heap.size w3 w25 := (hD1 _).trans (hb25.mono (by first | omega | simp)); have P25 := apPair d0 hB25 hDN; have hz25 := hB25.size; have hD25 : D < w25.heap.size := Nat.lt_of_lt_of_le hDN hz25; have ho25 : w25.ownsRow w3.heap.size 9 1 (.slice av ss.length cv) ss.length (ss.map Value.string) := ho25.mono (by first | omega | simp); have hz25s : w3.heap.size < w25.heap.size := (by have := hb25.size; simp at this; omega); have n25 : w25.cell? ⟨w3.heap.size, 0, none⟩ = some (.string en) := (by rw [hb25.cell (p := ⟨w3.heap.size, 0, none⟩) (by simp)]; simp [go_sem]))
      | (go_at_call 85; have hnn := n25; guard_target =~ Calls Try.prog 85 #[Value.func (Fn.func 88) #[Value.agg #[Value.slice a ss.length c, Value.slice b tt.length d]] #[]] w25 _; refine (HO.out w25 hB25).mono ?_; rintro e w28 ⟨u28, rfl, ho28, hb28⟩; obtain ⟨au, cu, rfl, _⟩ := own_slice ho28; have hB28 : Below w3.heap.size w3 w28 := hB25.trans (hb28.mono (by first | omega | (simp; omega))); have P28 := apPair d0 hB28 hDN; have hz28 : w25.heap.size ≤ w28.heap.size := (by have := hb28.size; first | omega | (simp at this; omega)); have hD28 : D < w28.heap.size := Nat.lt_of_lt_of_le hD25 hz28; have ho28 : w28.ownsRow w25.heap.size 9 1 (.slice au tt.length cu) tt.length (tt.map Value.string) := ho28.mono (by first | omega | simp); have hv28 := own_keep ho25 hb28; have n28 := (hb28.cell (p := ⟨w3.heap.size, 0, none⟩) (by simp; omega)).trans n25)
      | (go_at_call 85; guard_target =~ Calls Try.prog 85 #[Value.func (Fn.func 88) #[Value.agg #[Value.slice a ss.length c, Value.slice b tt.length d]] #[]] w25 _; refine (HO.out w25 hB25).mono ?_; rintro e w28 ⟨u28, rfl, ho28, hb28⟩; obtain ⟨au, cu, rfl, _⟩ := own_slice ho28; have hB28 : Below w3.heap.size w3 w28 := hB25.trans (hb28.mono (by first | omega | (simp; omega))); have P28 := apPair d0 hB28 hDN; have hz28 : w25.heap.size ≤ w28.heap.size := (by have := hb28.size; first | omega | (simp at this; omega)); have hD28 : D < w28.heap.size := Nat.lt_of_lt_of_le hD25 hz28; have ho28 : w28.ownsRow w25.heap.size 9 1 (.slice au tt.length cu) tt.length (tt.map Value.string) := ho28.mono (by first | omega | simp); have hv28 := own_keep ho25 hb28)
      | (go_at_call 85; guard_target =~ Calls Try.prog 85 #[Value.func (Fn.func 88) #[Value.agg #[Value.slice a ss.length c, Value.slice b tt.length d]] #[]] (World.alloc w25 _) _; refine (HO.out (w25.alloc _) (hB25.alloc hz25 _)).mono ?_; rintro e w28 ⟨u28, rfl, ho28, hb28⟩; obtain ⟨au, cu, rfl, _⟩ := own_slice ho28; have hB28 : Below w3.heap.size w3 w28 := (hB25.alloc hz25 _).trans (hb28.mono (by first | omega | (simp; omega))); have P28 := apPair d0 hB28 hDN; have hz28 : w25.heap.size ≤ w28.heap.size := (by have := hb28.size; first | omega | (simp at this; omega)); have hD28 : D < w28.heap.size := Nat.lt_of_lt_of_le hD25 hz28; have ho28 : w28.ownsRow w25.heap.size 9 1 (.slice au tt.length cu) tt.length (tt.map Value.string) := ho28.mono (by first | omega | simp); have hv28 := own_keep (own_keep ho25 ((Below.refl w25.heap.size w25).alloc (Nat.le_refl _) (.cells #[.string en] 9))) hb28; have m28 : w28.cell? ⟨w25.heap.size, 0, none⟩ = some (.string en) := (by rw [hb28.cell (p := ⟨w25.heap.size, 0, none⟩) (by simp)]; simp [go_sem]))
      | (have hnn := n28; refine step_append_lies w28 (by rfl) (.tmp 28) (.tmp 30) 24 (by rfl) w25.heap.size 9 i0 (.string ⟨#[]⟩) 1 16 Try.underlying24 hi hz0 hz1 hz2 rfl (by decide) (.slice au tt.length cu) tt.length (tt.map Value.string) (by rfl) ho28 ⟨w3.heap.size, 0, none⟩ 1 1 [.string en] (by rfl) rfl (fun j u hj => by cases j with | zero => (simp at hj; subst hj; simpa [Go.WideShapes.add_plain] using n28) | succ j => simp at hj) (fun u hu => by simp at hu; subst hu; rfl) (by omega) (by unfold maxLen; omega) (by omega) hz28 _ rfl ?_; intro g31 cap31 w31 ho31 hg31 hat31 hlt31; have hP31 : w31.cell? ⟨D, 0, none⟩ = some (.slice a ss.length c) ∧ w31.cell? ⟨D, 1, none⟩ = some (.slice b tt.length d) := ⟨hg31.cell P28.1 (fun e => by have := (ho28.lt D e.symm).1; omega), hg31.cell P28.2 (fun e => by have := (ho28.lt D e.symm).1; omega)⟩; have hap := own_apart (v := .slice av ss.length cv) ho28 (fun g hg => (ho25.lt g hg).2); have hv31 := hv28.kept hg31 hap; have hz31 := hg31.size; have RB := hB28; have y0 := hg31.cell ((RB.cell (p := ⟨w.heap.size + 1, 0, none⟩) hRN).trans q0) (fun e => by have := (ho28.lt (w.heap.size + 1) e.symm).1; omega); have y1 := hg31.cell ((RB.cell (p := ⟨w.heap.size + 1, 1, none⟩) hRN).trans q1) (fun e => by have := (ho28.lt (w.heap.size + 1) e.symm).1; omega); have yf : ∀ o, w31.frozen? ⟨w.heap.size + 1, o, none⟩ = false := (fun o => (hg31.frozen_far ⟨w.heap.size + 1, o, none⟩ (by simp; omega) (fun e => by have := (ho28.lt (w.heap.size + 1) e.symm).1; omega)).trans ((RB.frozen (p := ⟨w.heap.size + 1, o, none⟩) hRN).trans (qf o))))
      | (have hnn := m28; refine step_append_lies w28 (by rfl) (.tmp 28) (.tmp 30) 24 (by rfl) w25.heap.size 9 i0 (.string ⟨#[]⟩) 1 16 Try.underlying24 hi hz0 hz1 hz2 rfl (by decide) (.slice au tt.length cu) tt.length (tt.map Value.string) (by rfl) ho28 ⟨w25.heap.size, 0, none⟩ 1 1 [.string en] (by rfl) rfl (fun j u hj => by cases j with | zero => (simp at hj; subst hj; simpa [Go.WideShapes.add_plain] using m28) | succ j => simp at hj) (fun u hu => by simp at hu; subst hu; rfl) (by omega) (by unfold maxLen; omega) (by omega) hz28 _ rfl ?_; intro g31 cap31 w31 ho31 hg31 hat31 hlt31; have hP31 : w31.cell? ⟨D, 0, none⟩ = some (.slice a ss.length c) ∧ w31.cell? ⟨D, 1, none⟩ = some (.slice b tt.length d) := ⟨hg31.cell P28.1 (fun e => by have := (ho28.lt D e.symm).1; omega), hg31.cell P28.2 (fun e => by have := (ho28.lt D e.symm).1; omega)⟩; have hap := own_apart (v := .slice av ss.length cv) ho28 (fun g hg => (ho25.lt g hg).2); have hv31 := hv28.kept hg31 hap; have hz31 := hg31.size; have RB := hB28; have y0 := hg31.cell ((RB.cell (p := ⟨w.heap.size + 1, 0, none⟩) hRN).trans q0) (fun e => by have := (ho28.lt (w.heap.size + 1) e.symm).1; omega); have y1 := hg31.cell ((RB.cell (p := ⟨w.heap.size + 1, 1, none⟩) hRN).trans q1) (fun e => by have := (ho28.lt (w.heap.size + 1) e.symm).1; omega); have yf : ∀ o, w31.frozen? ⟨w.heap.size + 1, o, none⟩ = false := (fun o => (hg31.frozen_far ⟨w.heap.size + 1, o, none⟩ (by simp; omega) (fun e => by have := (ho28.lt (w.heap.size + 1) e.symm).1; omega)).trans ((RB.frozen (p := ⟨w.heap.size + 1, o, none⟩) hRN).trans (qf o))))
      | (refine step_append_lies (w28.alloc (.cells #[.string en] 9)) (by rfl) (.tmp 28) (.tmp 30) 24 (by rfl) w25.heap.size 9 i0 (.string ⟨#[]⟩) 1 16 Try.underlying24 hi hz0 hz1 hz2 rfl (by decide) (.slice au tt.length cu) tt.length (tt.map Value.string) (by rfl) (ho28.alloc _) ⟨w28.heap.size, 0, none⟩ 1 1 [.string en] (by rfl) rfl (fun j u hj => by cases j with | zero => (simp at hj; subst hj; simp [Go.WideShapes.add_plain]) | succ j => simp at hj) (fun u hu => by simp at hu; subst hu; rfl) (by omega) (by unfold maxLen; omega) (by omega) (by simp; omega) _ rfl ?_; intro g31 cap31 w31 ho31 hg31 hat31 hlt31; have hP31 : w31.cell? ⟨D, 0, none⟩ = some (.slice a ss.length c) ∧ w31.cell? ⟨D, 1, none⟩ = some (.slice b tt.length d) := ⟨hg31.cell (apPair P28 ((Below.refl _ _).alloc (Nat.le_refl _) _) hD28).1 (fun e => by have := (ho28.lt D e.symm).1; omega), hg31.cell (apPair P28 ((Below.refl _ _).alloc (Nat.le_refl _) _) hD28).2 (fun e => by have := (ho28.lt D e.symm).1; omega)⟩; have hap := own_apart (v := .slice av ss.length cv) ho28 (fun g hg => (ho25.lt g hg).2); have hv31 := (hv28.alloc _).kept hg31 hap; have hz31 := hg31.size; have RB := (hB28.alloc (by omega) (.cells #[.string en] 9)); have y0 := hg31.cell ((RB.cell (p := ⟨w.heap.size + 1, 0, none⟩) hRN).trans q0) (fun e => by have := (ho28.lt (w.heap.size + 1) e.symm).1; omega); have y1 := hg31.cell ((RB.cell (p := ⟨w.heap.size + 1, 1, none⟩) hRN).trans q1) (fun e => by have := (ho28.lt (w.heap.size + 1) e.symm).1; omega); have yf : ∀ o, w31.frozen? ⟨w.heap.size + 1, o, none⟩ = false := (fun o => (hg31.frozen_far ⟨w.heap.size + 1, o, none⟩ (by simp; omega) (fun e => by have := (ho28.lt (w.heap.size + 1) e.symm).1; omega)).trans ((RB.frozen (p := ⟨w.heap.size + 1, o, none⟩) hRN).trans (qf o)))))
  all_goals
    have hB31 : Below w.heap.size w w31 := (HB3.out.trans (RB.mono HB3.out.size)).grown hg31 (Nat.le_trans HB3.out.size RB.size) (fun k hk => by have := (ho28.lt k hk).1; have := HB3.out.size; omega)
    have ho31' : w31.ownsRow w.heap.size 9 1 (.slice (some ⟨g31, 0, none⟩) (tt ++ [en]).length cap31) (tt ++ [en]).length ((tt ++ [en]).map Value.string) := by
      have := World.ownsRow.mono ho31 (show w.heap.size ≤ w25.heap.size by have := HB3.out.size; omega)
      simpa using this
    have hv31' := World.ownsRow.mono hv31 (show w.heap.size + 2 ≤ w3.heap.size by omega)
    have ho31s := World.ownsRow.mono ho31 (show w.heap.size + 2 ≤ w25.heap.size by omega)
    have hapG : (Value.slice av ss.length cv).ownBlock = none ∨ (Value.slice av ss.length cv).ownBlock ≠ (Value.slice (some ⟨g31, 0, none⟩) (tt ++ [en]).length cap31).ownBlock := by
      rw [show (tt ++ [en]).length = tt.length + 1 by simp]
      exact own_apart (v := .slice av ss.length cv) ho31 (fun g hg => (ho25.lt g hg).2)
    have HF : Hid (((w31.setCell ⟨w.heap.size + 1, 0, none⟩ (.slice av ss.length cv)).setCell ⟨w.heap.size + 1, 1, none⟩ (.slice (some ⟨g31, 0, none⟩) (tt.length + 1) cap31)).ownsRow w.heap.size 9 1 (.slice av ss.length cv) ss.length (ss.map Value.string) ∧
        ((w31.setCell ⟨w.heap.size + 1, 0, none⟩ (.slice av ss.length cv)).setCell ⟨w.heap.size + 1, 1, none⟩ (.slice (some ⟨g31, 0, none⟩) (tt.length + 1) cap31)).ownsRow w.heap.size 9 1 (.slice (some ⟨g31, 0, none⟩) (tt ++ [en]).length cap31) (tt ++ [en]).length ((tt ++ [en]).map Value.string) ∧
        Below w.heap.size w ((w31.setCell ⟨w.heap.size + 1, 0, none⟩ (.slice av ss.length cv)).setCell ⟨w.heap.size + 1, 1, none⟩ (.slice (some ⟨g31, 0, none⟩) (tt.length + 1) cap31))) :=
      ⟨(ownsRow_setCell_below (ownsRow_setCell_below hv31' (by simp) _) (by simp) _).mono (by omega), by
        have := (ownsRow_setCell_below (ownsRow_setCell_below ho31s (a := ⟨w.heap.size + 1, 0, none⟩) (by simp) (.slice av ss.length cv)) (a := ⟨w.heap.size + 1, 1, none⟩) (by simp) (.slice (some ⟨g31, 0, none⟩) (tt.length + 1) cap31)).mono (show w.heap.size ≤ w.heap.size + 2 by omega)
        simpa using this, (hB31.setCell (p := ⟨w.heap.size + 1, 0, none⟩) (by simp) _).setCell (p := ⟨w.heap.size + 1, 1, none⟩) (by simp) _⟩
    have HA : Hid _ := hapG
    clear ho31 hg31 hat31 hv31 ho31' hv31' ho31s hapG hB31 RB HK HO HB3 hP31 hD1
    go_wp2
    refine bodyPost_ret (v := .tuple #[.agg #[.slice av ss.length cv, .slice (some ⟨g31, 0, none⟩) (tt.length + 1) cap31], .int .i64 0]) (by simp [results, Try.results40, go_sem, y0, y1]) rfl ⟨_, .slice (some ⟨g31, 0, none⟩) (tt ++ [en]).length cap31, by simp, HF.out.1, HF.out.2.1, HA.out, HF.out.2.2⟩

end Go.Proofs.Ytdecihmplkgfkaa
