/-
  slices.AppendSeq, slices.Collect over an iterator of strings that is a method value.
-/
import Derived.Test.YtdecihmplkgfkaaLogV
import Derived.Maps.AppendAt
import Derived.Lib.OwnKind
namespace Go.Proofs.Ytdecihmplkgfkaa
open Go.ChangeShapes Go.WideShapes Go.ChangeAt Go.RowKit

attribute [local go_sem] Oper.semAt_some

theorem IterOk.below {P : Program} {gf : Nat} {ar : Nat → Array Value} {xs : List ByteArray} {n0 : Nat} {w w1 : World} (h : IterOk P gf ar xs n0 w) (hb : Below w.heap.size w w1) : IterOk P gf ar xs n0 w1 :=
  fun l J Jx W hW => h l J Jx W (hb.trans (hW.mono hb.size))

/-- A row of strings of the call's own abides what is no row of strings. -/
theorem stable_row (B base bx : Nat) (t : TypeId) (k : Nat → Nat) (f : Nat → List Value) (hbx : bx < B) : Stable B (fun n W => ∃ v, Boxed W bx t v ∧ W.ownsRow base 9 1 v (k n) (f n)) := by
  rintro n W W' row ⟨v, hv, hr⟩ hg hrow
  refine ⟨v, hv.kept hg (fun e => by have := (hrow bx e.symm).1; omega), hr.kept hg ?_⟩
  cases hb : v.ownBlock with
  | none => exact .inl rfl
  | some r =>
    refine .inr fun e => ?_
    obtain ⟨c, fz, hc⟩ := Lib.ownsRow_kind hr r hb
    obtain ⟨_, o, ho, hn⟩ := hrow r e.symm
    rw [hc] at ho
    cases ho
    simp [notRow] at hn

set_option maxRecDepth 100000 in
set_option maxHeartbeats 2000000 in
theorem appendSeq_any (gf : Nat) (recv : Value) (eg : ∀ args w, (callFunc gf args).run Try.prog w = .ok (.enter gf args) w) (xs : List ByteArray) (n0 : Nat) (w : World)
    (hseq : IterOk Try.prog gf (fun l => #[recv, .func (.yield l) #[] #[]]) xs n0 w) (hn0 : n0 ≤ w.heap.size) (hl : xs.length ≤ 2097152) :
    Calls Try.prog 135 #[.slice none 0 0, .func (.func gf) #[recv] #[]] w fun e w' => ∃ v, e = .returned v ∧ w'.ownsRow w.heap.size 9 1 v xs.length (xs.map Value.string) ∧ Below w.heap.size w w' := by
  obtain ⟨i0, hi, hz0, hz1, hz2⟩ := info_parts Try.infoStr
  refine (callsIn_wide (n := 3)).1 ?_
  refine callsIn_of_wp_marks Try.func135 rfl trivial ?_ rfl
  simp only [Try.ntmps135, List.size_toArray, List.length_cons, List.length_nil, Nat.reduceAdd, Nat.reduceSub, Array.replicate_succ, Array.replicate_zero, List.push_toArray, List.append_toArray, List.nil_append, List.cons_append]
  gi_wp2_with fail
  have bO := Boxed.new w 24 (.slice none 0 0)
  have hB0 : Below w.heap.size w (w.alloc (.cells #[.slice none 0 0] 24)) := (Below.refl _ w).alloc (Nat.le_refl _) _
  refine wp_range (gf := gf) (pre := #[recv]) (lb := #[]) rfl eg (xs := xs) (n0 := n0) (by simpa using hseq.below hB0) (by simp; omega) rfl
    (fun k V => (∃ v, Boxed V w.heap.size 24 v ∧ V.ownsRow w.heap.size 9 1 v (xs.take k).length ((xs.take k).map Value.string)) ∧ Below w.heap.size w V)
    (fun _ _ => False)
    ((stable_row _ _ _ _ (fun k => (xs.take k).length) (fun k => (xs.take k).map Value.string) (by simp)).and (stable_below w (Nat.le_refl _) (by simp)))
    (fun _ _ _ _ h _ _ => h)
    ⟨⟨_, bO, World.ownsRow_nil _ _ _ _⟩, hB0⟩ (fun s => { tmps := #[.slice none 0 0, .func (.func gf) #[recv] #[], .pointer (some ⟨w.heap.size, 0, none⟩), undef, .slice none 0 0, .string s, .func (.func gf) #[recv] #[], .string s, undef, undef, undef, undef, undef], defers := [] }) ?assign ?body ?done ?stop
  case assign =>
    intro l2 m2 s V K hK
    gi_wp2
    exact hK
  case body =>
    rintro l2 m2 k s W hsk ⟨⟨v, hv, hrow⟩, hB⟩ hsz
    have hc := hv.cell
    have hkl : (xs.take k).length = k := by have := (List.getElem?_eq_some_iff.1 hsk).1; simp; omega
    have hkx : k < xs.length := (List.getElem?_eq_some_iff.1 hsk).1
    have htk : (xs.take (k + 1)) = xs.take k ++ [s] := by
      obtain ⟨hlt, rfl⟩ := List.getElem?_eq_some_iff.1 hsk
      exact List.take_succ_eq_append_getElem hlt
    gi_wp2_with (gi_at_builtin; refine wpListIn_append_own _ rfl _ _ 24 rfl w.heap.size 9 i0 (.string ⟨#[]⟩) 1 16 Try.underlying24 hi hz0 hz1 hz2 rfl (by decide) _ _ _ rfl (hrow.alloc _) ⟨W.heap.size, 0, none⟩ 1 1 [.string s] rfl rfl (cell_one_new _ _ _) (by simp [Value.oneCell']) (by unfold maxLen; omega) (by omega) (by have := hB.size; simp; omega) ?_; intro v' w1 hown' hgrow _; obtain ⟨g', cap', rfl⟩ := ownsRow_succ hown'; obtain ⟨hv1, hv2, hr2, hk2, hb2⟩ := hv.appended (by decide) hrow hB.size (Nat.le_refl _) hown' hgrow; have hc1 := hv1.cell; have hf1 := hv1.frozen)
    rw [hkl] at hv2 hr2 hb2
    refine ⟨⟨Nat.le_trans (Nat.le_trans (by simp) hgrow.size) (by simp), fun q o hq ho hn => ?_⟩, ⟨⟨_, hv2, ?_⟩, hB.trans hb2⟩, hb2.mono hn0⟩
    · simp at hq
      have hql : q < W.heap.size := (Array.getElem?_eq_some_iff.1 ho).1
      refine ((grownBy_setCell' w1 w.heap.size _).block q (Nat.lt_of_lt_of_le hql (Nat.le_trans (by simp) hgrow.size)) (fun e => by cases e; omega)).trans ?_
      refine (hgrow.block q (by simp; omega) (fun e => ?_)).trans ((Below.heap_alloc W _ q hql).trans ho)
      obtain ⟨c, fz, hc⟩ := Lib.ownsRow_kind hrow q e.symm
      rw [hc] at ho
      cases ho
      simp [notRow] at hn
    · rw [htk]
      simpa [hkl] using hr2
  case done =>
    rintro D W hD ⟨⟨v, hv, hrow⟩, hB⟩ hK
    have hc := hv.cell
    gi_wp2
    refine ⟨by simp, .inl ⟨_, _, rfl, run_takeDeferred hK, ?_⟩⟩
    rw [List.take_of_length_le (Nat.le_refl _)] at hrow
    exact ⟨_, results_tmp rfl _ _ _, v, rfl, ownsRow_putObj hrow _ hK rfl, hB.trans ⟨rfl, rfl, rfl, by simp, fun i hi => World.putObj_heap_other (by simp at hD; omega)⟩⟩
  case stop =>
    rintro D k W _ h _
    exact h.elim

end Go.Proofs.Ytdecihmplkgfkaa
