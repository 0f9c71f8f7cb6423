/-
  Ascending lists: spec.l1Sorted's and slices.Sort's are the same.
-/
import Derived.Test.YtdecihmplkgfkaaGreatStWs
import Derived.Test.YtdecihmplkgfkaaGreatStLv
import Derived.Shelf.Slices.In.SortAlone
import Derived.Shelf.Slices.In.SortNone
import Derived.Sort.EveryDepth
import Derived.Sort.OwnSorted
import Derived.Sort.Walk0
namespace Go.Proofs.YtdecihmplkgfkaaGreat
open Go.ChangeShapes Go.WideShapes Go.ChangeAt Go.RowKit
open Go.Proofs

theorem asc_eq {α : Type} {lt : α → α → Prop} (irr : ∀ a, ¬ lt a a) (tr : ∀ a b c, lt a b → lt b c → lt a c) : ∀ (l1 l2 : List α), l1.Pairwise lt → l2.Pairwise lt → (∀ x, x ∈ l1 ↔ x ∈ l2) → l1 = l2
  | [], [], _, _, _ => rfl
  | [], b :: l2, _, _, h => by have := (h b).2 (by simp); simp at this
  | a :: l1, [], _, _, h => by have := (h a).1 (by simp); simp at this
  | a :: l1, b :: l2, h1, h2, h => by
    obtain ⟨p1, q1⟩ := List.pairwise_cons.1 h1
    obtain ⟨p2, q2⟩ := List.pairwise_cons.1 h2
    have hab : a = b := by
      rcases List.mem_cons.1 ((h a).1 (by simp)) with e | ha
      · exact e
      · rcases List.mem_cons.1 ((h b).2 (by simp)) with e | hb
        · exact e.symm
        · exact absurd (tr _ _ _ (p1 b hb) (p2 a ha)) (irr a)
    subst hab
    rw [asc_eq irr tr l1 l2 q1 q2 (fun x => ⟨fun hx => ((List.mem_cons.1 ((h x).1 (List.mem_cons_of_mem _ hx))).resolve_left (fun e => irr a (e ▸ p1 x hx))), fun hx => ((List.mem_cons.1 ((h x).2 (List.mem_cons_of_mem _ hx))).resolve_left (fun e => irr a (e ▸ p2 x hx)))⟩)]

theorem toL_inj {a b : ByteArray} (h : a.toList = b.toList) : a = b := by
  rw [Lib.toList_data, Lib.toList_data] at h
  cases a; cases b
  simpa using h

theorem less_iff {a b : ByteArray} : less a b = true ↔ a.toList < b.toList := by
  unfold less
  rw [bytesLess_eq, decide_eq_true_iff]

theorem less_tot {a b : ByteArray} (h : less a b = false) (hne : a ≠ b) : less b a = true := by
  rw [less_iff]
  have h1 : ¬ a.toList < b.toList := fun e => by rw [less_iff.2 e] at h; cases h
  have h2 : b.toList ≤ a.toList := List.not_lt.1 h1
  by_cases e : b.toList < a.toList
  · exact e
  · exact absurd (toL_inj (Std.le_antisymm (List.not_lt.1 e) h2)) hne

theorem insS_nil (x : ByteArray) : insS [] x = [x] := by simp [insS, posS]

theorem insS_cons (y : ByteArray) (l : List ByteArray) (x : ByteArray) : insS (y :: l) x = if ltB y x = true then y :: insS l x else if y = x then y :: l else x :: y :: l := by
  unfold insS
  by_cases h : ltB y x = true
  · rw [if_pos h]
    have e : posS (y :: l) x = posS l x + 1 := by rw [posS, if_pos h]
    rw [e]
    by_cases h2 : l[posS l x]? = some x
    · simp [h2]
    · simp [h2]
  · rw [if_neg h]
    have e : posS (y :: l) x = 0 := by rw [posS, if_neg h]
    rw [e]
    by_cases h2 : y = x
    · simp [h2]
    · simp [h2]

theorem insS_asc {x : ByteArray} : ∀ {l : List ByteArray}, l.Pairwise (fun a b => less a b = true) → (insS l x).Pairwise (fun a b => less a b = true)
  | [], _ => by rw [insS_nil]; simp
  | y :: l, h => by
    obtain ⟨p, q⟩ := List.pairwise_cons.1 h
    rw [insS_cons]
    split
    · rename_i hl
      refine List.pairwise_cons.2 ⟨fun z hz => ?_, insS_asc q⟩
      rcases insS_mem hz with hz | rfl
      · exact p z hz
      · exact hl
    · rename_i hl
      split
      · exact h
      · rename_i hne
        have hx : less x y = true := less_tot (by cases hh : less y x with | false => rfl | true => exact absurd hh hl) hne
        refine List.pairwise_cons.2 ⟨fun z hz => ?_, h⟩
        rcases List.mem_cons.1 hz with rfl | hz
        · exact hx
        · exact less_trans hx (p z hz)

theorem sortS_asc (ss : List ByteArray) : (sortS ss).Pairwise (fun a b => less a b = true) := by
  unfold sortS
  have go : ∀ (ss l : List ByteArray), l.Pairwise (fun a b => less a b = true) → (ss.foldl insS l).Pairwise (fun a b => less a b = true) := by
    intro ss
    induction ss with
    | nil => intro l h; exact h
    | cons x ss ih => intro l h; exact ih _ (insS_asc h)
  exact go ss [] .nil

/-- What slices.Sort makes of texts. -/
def mergeB (vs : List ByteArray) : List ByteArray := ((vs.map (fun v => v.toList)).mergeSort (fun x y => decide (x ≤ y))).map (fun l => (⟨l.toArray⟩ : ByteArray))

theorem back_toL (v : ByteArray) : (⟨v.toList.toArray⟩ : ByteArray) = v := by
  rw [Lib.toList_data]

theorem mergeB_mem {vs : List ByteArray} {x : ByteArray} : x ∈ mergeB vs ↔ x ∈ vs := by
  unfold mergeB
  simp only [List.mem_map, List.mem_mergeSort]
  constructor
  · rintro ⟨l, ⟨v, hv, rfl⟩, rfl⟩
    rw [back_toL]; exact hv
  · intro h
    exact ⟨_, ⟨x, h, rfl⟩, back_toL x⟩

theorem mergeB_asc {vs : List ByteArray} (hn : vs.Nodup) : (mergeB vs).Pairwise (fun a b => less a b = true) := by
  unfold mergeB
  rw [List.pairwise_map]
  have h1 : ((vs.map (fun v => v.toList)).mergeSort (fun x y => decide (x ≤ y))).Pairwise (fun x y => decide (x ≤ y) = true) :=
    List.pairwise_mergeSort (fun a b c h1 h2 => by simp at *; exact Std.le_trans h1 h2) (fun a b => by simp; exact Std.le_total) _
  have h2 : ((vs.map (fun v => v.toList)).mergeSort (fun x y => decide (x ≤ y))).Nodup :=
    (List.mergeSort_perm _ _).nodup_iff.2 (List.Pairwise.map _ (fun a b h e => h (toL_inj e)) hn)
  refine (h1.and h2).imp ?_
  rintro a b ⟨hle, hne⟩
  rw [less_iff]
  have e : ∀ l : List UInt8, (⟨l.toArray⟩ : ByteArray).toList = l := fun l => by rw [Lib.toList_data]
  rw [e, e]
  by_cases h : a < b
  · exact h
  · exact absurd (Std.le_antisymm (of_decide_eq_true hle) (List.not_lt.1 h)) hne

theorem mergeB_eq {vs R : List ByteArray} (hn : vs.Nodup) (h : ∀ s, s ∈ vs ↔ s ∈ R) : mergeB vs = sortS R :=
  asc_eq (lt := fun a b => less a b = true) (fun a e => by rw [less_irrefl] at e; cases e) (fun _ _ _ h k => less_trans h k) _ _ (mergeB_asc hn) (sortS_asc R) (fun x => by rw [mergeB_mem, h, sortS_all])

end Go.Proofs.YtdecihmplkgfkaaGreat
