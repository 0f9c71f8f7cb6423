/-
  impl.walk: a walk over links, each thing handed to visit once.
-/
import Derived.Test.YtbelneejghdmoaaStLn
import Derived.Test.YtbelneejghdmoaaStShelf
import Derived.Deep.LoopGhost
namespace Go.Proofs.Ytbelneejghdmoaa
open Go.ChangeShapes Go.WideShapes Go.ChangeAt Go.RowKit
attribute [local go_sem ↓] Go.wp_at_zero Go.wp_at_succ

/-- An object that is no row of strings. -/
def notStr : Obj → Bool
  | .cells _ t _ => !(t == 9)
  | _ => true

/-- What can be reached along links. -/
inductive ReachE (E : List (ByteArray × ByteArray)) (fr : List ByteArray) : ByteArray → Prop
  | here {x : ByteArray} : x ∈ fr → ReachE E fr x
  | step {x y : ByteArray} : ReachE E fr y → x ∈ linkL E y → ReachE E fr x

/-- A walk on its way: vs are visited, Q is to be looked at. -/
structure Wk (ks : List Kd) (E : List (ByteArray × ByteArray)) (fr vs Q : List ByteArray) : Prop where
  nd : vs.Nodup
  vr : ∀ s ∈ vs, ReachE E fr s
  qr : ∀ s ∈ Q, ReachE E fr s
  base : ∀ s ∈ fr, s ∈ vs ∨ s ∈ Q
  shut : ∀ s ∈ vs, ∀ t ∈ linkL E s, t ∈ vs ∨ t ∈ Q
  there : ∀ s ∈ vs, There ks s

theorem Wk.done {ks : List Kd} {E : List (ByteArray × ByteArray)} {fr vs : List ByteArray} (h : Wk ks E fr vs []) {s : ByteArray} : s ∈ vs ↔ ReachE E fr s := by
  refine ⟨h.vr s, fun hr => ?_⟩
  induction hr with
  | here hx => exact (h.base _ hx).resolve_right (by simp)
  | step _ hx ih => exact (h.shut _ ih _ hx).resolve_right (by simp)

theorem Wk.skip {ks : List Kd} {E : List (ByteArray × ByteArray)} {fr vs Q : List ByteArray} {s : ByteArray} (h : Wk ks E fr vs (s :: Q)) (hs : s ∈ vs) : Wk ks E fr vs Q := by
  have hm : ∀ {t : ByteArray}, t ∈ vs ∨ t ∈ s :: Q → t ∈ vs ∨ t ∈ Q := fun {t} h => by
    rcases h with h | h
    · exact .inl h
    · rcases List.mem_cons.1 h with rfl | h
      · exact .inl hs
      · exact .inr h
  exact ⟨h.nd, h.vr, fun t ht => h.qr t (List.mem_cons_of_mem _ ht), fun t ht => hm (h.base t ht), fun u hu t ht => hm (h.shut u hu t ht), h.there⟩

theorem Wk.visit {ks : List Kd} {E : List (ByteArray × ByteArray)} {fr vs Q : List ByteArray} {s : ByteArray} (h : Wk ks E fr vs (s :: Q)) (hs : s ∉ vs) (ht : There ks s) : Wk ks E fr (vs ++ [s]) (Q ++ linkL E s) := by
  have hsr : ReachE E fr s := h.qr s (by simp)
  have hm : ∀ {t : ByteArray}, t ∈ vs ∨ t ∈ s :: Q → t ∈ vs ++ [s] ∨ t ∈ Q ++ linkL E s := fun {t} h => by
    rcases h with h | h
    · exact .inl (by simp [h])
    · rcases List.mem_cons.1 h with rfl | h
      · exact .inl (by simp)
      · exact .inr (by simp [h])
  refine ⟨?_, fun t h' => ?_, fun t h' => ?_, fun t h' => hm (h.base t h'), fun u hu t h' => ?_, fun t h' => ?_⟩
  · refine List.nodup_append.2 ⟨h.nd, by simp, fun a ha b hb e => ?_⟩
    simp at hb
    subst hb
    subst e
    exact hs ha
  · rcases List.mem_append.1 h' with h' | h'
    · exact h.vr t h'
    · simp at h'; subst h'; exact hsr
  · rcases List.mem_append.1 h' with h' | h'
    · exact h.qr t (List.mem_cons_of_mem _ h')
    · exact .step hsr h'
  · rcases List.mem_append.1 hu with hu | hu
    · exact hm (h.shut u hu t h')
    · simp at hu; subst hu; exact .inr (by simp [h'])
  · rcases List.mem_append.1 h' with h' | h'
    · exact h.there t h'
    · simp at h'; subst h'; exact ht

/-- All that a walk comes to is there. -/
theorem reach_there {ks : List Kd} {E : List (ByteArray × ByteArray)} {fr : List ByteArray} (hf : ∀ s ∈ fr, There ks s) (hE : ∀ p ∈ E, There ks p.2) {s : ByteArray} (h : ReachE E fr s) : There ks s := by
  cases h with
  | here hx => exact hf _ hx
  | step _ hx =>
    unfold linkL at hx
    rw [List.mem_filterMap] at hx
    obtain ⟨p, hp, e⟩ := hx
    split at e
    · cases e; exact hE p hp
    · cases e

theorem visited_le {ks : List Kd} {vs : List ByteArray} (hn : vs.Nodup) (ht : ∀ s ∈ vs, There ks s) : vs.length ≤ ks.length := by
  have h : ∀ (l : List ByteArray), l.Nodup → ∀ (u : List ByteArray), (∀ x ∈ l, x ∈ u) → l.length ≤ u.length := by
    intro l
    induction l with
    | nil => intro _ u _; simp
    | cons x xs ih =>
      intro h u hs
      obtain ⟨hx, hn⟩ := List.nodup_cons.1 h
      obtain ⟨a, b, rfl⟩ := List.append_of_mem (hs x (by simp))
      have := ih hn (a ++ b) (fun y hy => by
        have hyu := hs y (by simp [hy])
        have hne : y ≠ x := fun e => hx (by rw [← e]; exact hy)
        simp only [List.mem_append, List.mem_cons] at hyu ⊢
        rcases hyu with h | h | h
        · exact .inl h
        · exact absurd h hne
        · exact .inr h)
      simp only [List.length_cons, List.length_append] at this ⊢
      omega
  have := h vs hn (ks.map (·.sum)) (fun s hs => by
    obtain ⟨u, hu, e⟩ := ht s hs
    exact List.mem_map.2 ⟨u, hu, e⟩)
  simpa using this

theorem Holds.get {W : World} {B : Nat} {wd : Int} {ks : List Kd} {f : Lit → Option Value} (h : Holds W B wd ks f) {s : ByteArray} (hs : (s.size : Int) = wd) (ht : There ks s) : ∃ u ra rc, u ∈ ks ∧ u.sum = s ∧ f (keyL s) = some (keptV u ra rc) := by
  rcases h s hs with ⟨_, h2⟩ | ⟨u, ra, rc, h1, h2, h3, _⟩
  · exact absurd ht h2
  · exact ⟨u, ra, rc, h1, h2, h3⟩

/-- What a visit may turn: the blocks of V below n0, and rows of strings from n0 on. -/
structure Vis (n0 : Nat) (V : List Nat) (W W' : World) : Prop where
  os : W'.os = W.os
  tape : W'.tape = W.tape
  output : W'.output = W.output
  size : W.heap.size ≤ W'.heap.size
  old : ∀ q, q < n0 → q ∉ V → W'.heap[q]? = W.heap[q]?
  own : ∀ q o, n0 ≤ q → W.heap[q]? = some o → notStr o = true → W'.heap[q]? = some o

theorem Vis.refl (n0 : Nat) (V : List Nat) (W : World) : Vis n0 V W W := ⟨rfl, rfl, rfl, Nat.le_refl _, fun _ _ _ => rfl, fun _ _ _ h _ => h⟩

theorem Vis.trans {n0 : Nat} {V : List Nat} {X Y Z : World} (h : Vis n0 V X Y) (k : Vis n0 V Y Z) : Vis n0 V X Z :=
  ⟨k.os.trans h.os, k.tape.trans h.tape, k.output.trans h.output, Nat.le_trans h.size k.size, fun q hq hv => (k.old q hq hv).trans (h.old q hq hv), fun q o hq ho hn => k.own q o hq (h.own q o hq ho hn) hn⟩

/-- What a visit's own word abides: turns of blocks from n0 on that are no rows of strings. -/
def Abides (n0 : Nat) (J : List ByteArray → World → Prop) : Prop :=
  ∀ vs W W', J vs W → W'.os = W.os → W'.tape = W.tape → W'.output = W.output → W.heap.size ≤ W'.heap.size → (∀ q, q < n0 → W'.heap[q]? = W.heap[q]?) → (∀ q o, n0 ≤ q → W.heap[q]? = some o → notStr o = false → W'.heap[q]? = some o) → J vs W'

theorem Abides.below {n0 : Nat} {J : List ByteArray → World → Prop} (h : Abides n0 J) {vs : List ByteArray} {W W' : World} (hj : J vs W) (hb : Below W.heap.size W W') (hn : n0 ≤ W.heap.size) : J vs W' :=
  h vs W W' hj hb.os hb.tape hb.output hb.size (fun q hq => hb.block q (by omega)) (fun q o _ ho _ => (hb.block q (Array.getElem?_eq_some_iff.1 ho).1).trans ho)

theorem Abides.grown {n0 : Nat} {J : List ByteArray → World → Prop} (h : Abides n0 J) {vs : List ByteArray} {W W' : World} {b : Nat} (hj : J vs W) (hg : W.grownBy W' (some b)) (hn : n0 ≤ W.heap.size) (hb : n0 ≤ b) (ho : ∀ o, W.heap[b]? = some o → notStr o = true) : J vs W' :=
  h vs W W' hj hg.os hg.tape hg.output hg.size (fun q hq => hg.block q (by omega) (fun e => by have := Option.some.inj e; omega)) (fun q o _ hq hs => by
    by_cases e : q = b
    · subst e
      rw [ho o hq] at hs
      cases hs
    · exact (hg.block q (Array.getElem?_eq_some_iff.1 hq).1 (fun h => e (Option.some.inj h))).trans hq)

end Go.Proofs.Ytbelneejghdmoaa
