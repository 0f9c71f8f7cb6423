/-
  What a valid state gives the walks.
-/
import Derived.Test.YtbelneejghdmoaaStWv
import Derived.Test.YtbelneejghdmoaaStIV
namespace Go.Proofs.Ytbelneejghdmoaa
open Go.ChangeShapes Go.WideShapes Go.ChangeAt Go.RowKit

theorem sums_lessW {wd : Int} {ks : List Kd} (h : ∀ (i : Nat) k, ks[i]? = some k → ThAt wd ks i k) : ∀ (d i : Nat) u v, ks[i]? = some u → ks[i + d + 1]? = some v → less u.sum v.sum = true := by
  intro d
  induction d with
  | zero => intro i u v hu hv; exact (h _ _ hv).up _ _ rfl hu
  | succ d ih =>
    intro i u v hu hv
    have hlt := (List.getElem?_eq_some_iff.1 hv).1
    have hm : ks[i + d + 1]? = some ks[i + d + 1] := List.getElem?_eq_getElem (by omega)
    exact less_trans (ih i u _ hu hm) ((h _ _ hv).up _ _ (by omega) hm)

theorem walkOk_of {wd now given births : Int} {ks : List Kd} {ps : List Pd} {ls : List Ld} (h : StateOk wd now given births ks ps ls) : WalkOk wd ks ps ls := by
  have th : ∀ k ∈ ks, okThing k.text k.refs wd = true := fun k hk => by
    obtain ⟨i, hi⟩ := List.getElem?_of_mem hk
    exact (h.th i k hi).ok
  refine ⟨h.nums.wd2, h.nth, h.np, h.nl, fun k hk => (okThing_parts (th k hk)).refs, fun k hk => ?_, fun k hk r hr => ?_, fun k hk r hr => ?_, fun p hp => ?_, fun l hl => ?_, fun u hu v hv e => ?_⟩
  · obtain ⟨i, hi⟩ := List.getElem?_of_mem hk
    rw [(h.th i k hi).sum]
    exact sumOf_size k wd h.nums.wd1
  · obtain ⟨i, hi⟩ := List.getElem?_of_mem hr
    exact (okThing_parts (th k hk)).size hi
  · obtain ⟨i, hi⟩ := List.getElem?_of_mem hk
    obtain ⟨u, hu, he, _⟩ := h.ref i k hi r hr
    exact ⟨u, hu, he⟩
  · obtain ⟨i, hi⟩ := List.getElem?_of_mem hp
    exact (h.pin i p hi).sum
  · obtain ⟨i, hi⟩ := List.getElem?_of_mem hl
    exact (h.lease i l hi).sum
  · obtain ⟨i, hi⟩ := List.getElem?_of_mem hu
    obtain ⟨j, hj⟩ := List.getElem?_of_mem hv
    rcases Nat.lt_trichotomy i j with h' | h' | h'
    · have := sums_lessW h.th (j - i - 1) i u v hi (by rw [show i + (j - i - 1) + 1 = j by omega]; exact hj)
      rw [e, less_irrefl] at this
      cases this
    · subst h'
      rw [hi] at hj
      exact Option.some.inj hj
    · have := sums_lessW h.th (i - j - 1) j v u hj (by rw [show j + (i - j - 1) + 1 = i by omega]; exact hi)
      rw [e, less_irrefl] at this
      cases this

/-- What pins and leases hold. -/
def rootS (ps : List Pd) (ls : List Ld) : List ByteArray := ps.map (·.sum) ++ ls.map (·.sum)

end Go.Proofs.Ytbelneejghdmoaa
