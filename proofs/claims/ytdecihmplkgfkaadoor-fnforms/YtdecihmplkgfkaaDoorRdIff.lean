/-
  Things that are read are those that are written: rd against formB.
-/
import Derived.Test.YtdecihmplkgfkaaDoorReadS
import Derived.Test.YtdecihmplkgfkaaDoorForm
namespace Go.Proofs.YtdecihmplkgfkaaDoor
open Go.ChangeShapes Go.WideShapes Go.ChangeAt Go.RowKit

/-- A text of bytes. -/
abbrev mkB (l : List UInt8) : ByteArray := ⟨l.toArray⟩

theorem mkB_eta (s : ByteArray) : mkB s.data.toList = s := rfl

theorem mkB_ex (l : List UInt8) (a b : Nat) : (mkB l).extract a b = mkB ((l.drop a).take (b - a)) := by
  apply ByteArray.ext
  rw [ByteArray.data_extract]
  apply Array.ext'
  simp [List.take_drop]

theorem mkB_size (l : List UInt8) : (mkB l).size = l.length := by simp [ByteArray.size]

/-- The references of a form's bytes behind its first. -/
def refL (T : List UInt8) (wd i : Nat) : ByteArray := mkB ((T.drop (i * wd)).take wd)

theorem flat_refs (T : List UInt8) (wd : Nat) : ∀ k, k * wd ≤ T.length → flat ((List.range k).map (refL T wd)) = T.take (k * wd) := by
  intro k
  induction k with
  | zero => intro _; simp [flat]
  | succ k ih =>
    intro h
    have hk : k * wd ≤ T.length := by rw [Nat.succ_mul] at h; omega
    rw [List.range_succ, List.map_append]
    unfold flat at *
    rw [List.flatMap_append, ih hk]
    simp only [List.map_cons, List.map_nil, List.flatMap_cons, List.flatMap_nil, List.append_nil, refL]
    rw [Nat.succ_mul, List.take_add]

theorem refs_flat (ss : List ByteArray) (t : List UInt8) (wd : Nat) (h : ∀ s ∈ ss, s.size = wd) : (List.range ss.length).map (refL (flat ss ++ t) wd) = ss := by
  induction ss with
  | nil => rfl
  | cons s r ih =>
    have hs : s.data.toList.length = wd := h s (List.mem_cons_self ..)
    have hr := ih (fun x hx => h x (by simp [hx]))
    have hf : flat (s :: r) ++ t = s.data.toList ++ (flat r ++ t) := by simp [flat]
    rw [List.length_cons, List.range_succ_eq_map, List.map_cons, List.map_map, hf]
    congr 1
    · unfold refL
      rw [Nat.zero_mul, List.drop_zero, List.take_left' hs]
    · refine Eq.trans ?_ hr
      apply List.map_congr_left
      intro i _
      simp only [Function.comp, refL]
      congr 2
      rw [show Nat.succ i * wd = s.data.toList.length + i * wd by rw [Nat.succ_mul, hs]; omega, ← List.drop_drop, List.drop_left]

theorem rd_mk (c : UInt8) (T : List UInt8) (wd : Int) (h1 : 1 ≤ wd) (h2 : wd ≤ 8) :
    rd (mkB (c :: T)) wd = if c.toNat * wd.toNat ≤ T.length ∧ okThing (mkB (T.drop (c.toNat * wd.toNat))) ((List.range c.toNat).map (refL T wd.toNat)) wd = true then (mkB (T.drop (c.toNat * wd.toNat)), (List.range c.toNat).map (refL T wd.toNat), true) else (⟨#[]⟩, [], false) := by
  obtain ⟨W, rfl⟩ : ∃ W : Nat, wd = W := ⟨wd.toNat, by omega⟩
  have hsz : (mkB (c :: T)).size = T.length + 1 := by rw [mkB_size]; rfl
  have e1 : (mkB (c :: T)).extract 1 (mkB (c :: T)).size = mkB T := by rw [hsz, mkB_ex]; simp
  have ht : txtI (mkB (c :: T)) W c.toNat = mkB (T.drop (c.toNat * W)) := by
    unfold txtI
    rw [e1, mkB_ex, hsz]
    congr 2
    rw [show ((c.toNat : Int) * (W : Int)).toNat = c.toNat * W by rw [← Int.natCast_mul]; rfl]
    exact List.take_of_length_le (by simp)
  have hr : refsI (mkB (c :: T)) W c.toNat = (List.range c.toNat).map (refL T W) := by
    unfold refsI
    apply List.map_congr_left
    intro i _
    unfold refI refL
    rw [e1, mkB_ex]
    congr 2
    rw [show ((i : Int) * (W : Int)).toNat = i * W by rw [← Int.natCast_mul]; rfl, show ((i : Int) * (W : Int) + (W : Int)).toNat = i * W + W by rw [← Int.natCast_mul]; omega]
    congr 1
    omega
  have hc : ((c.toNat : Int) * (W : Int) ≤ ((mkB (c :: T)).size : Int) - 1) ↔ c.toNat * W ≤ T.length := by
    rw [hsz, ← Int.natCast_mul]
    omega
  unfold rd
  rw [if_pos ⟨h1, h2⟩]
  simp only [List.head?_cons]
  unfold rdN
  rw [ht, hr]
  simp only [hc, Int.toNat_natCast]

/-- What is read is what was written. -/
theorem rd_sound {l : List UInt8} {wd : Int} (h : (rd (mkB l) wd).2.2 = true) : okThing (rd (mkB l) wd).1 (rd (mkB l) wd).2.1 wd = true ∧ formB (rd (mkB l) wd).1 (rd (mkB l) wd).2.1 = l := by
  by_cases hw : 1 ≤ wd ∧ wd ≤ 8
  · cases l with
    | nil => unfold rd at h; rw [if_pos hw] at h; simp at h
    | cons c T =>
      rw [rd_mk c T wd hw.1 hw.2] at h ⊢
      split at h
      case isTrue hc =>
        rw [if_pos hc]
        refine ⟨hc.2, ?_⟩
        simp only [formB, List.length_map, List.length_range]
        rw [flat_refs T wd.toNat c.toNat hc.1]
        simp
      case isFalse hc => simp at h
  · unfold rd at h
    rw [if_neg hw] at h
    simp at h

theorem rd_complete {t : ByteArray} {ss : List ByteArray} {wd : Int} (h : okThing t ss wd = true) : rd (mkB (formB t ss)) wd = (t, ss, true) := by
  have p := okThing_parts h
  have hsz : ∀ s ∈ ss, s.size = wd.toNat := fun s hs => by
    obtain ⟨i, hi⟩ := List.getElem?_of_mem hs
    have := p.size hi
    omega
  have hn : (UInt8.ofNat ss.length).toNat = ss.length := by have := p.refs; simp; omega
  have hfl : (flat ss).length = ss.length * wd.toNat := by rw [flat_length, p.bulk]
  unfold formB
  rw [rd_mk _ _ wd p.lo p.hi, hn, refs_flat ss t.data.toList wd.toNat hsz]
  have hd : (flat ss ++ t.data.toList).drop (ss.length * wd.toNat) = t.data.toList := by rw [← hfl, List.drop_left]
  rw [hd, mkB_eta, if_pos ⟨by rw [List.length_append, hfl]; omega, h⟩]

end Go.Proofs.YtdecihmplkgfkaaDoor
