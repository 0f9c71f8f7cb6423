/-
  Entries: what is written is read back, and what is read was written.
-/
import Derived.Test.YtdecihmplkgfkaaDoorEntY
namespace Go.Proofs.YtdecihmplkgfkaaDoor
open Go.ChangeShapes Go.WideShapes Go.ChangeAt Go.RowKit

theorem u8_nat {x : Int} (h0 : 0 ≤ x) (h : x < 256) : ((u8 x).toNat : Int) = x := by
  have : (u8 x).toNat = x.toNat := by simp [u8]; omega
  omega

theorem num_hdr {n : Int} (h0 : 0 ≤ n) (h1 : n ≤ 1000000000) : numB [u8 (n / 16777216), u8 (n / 65536 % 256), u8 (n / 256 % 256), u8 (n % 256)] = n := by
  rw [numB4, u8_nat (by omega) (by omega), u8_nat (by omega) (by omega), u8_nat (by omega) (by omega), u8_nat (by omega) (by omega)]
  omega

theorem bytes_nil {s : ByteArray} (h : s.size = 0) : s = ⟨#[]⟩ := by
  have : s.data.toList.length = 0 := h
  have := List.eq_nil_of_length_eq_zero this
  rw [← mkB_eta s, this]

theorem rdE_complete {k : Int} {sum name : ByteArray} {n : Int} {t : ByteArray} {ss : List ByteArray} {wd : Int} (h : okE k sum name n t ss wd = true) : rdE (entTxt k sum name n t ss wd) wd = ⟨k, sum, name, n, t, ss, true⟩ := by
  have h0 := h
  unfold okE at h0
  simp only [Bool.and_eq_true, decide_eq_true_eq] at h0
  obtain ⟨m, rfl⟩ : ∃ m : Nat, k = m := ⟨k.toNat, by omega⟩
  have hp := entOk_parts (okE_entOk h)
  have hok := okE_entOk h
  unfold entOk at hok
  simp only [Bool.and_eq_true] at hok
  obtain ⟨_, hks, _, _, hth⟩ := hok
  have hT : entTxt m sum name n t ss wd = mkB (entB m sum name n t ss) := (entTxt_iff h).2 rfl
  have e0 : ((u8 (m : Int)).toNat : Int) = m := u8_nat (by omega) (by omega)
  have e5 : (u8 (name.size : Int)).toNat = name.size := by
    have := u8_nat (x := (name.size : Int)) (by omega) (by have := hp.name; omega)
    omega
  have hnl : name.data.toList.length = name.size := rfl
  have hnum := num_hdr hp.n0 hp.n1
  obtain ⟨X, hX⟩ : ∃ X, X = sum.data.toList ++ (if m = 1 then formB t ss else []) := ⟨_, rfl⟩
  have hB : entB m sum name n t ss = u8 (m : Int) :: u8 (n / 16777216) :: u8 (n / 65536 % 256) :: u8 (n / 256 % 256) :: u8 (n % 256) :: u8 (name.size : Int) :: (name.data.toList ++ X) := by
    rw [hX]
    unfold entB hdr
    simp
  have hS : spS (m : Int) X = sum ∧ spT (m : Int) X wd = t ∧ spR (m : Int) X wd = ss := by
    by_cases h1 : m = 1
    · subst h1
      have hs : sum = ⟨#[]⟩ := bytes_nil (by simpa [sumOk, kSum] using hks)
      have hXf : X = formB t ss := by rw [hX, hs]; simp
      rw [hXf]
      unfold spS spT spR
      have hr := rd_complete (hp.thing rfl)
      have e1 : ((1 : Nat) : Int) = 1 := rfl
      rw [if_pos e1, if_pos e1, if_pos e1, hr]
      exact ⟨hs.symm, rfl, rfl⟩
    · have hne : ¬ ((m : Int) = 1) := by omega
      have hXs : X = sum.data.toList := by rw [hX, if_neg h1]; simp
      have hkt : kThing m = false := by simp [kThing, h1]
      rw [hkt] at hth
      simp only [thOk, Bool.false_eq_true, if_false, decide_eq_true_eq] at hth
      unfold spS spT spR
      rw [if_neg hne, if_neg hne, if_neg hne, hXs]
      exact ⟨mkB_eta sum, (bytes_nil hth.1).symm, (List.eq_nil_of_length_eq_zero hth.2).symm⟩
  rw [hT, hB, rdE_shape _ _ _ _ _ _ _ hp.w1 hp.w2 (by rw [e5]; simp), e0, hnum, e5]
  rw [show (name.data.toList ++ X).take name.size = name.data.toList from List.take_left' hnl, show (name.data.toList ++ X).drop name.size = X from List.drop_left' hnl, mkB_eta, hS.1, hS.2.1, hS.2.2]
  rw [if_pos]
  unfold spOk
  rw [hS.1, hS.2.1, hS.2.2, mkB_eta, h, hT, hB]
  simp

theorem rdE_sound {s : ByteArray} {wd : Int} (h : (rdE s wd).ok = true) : okE (rdE s wd).k (rdE s wd).sum (rdE s wd).name (rdE s wd).n (rdE s wd).t (rdE s wd).ss wd = true ∧ entTxt (rdE s wd).k (rdE s wd).sum (rdE s wd).name (rdE s wd).n (rdE s wd).t (rdE s wd).ss wd = s := by
  by_cases hw : 1 ≤ wd ∧ wd ≤ 8
  · obtain ⟨h1, h2⟩ := hw
    obtain ⟨l, rfl⟩ : ∃ l, s = mkB l := ⟨s.data.toList, rfl⟩
    by_cases h6 : l.length < 6
    · rw [rdE_short h1 h2 h6] at h
      cases h
    · match l, h6, h with
      | a0 :: a1 :: a2 :: a3 :: a4 :: a5 :: T, h6, h =>
        by_cases hT : a5.toNat ≤ T.length
        · rw [rdE_shape a0 a1 a2 a3 a4 a5 T h1 h2 hT] at h ⊢
          split at h
          case isTrue hc =>
            rw [if_pos hc]
            unfold spOk at hc
            rw [Bool.and_eq_true, decide_eq_true_eq] at hc
            exact hc
          case isFalse hc => cases h
        · rw [rdE_name h1 h2 (by omega)] at h
          cases h
      | [], h6, _ => simp at h6
      | [_], h6, _ => simp at h6
      | [_, _], h6, _ => simp at h6
      | [_, _, _], h6, _ => simp at h6
      | [_, _, _, _], h6, _ => simp at h6
      | [_, _, _, _, _], h6, _ => simp at h6
  · rw [rdE_width hw] at h
    cases h

theorem entTxt_ne {k : Int} {sum name : ByteArray} {n : Int} {t : ByteArray} {ss : List ByteArray} {wd : Int} (h : ¬ entTxt k sum name n t ss wd = ⟨#[]⟩) : okE k sum name n t ss wd = true := by
  cases hok : okE k sum name n t ss wd with
  | true => rfl
  | false =>
    unfold entTxt at h
    rw [hok] at h
    exact absurd rfl h

theorem formTxt_ne {t : ByteArray} {ss : List ByteArray} {wd : Int} (h : ¬ formTxt t ss wd = ⟨#[]⟩) : okThing t ss wd = true ∧ formTxt t ss wd = mkB (formB t ss) := by
  cases hok : okThing t ss wd with
  | true =>
    unfold formTxt
    rw [if_pos hok]
    exact ⟨rfl, rfl⟩
  | false =>
    unfold formTxt at h
    rw [hok] at h
    exact absurd rfl h

theorem rd_form {t : ByteArray} {ss : List ByteArray} {wd : Int} (h : ¬ formTxt t ss wd = ⟨#[]⟩) : rd (formTxt t ss wd) wd = (t, ss, true) := by
  obtain ⟨h1, h2⟩ := formTxt_ne h
  rw [h2]
  exact rd_complete h1

theorem form_rd {s : ByteArray} {wd : Int} (h : (rd s wd).2.2 = true) : formTxt (rd s wd).1 (rd s wd).2.1 wd = s := by
  obtain ⟨l, rfl⟩ : ∃ l, s = mkB l := ⟨s.data.toList, rfl⟩
  obtain ⟨h1, h2⟩ := rd_sound h
  unfold formTxt
  rw [if_pos h1, h2]

end Go.Proofs.YtdecihmplkgfkaaDoor
