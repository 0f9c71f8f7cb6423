/-
  What ReadEntry reads: the reader's steps against the document's model.
-/
import Derived.Test.YtdecihmplkgfkaaDoorEntU
import Derived.Test.YtdecihmplkgfkaaDoorRdIff
namespace Go.Proofs.YtdecihmplkgfkaaDoor
open Go.ChangeShapes Go.WideShapes Go.ChangeAt Go.RowKit

/-- An entry that is read, and whether it is one. -/
structure ER where
  k : Int
  sum : ByteArray
  name : ByteArray
  n : Int
  t : ByteArray
  ss : List ByteArray
  ok : Bool

def erNo : ER := ⟨0, ⟨#[]⟩, ⟨#[]⟩, 0, ⟨#[]⟩, [], false⟩

/-- ReadEntry's answer, by the reader's steps. -/
def rdE (s : ByteArray) (wd : Int) : ER :=
  if e_b9 s wd = true then erNo else ⟨e_k s wd, (e_t5 s wd).1, (e_t4 s wd).1, e_n s wd, (e_th s wd).1, (e_th s wd).2, true⟩

/-- The entry that the model takes the bytes for. -/
def spS (k : Int) (rest : List UInt8) : ByteArray := if k = 1 then ⟨#[]⟩ else mkB rest
def spT (k : Int) (rest : List UInt8) (wd : Int) : ByteArray := if k = 1 then (rd (mkB rest) wd).1 else ⟨#[]⟩
def spR (k : Int) (rest : List UInt8) (wd : Int) : List ByteArray := if k = 1 then (rd (mkB rest) wd).2.1 else []
def spOk (k n : Int) (name rest l : List UInt8) (wd : Int) : Bool :=
  okE k (spS k rest) (mkB name) n (spT k rest wd) (spR k rest wd) wd && decide (entTxt k (spS k rest) (mkB name) n (spT k rest wd) (spR k rest wd) wd = mkB l)

theorem takeR_mk (l : List UInt8) (n : Nat) (h : n ≤ l.length) : takeR (mkB l) false n = (mkB (l.take n), mkB (l.drop n), false) := by
  unfold takeR
  rw [if_neg (by decide), if_neg (by rw [mkB_size]; omega), mkB_ex, mkB_ex, mkB_size]
  simp
  exact List.take_of_length_le (by simp)

theorem takeR_short (l : List UInt8) (n : Int) (h : (l.length : Int) < n) : takeR (mkB l) false n = (⟨#[]⟩, mkB l, true) := by
  unfold takeR
  rw [if_neg (by decide), if_pos (by rw [mkB_size]; exact h)]

theorem takeR_true (r : ByteArray) (n : Int) : takeR r true n = (⟨#[]⟩, r, true) := by simp [takeR]

theorem b9_of_t4 {s : ByteArray} {wd : Int} (h : (e_t4 s wd).2.2 = true) : e_b9 s wd = true := by
  cases hb : e_b9 s wd with
  | true => rfl
  | false =>
    unfold e_b9 at hb
    have h8 := (Bool.or_eq_false_iff.1 hb).1
    unfold e_b8 at h8
    have h6 := (Bool.or_eq_false_iff.1 h8).1
    have h5 : (e_t5 s wd).2.2 = false := by
      unfold e_t6 at h6
      split at h6
      · simp only [thBad] at h6
        exact takeR_bad (Bool.or_eq_false_iff.1 h6).1
      · exact h6
    have h4 : (e_t4 s wd).2.2 = false := by
      unfold e_t5 at h5
      split at h5
      · exact takeR_bad h5
      · exact h5
    rw [h4] at h
    cases h

theorem t4_of_t3 {s : ByteArray} {wd : Int} (h : (e_t3 s wd).2.2 = true) : (e_t4 s wd).2.2 = true := by unfold e_t4; rw [h, takeR_true]
theorem t3_of_t2 {s : ByteArray} {wd : Int} (h : (e_t2 s wd).2.2 = true) : (e_t3 s wd).2.2 = true := by unfold e_t3; rw [h, takeR_true]
theorem t2_of_b2 {s : ByteArray} {wd : Int} (h : e_b2 s wd = true) : (e_t2 s wd).2.2 = true := by unfold e_t2; rw [h, takeR_true]

theorem b9_of_b2 {s : ByteArray} {wd : Int} (h : e_b2 s wd = true) : e_b9 s wd = true := b9_of_t4 (t4_of_t3 (t3_of_t2 (t2_of_b2 h)))

theorem b9_width {s : ByteArray} {wd : Int} (h : ¬ (1 ≤ wd ∧ wd ≤ 8)) : e_b9 s wd = true := by
  refine b9_of_b2 ?_
  unfold e_b2 e_t1
  rw [show e_b0 wd = true by unfold e_b0; simp; omega, takeR_true]
  rfl

theorem b0_ok {wd : Int} (h1 : 1 ≤ wd) (h2 : wd ≤ 8) : e_b0 wd = false := by unfold e_b0; simp [h1, h2]

theorem numB1 (a : UInt8) : numB [a] = (a.toNat : Int) := by simp [numB]
theorem numB4 (a b c d : UInt8) : numB [a, b, c, d] = (a.toNat : Int) * 16777216 + (b.toNat : Int) * 65536 + (c.toNat : Int) * 256 + (d.toNat : Int) := by
  simp only [numB, List.foldl_cons, List.foldl_nil]
  omega

section
variable {wd : Int} (h1 : 1 ≤ wd) (h2 : wd ≤ 8)

theorem t1_nil (h1 : 1 ≤ wd) (h2 : wd ≤ 8) : e_b9 (mkB []) wd = true := by
  refine b9_of_b2 ?_
  unfold e_b2 e_t1
  rw [b0_ok h1 h2, takeR_short [] _ (by simp)]
  rfl

theorem t1_cons (a : UInt8) (l : List UInt8) (h1 : 1 ≤ wd) (h2 : wd ≤ 8) : e_t1 (mkB (a :: l)) wd = (mkB [a], mkB l, false) := by
  unfold e_t1
  rw [b0_ok h1 h2, takeR_mk _ _ (by simp)]
  rfl

theorem k_cons (a : UInt8) (l : List UInt8) (h1 : 1 ≤ wd) (h2 : wd ≤ 8) : e_k (mkB (a :: l)) wd = (a.toNat : Int) := by
  unfold e_k
  rw [t1_cons a l h1 h2]
  exact numB1 a

theorem b2_cons (a : UInt8) (l : List UInt8) (h1 : 1 ≤ wd) (h2 : wd ≤ 8) : e_b2 (mkB (a :: l)) wd = !inK (a.toNat : Int) := by
  unfold e_b2
  rw [t1_cons a l h1 h2, k_cons a l h1 h2]
  rfl

theorem t2_short (a : UInt8) (l : List UInt8) (h1 : 1 ≤ wd) (h2 : wd ≤ 8) (hl : l.length < 4) : e_b9 (mkB (a :: l)) wd = true := by
  cases hk : inK (a.toNat : Int) with
  | false => exact b9_of_b2 (by rw [b2_cons a l h1 h2, hk]; rfl)
  | true =>
    refine b9_of_t4 (t4_of_t3 (t3_of_t2 ?_))
    unfold e_t2
    rw [b2_cons a l h1 h2, hk, t1_cons a l h1 h2]
    rw [show (!true) = false from rfl, takeR_short l _ (by omega)]

theorem t2_ok (a0 a1 a2 a3 a4 : UInt8) (l : List UInt8) (h1 : 1 ≤ wd) (h2 : wd ≤ 8) (hk : inK (a0.toNat : Int) = true) : e_t2 (mkB (a0 :: a1 :: a2 :: a3 :: a4 :: l)) wd = (mkB [a1, a2, a3, a4], mkB l, false) := by
  unfold e_t2
  rw [b2_cons _ _ h1 h2, hk, t1_cons _ _ h1 h2]
  rw [show (!true) = false from rfl, takeR_mk _ _ (by simp)]
  rfl

theorem t3_short (a0 a1 a2 a3 a4 : UInt8) (h1 : 1 ≤ wd) (h2 : wd ≤ 8) (hk : inK (a0.toNat : Int) = true) : e_b9 (mkB [a0, a1, a2, a3, a4]) wd = true := by
  refine b9_of_t4 (t4_of_t3 ?_)
  unfold e_t3
  rw [t2_ok a0 a1 a2 a3 a4 [] h1 h2 hk, takeR_short [] _ (by simp)]

theorem t3_ok (a0 a1 a2 a3 a4 a5 : UInt8) (T : List UInt8) (h1 : 1 ≤ wd) (h2 : wd ≤ 8) (hk : inK (a0.toNat : Int) = true) : e_t3 (mkB (a0 :: a1 :: a2 :: a3 :: a4 :: a5 :: T)) wd = (mkB [a5], mkB T, false) := by
  unfold e_t3
  rw [t2_ok a0 a1 a2 a3 a4 (a5 :: T) h1 h2 hk, takeR_mk _ _ (by simp)]
  rfl

theorem m_ok (a0 a1 a2 a3 a4 a5 : UInt8) (T : List UInt8) (h1 : 1 ≤ wd) (h2 : wd ≤ 8) (hk : inK (a0.toNat : Int) = true) : e_m (mkB (a0 :: a1 :: a2 :: a3 :: a4 :: a5 :: T)) wd = (a5.toNat : Int) := by
  unfold e_m
  rw [t3_ok a0 a1 a2 a3 a4 a5 T h1 h2 hk]
  exact numB1 a5

theorem t4_short (a0 a1 a2 a3 a4 a5 : UInt8) (T : List UInt8) (h1 : 1 ≤ wd) (h2 : wd ≤ 8) (hk : inK (a0.toNat : Int) = true) (hT : T.length < a5.toNat) : e_b9 (mkB (a0 :: a1 :: a2 :: a3 :: a4 :: a5 :: T)) wd = true := by
  refine b9_of_t4 ?_
  unfold e_t4
  rw [m_ok a0 a1 a2 a3 a4 a5 T h1 h2 hk, t3_ok a0 a1 a2 a3 a4 a5 T h1 h2 hk, takeR_short T _ (by omega)]

theorem t4_ok (a0 a1 a2 a3 a4 a5 : UInt8) (T : List UInt8) (h1 : 1 ≤ wd) (h2 : wd ≤ 8) (hk : inK (a0.toNat : Int) = true) (hT : a5.toNat ≤ T.length) : e_t4 (mkB (a0 :: a1 :: a2 :: a3 :: a4 :: a5 :: T)) wd = (mkB (T.take a5.toNat), mkB (T.drop a5.toNat), false) := by
  unfold e_t4
  rw [m_ok a0 a1 a2 a3 a4 a5 T h1 h2 hk, t3_ok a0 a1 a2 a3 a4 a5 T h1 h2 hk, takeR_mk T _ hT]

theorem n_ok (a0 a1 a2 a3 a4 : UInt8) (l : List UInt8) (h1 : 1 ≤ wd) (h2 : wd ≤ 8) (hk : inK (a0.toNat : Int) = true) : e_n (mkB (a0 :: a1 :: a2 :: a3 :: a4 :: l)) wd = numB [a1, a2, a3, a4] := by
  unfold e_n
  rw [t2_ok a0 a1 a2 a3 a4 l h1 h2 hk]

theorem u8_back (a : UInt8) (x : Int) (h : x = (a.toNat : Int)) : u8 x = a := by
  subst h
  simp [u8]

theorem hdr_back (a0 a1 a2 a3 a4 a5 : UInt8) : hdr (a0.toNat : Int) (numB [a1, a2, a3, a4]) (a5.toNat : Int) = [a0, a1, a2, a3, a4, a5] := by
  have b1 := a1.toNat_lt
  have b2 := a2.toNat_lt
  have b3 := a3.toNat_lt
  have b4 := a4.toNat_lt
  unfold hdr
  rw [numB4]
  rw [u8_back a0 _ rfl, u8_back a5 _ rfl, u8_back a1 _ (by omega), u8_back a2 _ (by omega), u8_back a3 _ (by omega), u8_back a4 _ (by omega)]

end

theorem inK_nat {k : Nat} (h : inK (k : Int) = true) : 1 ≤ k ∧ k ≤ 7 := by
  unfold inK at h
  simp at h
  omega

theorem okE_inK {k : Int} {sum name : ByteArray} {n : Int} {t : ByteArray} {ss : List ByteArray} {wd : Int} (h : inK k = false) : okE k sum name n t ss wd = false := by
  unfold okE
  unfold inK at h
  rw [h]
  rfl

theorem okE_entOk {k : Nat} {sum name : ByteArray} {n : Int} {t : ByteArray} {ss : List ByteArray} {wd : Int} (h : okE (k : Int) sum name n t ss wd = true) : entOk k sum name n t ss wd = true := by
  unfold okE at h
  exact (Bool.and_eq_true_iff.1 h).2

theorem okE_sum {k : Nat} {sum name : ByteArray} {n : Int} {t : ByteArray} {ss : List ByteArray} {wd : Int} (h : okE (k : Int) sum name n t ss wd = true) : sumOk (kSum k) sum wd = true := by
  have h' := okE_entOk h
  unfold entOk at h'
  exact (Bool.and_eq_true_iff.1 (Bool.and_eq_true_iff.1 h').2).1

theorem mkB_nil_of {l : List UInt8} (h : (mkB l).size = 0) : mkB l = ⟨#[]⟩ := by
  rw [mkB_size] at h
  rw [List.eq_nil_of_length_eq_zero h]

theorem entTxt_iff {k : Nat} {sum name : ByteArray} {n : Int} {t : ByteArray} {ss : List ByteArray} {wd : Int} {l : List UInt8} (h : okE (k : Int) sum name n t ss wd = true) : entTxt k sum name n t ss wd = mkB l ↔ entB k sum name n t ss = l := by
  unfold entTxt
  rw [if_pos h, Int.toNat_natCast]
  constructor
  · intro e
    have := congrArg (fun s : ByteArray => s.data.toList) e
    simpa using this
  · intro e
    rw [e]

/-- The two sides read the same. -/
theorem rdE_shape (a0 a1 a2 a3 a4 a5 : UInt8) (T : List UInt8) {wd : Int} (h1 : 1 ≤ wd) (h2 : wd ≤ 8) (hT : a5.toNat ≤ T.length) :
    rdE (mkB (a0 :: a1 :: a2 :: a3 :: a4 :: a5 :: T)) wd =
      if spOk (a0.toNat : Int) (numB [a1, a2, a3, a4]) (T.take a5.toNat) (T.drop a5.toNat) (a0 :: a1 :: a2 :: a3 :: a4 :: a5 :: T) wd = true then
        ⟨(a0.toNat : Int), spS (a0.toNat : Int) (T.drop a5.toNat), mkB (T.take a5.toNat), numB [a1, a2, a3, a4], spT (a0.toNat : Int) (T.drop a5.toNat) wd, spR (a0.toNat : Int) (T.drop a5.toNat) wd, true⟩
      else erNo := by
  cases hk : inK (a0.toNat : Int) with
  | false =>
    unfold rdE
    rw [if_pos (b9_of_b2 (by rw [b2_cons _ _ h1 h2, hk]; rfl)), if_neg (by unfold spOk; rw [okE_inK hk]; simp)]
  | true =>
    obtain ⟨k1, k7⟩ := inK_nat hk
    have et4 := t4_ok a0 a1 a2 a3 a4 a5 T h1 h2 hk hT
    have ek := k_cons a0 (a1 :: a2 :: a3 :: a4 :: a5 :: T) h1 h2
    have en := n_ok a0 a1 a2 a3 a4 (a5 :: T) h1 h2 hk
    have hnl : (mkB (T.take a5.toNat)).size = a5.toNat := by rw [mkB_size]; simp; omega
    have hbk : ∀ x : List UInt8, hdr (a0.toNat : Int) (numB [a1, a2, a3, a4]) ((mkB (T.take a5.toNat)).size : Int) ++ (mkB (T.take a5.toNat)).data.toList ++ x = (a0 :: a1 :: a2 :: a3 :: a4 :: a5 :: T) ↔ x = T.drop a5.toNat := by
      intro x
      rw [hnl, hdr_back]
      constructor
      · intro h
        have h' : T.take a5.toNat ++ x = T := by simpa using h
        have h3 : T.take a5.toNat ++ x = T.take a5.toNat ++ T.drop a5.toNat := by rw [h', List.take_append_drop]
        exact List.append_cancel_left h3
      · intro h
        rw [h]
        simp
    generalize hs : (mkB (a0 :: a1 :: a2 :: a3 :: a4 :: a5 :: T)) = s at *
    generalize hnm : mkB (T.take a5.toNat) = name at *
    generalize hrs : T.drop a5.toNat = rest at *
    generalize hn : numB [a1, a2, a3, a4] = n at *
    by_cases hk1 : a0.toNat = 1
    · -- a thing is put
      have es : uSum (e_k s wd) = false := by rw [ek, hk1]; rfl
      have eu : uThing (e_k s wd) = true := by rw [ek, hk1]; rfl
      have et5 : e_t5 s wd = (⟨#[]⟩, mkB rest, false) := by unfold e_t5; rw [if_neg (by rw [es]; decide), et4]
      have htk : thTk (mkB rest) false = mkB rest := by
        unfold thTk
        rw [mkB_size, takeR_mk _ _ (Nat.le_refl _)]
        simp
      have hre : thRest (mkB rest) false = ⟨#[]⟩ := by
        unfold thRest
        rw [mkB_size, takeR_mk _ _ (Nat.le_refl _)]
        simp
      have hbd : thBad (mkB rest) false wd = !(rd (mkB rest) wd).2.2 := by
        unfold thBad
        rw [htk, mkB_size, takeR_mk _ _ (Nat.le_refl _)]
        rfl
      have eth : e_th s wd = ((rd (mkB rest) wd).1, (rd (mkB rest) wd).2.1) := by unfold e_th; rw [if_pos eu, et5]; simp only [htk]
      have et6 : e_t6 s wd = (⟨#[]⟩, !(rd (mkB rest) wd).2.2) := by unfold e_t6; rw [if_pos eu, et5]; simp only [hre, hbd]
      have eok : e_ok s wd = okE (a0.toNat : Int) ⟨#[]⟩ name n (rd (mkB rest) wd).1 (rd (mkB rest) wd).2.1 wd := by unfold e_ok; rw [ek, en, et4, et5, eth]
      have eb9 : e_b9 s wd = (!(rd (mkB rest) wd).2.2 || !okE (a0.toNat : Int) ⟨#[]⟩ name n (rd (mkB rest) wd).1 (rd (mkB rest) wd).2.1 wd) := by
        unfold e_b9 e_b8
        rw [eok, et6]
        simp [ByteArray.size]
      have i1 : ((a0.toNat : Int) = 1) := by omega
      unfold rdE spOk spS spT spR
      rw [if_pos i1, if_pos i1, if_pos i1, hnm, eb9, ek, et5, et4, en, eth]
      simp only
      cases ho : okE (a0.toNat : Int) ⟨#[]⟩ name n (rd (mkB rest) wd).1 (rd (mkB rest) wd).2.1 wd with
      | false => simp
      | true =>
        have hi := entTxt_iff (l := a0 :: a1 :: a2 :: a3 :: a4 :: a5 :: T) ho
        have hth := (entOk_parts (okE_entOk ho)).thing hk1
        have hi2 : entB a0.toNat ⟨#[]⟩ name n (rd (mkB rest) wd).1 (rd (mkB rest) wd).2.1 = (a0 :: a1 :: a2 :: a3 :: a4 :: a5 :: T) ↔ formB (rd (mkB rest) wd).1 (rd (mkB rest) wd).2.1 = rest := by
          rw [← hbk]
          unfold entB
          rw [if_pos hk1]
          simp
        rw [hi2] at hi
        have hi3 : formB (rd (mkB rest) wd).1 (rd (mkB rest) wd).2.1 = rest ↔ (rd (mkB rest) wd).2.2 = true := by
          constructor
          · intro e
            have := rd_complete hth
            rw [e] at this
            rw [this]
          · intro e
            exact (rd_sound e).2
        rw [hi3] at hi
        cases hr : (rd (mkB rest) wd).2.2 with
        | true =>
          rw [if_neg (by simp), if_pos (by simp; exact hi.2 hr)]
        | false =>
          rw [if_pos (by simp), if_neg (by simp; intro h; have := hi.1 h; rw [hr] at this; cases this)]
    · have eu : uThing (e_k s wd) = false := by rw [ek]; unfold uThing kThing; simp [hk1]
      have i1 : ¬ ((a0.toNat : Int) = 1) := by omega
      have eth : e_th s wd = (⟨#[]⟩, []) := by unfold e_th; rw [if_neg (by rw [eu]; decide)]
      have et6 : e_t6 s wd = (e_t5 s wd).2 := by unfold e_t6; rw [if_neg (by rw [eu]; decide)]
      have hpos : ∀ sm, okE (a0.toNat : Int) sm name n ⟨#[]⟩ [] wd = true → sm = mkB rest → entTxt (a0.toNat : Int) sm name n ⟨#[]⟩ [] wd = s := by
        intro sm ho e
        rw [← hs]
        refine (entTxt_iff (l := a0 :: a1 :: a2 :: a3 :: a4 :: a5 :: T) ho).2 ?_
        unfold entB
        rw [if_neg hk1, e, List.append_nil]
        exact (hbk rest).2 rfl
      unfold rdE spOk spS spT spR
      rw [if_neg i1, if_neg i1, if_neg i1, hnm, hs]
      cases hu : kSum a0.toNat with
      | true =>
        have es : uSum (e_k s wd) = true := by rw [ek]; unfold uSum; rw [hk, Int.toNat_natCast, hu]; rfl
        have et5 : e_t5 s wd = takeR (mkB rest) false wd := by unfold e_t5; rw [if_pos es, et4]
        obtain ⟨W, rfl⟩ : ∃ W : Nat, wd = W := ⟨wd.toNat, by omega⟩
        by_cases hsz : rest.length = W
        · rw [takeR_mk rest W (by omega), List.take_of_length_le (by omega), List.drop_of_length_le (by omega)] at et5
          have eok : e_ok s W = okE (a0.toNat : Int) (mkB rest) name n ⟨#[]⟩ [] W := by unfold e_ok; rw [ek, en, et4, et5, eth]
          have eb9 : e_b9 s W = !okE (a0.toNat : Int) (mkB rest) name n ⟨#[]⟩ [] W := by
            unfold e_b9 e_b8
            rw [eok, et6, et5]
            simp [ByteArray.size]
          rw [eb9, ek, et5, et4, en, eth]
          simp only
          cases ho : okE (a0.toNat : Int) (mkB rest) name n ⟨#[]⟩ [] W with
          | false => simp
          | true => rw [if_neg (by simp), if_pos (by simp; exact hpos _ ho rfl)]
        · have hno : okE (a0.toNat : Int) (mkB rest) name n ⟨#[]⟩ [] W = false := by
            cases ho : okE (a0.toNat : Int) (mkB rest) name n ⟨#[]⟩ [] W with
            | false => rfl
            | true =>
              have := okE_sum ho
              rw [hu] at this
              unfold sumOk at this
              rw [if_pos rfl, mkB_size] at this
              simp at this
              omega
          have hb : e_b9 s W = true := by
            unfold e_b9 e_b8
            rw [et6, et5]
            by_cases hl : rest.length < W
            · rw [takeR_short rest _ (by omega)]
              simp
            · rw [takeR_mk rest W (by omega)]
              have : (mkB (rest.drop W)).size ≠ 0 := by rw [mkB_size]; simp; omega
              simp [this]
          rw [if_pos hb, if_neg (by rw [hno]; simp)]
      | false =>
        have es : uSum (e_k s wd) = false := by rw [ek]; unfold uSum; rw [hk, Int.toNat_natCast, hu]; rfl
        have et5 : e_t5 s wd = (⟨#[]⟩, mkB rest, false) := by unfold e_t5; rw [if_neg (by rw [es]; decide), et4]
        by_cases hsz : rest.length = 0
        · have hr0 : mkB rest = ⟨#[]⟩ := mkB_nil_of (by rw [mkB_size]; exact hsz)
          have eok : e_ok s wd = okE (a0.toNat : Int) (mkB rest) name n ⟨#[]⟩ [] wd := by unfold e_ok; rw [ek, en, et4, et5, eth, hr0]
          have eb9 : e_b9 s wd = !okE (a0.toNat : Int) (mkB rest) name n ⟨#[]⟩ [] wd := by
            unfold e_b9 e_b8
            rw [eok, et6, et5]
            simp [mkB_size, hsz]
          rw [eb9, ek, et5, et4, en, eth]
          simp only
          cases ho : okE (a0.toNat : Int) (mkB rest) name n ⟨#[]⟩ [] wd with
          | false => simp
          | true => rw [if_neg (by simp), if_pos (by simp; exact hpos _ ho rfl), hr0]
        · have hno : okE (a0.toNat : Int) (mkB rest) name n ⟨#[]⟩ [] wd = false := by
            cases ho : okE (a0.toNat : Int) (mkB rest) name n ⟨#[]⟩ [] wd with
            | false => rfl
            | true =>
              have := okE_sum ho
              rw [hu] at this
              unfold sumOk at this
              rw [if_neg (by decide), mkB_size] at this
              simp at this
              simp [this] at hsz
          have hb : e_b9 s wd = true := by
            unfold e_b9 e_b8
            rw [et6, et5]
            have : (mkB rest).size ≠ 0 := by rw [mkB_size]; exact hsz
            simp [this]
          rw [if_pos hb, if_neg (by rw [hno]; simp)]

end Go.Proofs.YtdecihmplkgfkaaDoor
