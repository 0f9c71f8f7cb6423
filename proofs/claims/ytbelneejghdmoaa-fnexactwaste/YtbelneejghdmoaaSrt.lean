/-
  spec.l1Sorted: texts in order, each once.
-/
import Derived.Test.YtbelneejghdmoaaSteps
import Derived.Test.YtbelneejghdmoaaMarkS
import Derived.Test.YtbelneejghdmoaaThing
import Derived.Deep.QuietTactic
import Derived.BigQuiet
import Derived.Deep.DeepCutAuto
namespace Go.Proofs.Ytbelneejghdmoaa
open Go.ChangeShapes Go.WideShapes Go.ChangeAt Go.RowKit

/-- One text ahead of another. -/
def ltB (a b : ByteArray) : Bool := Op.bytesLess a.toList b.toList

/-- Where a text has its place. -/
def posS : List ByteArray → ByteArray → Nat
  | [], _ => 0
  | y :: l, x => if ltB y x = true then posS l x + 1 else 0

theorem posS_le (l : List ByteArray) (x : ByteArray) : posS l x ≤ l.length := by
  induction l with
  | nil => simp [posS]
  | cons y l ih => unfold posS; split <;> simp; omega

theorem posS_eq {l : List ByteArray} {x : ByteArray} {j : Nat} (h : ∀ i y, i < j → l[i]? = some y → ltB y x = true) (hj : ∀ y, l[j]? = some y → ltB y x = false) (hl : j ≤ l.length) : posS l x = j := by
  induction l generalizing j with
  | nil => simp at hl; simp [posS, hl]
  | cons y l ih =>
    unfold posS
    cases j with
    | zero => rw [if_neg (by rw [hj y rfl]; decide)]
    | succ j =>
      rw [if_pos (h 0 y (by omega) rfl), ih (j := j) (fun i z hi hz => h (i + 1) z (by omega) (by simpa using hz)) (fun z hz => hj z (by simpa using hz)) (by simpa using hl)]

/-- A text into a list in order, once. -/
def insS (l : List ByteArray) (x : ByteArray) : List ByteArray := if l[posS l x]? = some x then l else l.take (posS l x) ++ [x] ++ l.drop (posS l x)

def sortS (ss : List ByteArray) : List ByteArray := ss.foldl insS []

theorem insS_length (l : List ByteArray) (x : ByteArray) : (insS l x).length ≤ l.length + 1 := by
  unfold insS
  split
  · omega
  · have := posS_le l x
    simp
    omega

theorem insS_mem {l : List ByteArray} {x y : ByteArray} (h : y ∈ insS l x) : y ∈ l ∨ y = x := by
  unfold insS at h
  split at h
  · exact .inl h
  · simp only [List.mem_append, List.mem_singleton] at h
    rcases h with (h | h) | h
    · exact .inl (List.mem_of_mem_take h)
    · exact .inr h
    · exact .inl (List.mem_of_mem_drop h)

theorem sort_go (ss : List ByteArray) : ∀ acc : List ByteArray, (ss.foldl insS acc).length ≤ acc.length + ss.length ∧ ∀ y ∈ ss.foldl insS acc, y ∈ acc ∨ y ∈ ss := by
  induction ss with
  | nil => intro acc; exact ⟨by simp, fun y hy => .inl hy⟩
  | cons x ss ih =>
    intro acc
    obtain ⟨h1, h2⟩ := ih (insS acc x)
    have := insS_length acc x
    refine ⟨by simp only [List.foldl_cons, List.length_cons]; omega, fun y hy => ?_⟩
    rcases h2 y hy with h | h
    · rcases insS_mem h with h | h
      · exact .inl h
      · exact .inr (by simp [h])
    · exact .inr (by simp [h])

theorem sortS_length (ss : List ByteArray) : (sortS ss).length ≤ ss.length := by simpa [sortS] using (sort_go ss []).1
theorem sortS_mem {ss : List ByteArray} {y : ByteArray} (h : y ∈ sortS ss) : y ∈ ss := by
  rcases (sort_go ss []).2 y h with h | h
  · cases h
  · exact h

theorem sortS_snoc {ss : List ByteArray} {k : Nat} {x : ByteArray} (h : ss[k]? = some x) : sortS (ss.take (k + 1)) = insS (sortS (ss.take k)) x := by
  obtain ⟨hk, rfl⟩ := List.getElem?_eq_some_iff.1 h
  unfold sortS
  rw [List.take_succ_eq_append_getElem hk, List.foldl_append]
  rfl

set_option maxRecDepth 20000 in
set_option maxHeartbeats 8000000 in
theorem sorted_any (a : Option Addr) (cap : Nat) (ss : List ByteArray) (w : World) (hr : SRow w w.heap.size a ss) (hl : ss.length ≤ 100000) :
    Calls Try.prog 101 #[.slice a ss.length cap] w fun e w' => ∃ g c, e = .returned (.slice (some ⟨g, 0, none⟩) (sortS ss).length c) ∧
      w'.ownsRow w.heap.size 9 1 (.slice (some ⟨g, 0, none⟩) (sortS ss).length c) (sortS ss).length ((sortS ss).map Value.string) ∧ Below w.heap.size w w' := by
  obtain ⟨i0, hi, hz0, hz1, hz2⟩ := info_parts Try.infoStr
  have HRW : Hid _ := hr
  clear hr
  have hAl : Below w.heap.size w (w.alloc (.cells #[] 9)) := (Below.refl _ _).alloc (Nat.le_refl _) _
  have oA : (w.alloc (.cells #[] 9)).ownsRow w.heap.size 9 1 (.slice (some ⟨w.heap.size, 0, none⟩) 0 0) 0 (([] : List ByteArray).map Value.string) := World.ownsRow_lit w #[] 0 (Nat.le_refl _) (by unfold maxLen; omega) rfl
  have HOA : Hid _ := And.intro hAl oA
  clear hAl oA
  go_enter Try.func101, Try.ntmps101
  go_wp2
  go_loopw [3, 4] (fun v i wr => ∃ (k g c : Nat), k ≤ ss.length ∧ i = .int .i64 k ∧ v = .slice (some ⟨g, 0, none⟩) (sortS (ss.take k)).length c ∧ Hid (wr.ownsRow w.heap.size 9 1 (.slice (some ⟨g, 0, none⟩) (sortS (ss.take k)).length c) (sortS (ss.take k)).length ((sortS (ss.take k)).map Value.string)) ∧ Hid (Below w.heap.size w wr)) (fun _ i _ => ss.length - (intOf i).toNat)
  case atStart => exact ⟨0, w.heap.size, 0, Nat.zero_le _, rfl, rfl, HOA.out.2, HOA.out.1⟩
  case round =>
    obtain ⟨k, g, c, hk, rfl, rfl, HO, HB⟩ := hrel
    by_cases hlt : k < ss.length
    · have HG : Hid (ss[k]? = some ss[k]) := List.getElem?_eq_getElem hlt
      obtain ⟨ba, oa, ha, hba, hca⟩ := (SRow.below HRW.out HB.out).at hlt
      subst ha
      have cx := hca k _ HG.out
      have HS : Hid _ := sortS_snoc HG.out
      have hlen : (sortS (ss.take k)).length ≤ k := by have := sortS_length (ss.take k); simp at this; omega
      have hwb := HB.out.size
      have hba2 : ba < wr.heap.size := by omega
      generalize ss[k] = x at *
      generalize hO : sortS (ss.take k) = O at *
      have hgl := (HO.out.lt g rfl).2
      have hgb := (HO.out.lt g rfl).1
      have HOc : Hid (∀ j y, O[j]? = some y → wr.cell? ⟨g, j, none⟩ = some (.string y)) := by
        intro j y hy
        have := SRow.own HO.out
        rcases this with h | ⟨b', off, e1, _, h3⟩
        · subst h; simp at hy
        · cases e1
          simpa using h3 j y hy
      clear hca
      go_wp2
      go_loopw [5] (fun v wr' => ∃ j : Nat, j ≤ O.length ∧ v = .int .i64 j ∧ (∃ nq, wr' = wr.drewN nq) ∧ Hid (∀ i y, i < j → O[i]? = some y → ltB y x = true)) (fun v _ => O.length - (intOf v).toNat)
      case atStart => exact ⟨0, Nat.zero_le _, rfl, ⟨0, rfl⟩, fun i y h => by omega⟩
      case round =>
        obtain ⟨j, hj, rfl, ⟨nq, rfl⟩, HJ⟩ := hrel
        by_cases hjl : j < O.length
        · have HY : Hid (O[j]? = some O[j]) := List.getElem?_eq_getElem hjl
          have cy := HOc.out j _ HY.out
          generalize O[j] = y at *
          have d1 : decide ((j : Int) < (O.length : Int)) = true := by simp; omega
          cases hb : ltB y x with
          | true =>
            have hb' : Op.bytesLess y.toList x.toList = true := hb
            have HNX : Hid (∀ i z, i < j + 1 → O[i]? = some z → ltB z x = true) := by
              intro i z hi hz
              rcases Nat.lt_or_ge i j with h | h
              · exact HJ.out i z h hz
              · obtain rfl : i = j := by omega
                rw [HY.out] at hz
                cases hz
                exact hb
            clear hb
            go_upto_region 6 with fail
            go_quiet (fail)
            go_wp2
            exact ⟨⟨j + 1, by omega, by go_num, ⟨_, rfl⟩, HNX⟩, by simp [intOf]; omega⟩
          | false =>
            have hb' : Op.bytesLess y.toList x.toList = false := hb
            have HNL : Hid (∀ z, O[j]? = some z → ltB z x = false) := by
              intro z hz
              rw [HY.out] at hz
              cases hz
              exact hb
            clear hb
            go_upto_region 6 with fail
            go_quiet (fail)
            by_cases hyx : y = x
            · have HE : Hid (sortS (ss.take (k + 1)) = O) := by
                show _ = _
                rw [HS.out]
                unfold insS
                rw [posS_eq HJ.out HNL.out hj, if_pos (by rw [HY.out, hyx])]
              subst hyx
              go_upto_region 8 with fail
              go_quiet (fail)
              go_wp2
              refine ⟨⟨k + 1, g, c, by omega, by go_num, by rw [HE.out], ?_, ?_⟩, by simp [intOf]; omega⟩
              · rw [HE.out]
                exact HO.out.kept (grown_below none (belowN (Below.refl _ _) _)) (Classical.em _)
              · exact belowN HB.out _
            · have HNE : Hid (¬ O[j]? = some x) := by
                show ¬ _
                rw [HY.out]
                intro e
                cases e
                exact hyx rfl
              have e1 : (y.toList == x.toList) = false := by
                rw [beq_eq_false_iff_ne]
                intro h
                rw [ByteArray.toList_eq, ByteArray.toList_eq] at h
                exact hyx (ByteArray.ext (Array.toList_inj.1 h))
              clear hyx
              go_upto_region 8 with fail
              go_quiet (fail)
              go_upto_region 9 with fail
              have HP : Hid (posS O x = j) := posS_eq HJ.out HNL.out hj
              have HE : Hid (sortS (ss.take (k + 1)) = O.take j ++ [x] ++ O.drop j) := by
                show _ = _
                rw [HS.out]
                unfold insS
                rw [HP.out, if_neg HNE.out]
              generalize hW : (((wr.drewN _).drewN _).drewN _) = W
              have HBW : Hid (Below wr.heap.size wr W) := by rw [← hW]; exact belowN (belowN (belowN (Below.refl _ _) _) _) _
              have HWW : Hid (Below w.heap.size w W) := HB.out.trans (HBW.out.mono HB.out.size)
              have HOW : Hid (W.ownsRow w.heap.size 9 1 (.slice (some ⟨g, 0, none⟩) O.length c) O.length (O.map Value.string)) := HO.out.kept (grown_below none HBW.out) (Classical.em _)
              have hzW : wr.heap.size ≤ W.heap.size := HBW.out.size
              have hgW : g < W.heap.size := by omega
              have hbW : ba < W.heap.size := by omega
              have cxW : W.cell? ⟨ba, oa + k, none⟩ = some (.string x) := (HBW.out.cell (p := ⟨ba, oa + k, none⟩) hba2).trans cx
              have HcW : Hid (∀ i y, O[i]? = some y → W.cell? ⟨g, i, none⟩ = some (.string y)) := fun i y hy => (HBW.out.cell (p := ⟨g, i, none⟩) hgl).trans (HOc.out i y hy)
              have HCap : Hid (O.length ≤ c) := by
                rcases HOW.out.2 with ⟨hv, _⟩ | ⟨_, _, _, hv, _, _, hcap, _⟩
                · cases hv
                · cases hv; exact hcap
              have hcap : O.length ≤ c := HCap.out
              have hcj : ¬ c = j := by omega
              clear hW cx
              go_wp2_with (first
                | (at_builtin; refine wpList_append_own_at _ rfl _ _ 38 rfl w.heap.size 9 i0 (.string ⟨#[]⟩) 1 16 Try.underlying38 hi hz0 hz1 hz2 rfl (by decide) _ 0 [] rfl ?d0 ⟨g, 0, none⟩ j c ((O.take j).map Value.string) rfl ?dl ?d1 ?d2 ?d3 ?d4 ?d5 ?_))
              case d0 => exact World.ownsRow_lit W #[] 0 (by omega) (by unfold maxLen; omega) rfl
              case dl => first | (simp; done) | (simp; omega)
              case d1 =>
                intro i u hu
                rw [List.getElem?_map] at hu
                cases hs : (O.take j)[i]? with
                | none => rw [hs] at hu; cases hu
                | some y =>
                  rw [hs] at hu
                  cases hu
                  have hy : O[i]? = some y := by
                    rw [List.getElem?_take] at hs
                    split at hs
                    · exact hs
                    · cases hs
                  have := HcW.out i y hy
                  rw [Go.WideShapes.add_plain, Nat.zero_add]
                  exact (((Below.refl W.heap.size W).alloc (Nat.le_refl _) _).cell (p := ⟨g, i, none⟩) hgW).trans this
              case d2 => intro u hu; obtain ⟨s, _, rfl⟩ := List.mem_map.1 hu; rfl
              case d3 => unfold maxLen; omega
              case d4 => omega
              case d5 => simp; omega
              intro v' V hown' hgrow hnil hat
              obtain ⟨g', c', hv'⟩ : ∃ g' c', v' = .slice (some ⟨g', 0, none⟩) j c' := by
                rcases Joins.ownsRow_forms hown' with ⟨e1, _⟩ | hf
                · exact (hnil e1).elim
                · exact hf
              subst hv'
              try simp only [Nat.zero_add, List.nil_append] at hown'
              have hVW : Below W.heap.size W V := ((Below.refl W.heap.size W).alloc (Nat.le_refl _) _).grown hgrow (by simp) (fun i hi => by simp [Value.ownBlock] at hi; omega)
              have hzV : W.heap.size ≤ V.heap.size := hVW.size
              have cxV : V.cell? ⟨ba, oa + k, none⟩ = some (.string x) := (hVW.cell (p := ⟨ba, oa + k, none⟩) hbW).trans cxW
              have HcV : Hid (∀ i y, O[i]? = some y → V.cell? ⟨g, i, none⟩ = some (.string y)) := fun i y hy => (hVW.cell (p := ⟨g, i, none⟩) hgW).trans (HcW.out i y hy)
              have HVW : Hid _ := hVW
              have hov : V.ownsRow w.heap.size 9 1 (.slice (some ⟨g', 0, none⟩) j c') j ((O.take j).map Value.string) := by
                first | exact hown' | (rw [List.map_take]; exact hown') | (rw [List.take_length]; exact hown')
              have HOV : Hid (V.ownsRow w.heap.size 9 1 (.slice (some ⟨g', 0, none⟩) j c') j ((O.take j).map Value.string)) := hov
              clear hov
              have hgV := hown'.lt g' rfl
              have HAT : Hid _ := hat
              clear hown' hgrow hnil hVW cxW hat
              try simp only [Nat.zero_add]
              go_upto_region 10 with fail
              have hAV : Below V.heap.size V (V.alloc (.cells #[.string x] 9)) := (Below.refl _ _).alloc (Nat.le_refl _) _
              have o57 : (V.alloc (.cells #[.string x] 9)).drew.ownsRow w.heap.size 9 1 (.slice (some ⟨g', 0, none⟩) j c') j ((O.take j).map Value.string) := HOV.out.kept (grown_below none hAV.drew) (Classical.em _)
              have n57 : ∀ A, (some ⟨V.heap.size, 0, none⟩ : Option Addr) = some A → ∀ i s, [x][i]? = some s → (V.alloc (.cells #[.string x] 9)).drew.cell? (A.add i) = some (.string s) := by
                intro A e i s hs
                injection e with e
                subst e
                cases i with
                | zero => simp at hs; subst hs; simp [Addr.add]
                | succ i => simp at hs
              have hLd : (O.drop j).length = O.length - j := by simp
              have hLt : (O.take j).length = j := by simp <;> omega
              have hwV : w.heap.size ≤ V.heap.size := by omega
              have hwV2 : w.heap.size ≤ (V.alloc (.cells #[.string x] 9)).drew.heap.size := by simp; omega
              have hgb' : w.heap.size ≤ g' := hgV.1
              have hgg : g < g' := by
                rcases HAT.out with h | h <;> simp [Value.ownBlock] at h <;> omega
              have hgl' : g' < V.heap.size := hgV.2
              have c61 : ∀ w5 : World, (V.alloc (.cells #[.string x] 9)).drew.grownBy w5 (some g') → ∀ A, (some ⟨g, j, none⟩ : Option Addr) = some A → ∀ i s, (O.drop j)[i]? = some s → w5.cell? (A.add i) = some (.string s) := by
                intro w5 hg5 A e i s hs
                injection e with e
                subst e
                rw [List.getElem?_drop] at hs
                have hc := HcV.out _ _ hs
                rw [Go.WideShapes.add_plain]
                refine (hg5.cell_far ⟨g, j + i, none⟩ (by simp; omega) (fun e => by have := Option.some.inj e; simp at this; omega)).trans ?_
                exact (hAV.drew.cell (p := ⟨g, j + i, none⟩) (by simp; omega)).trans hc
              go_region_law (first
                | (refine step_append_rowO (V.alloc (.cells #[.string x] 9)).drew rfl (.tmp 51) (.tmp 56) 38 rfl w.heap.size 9 i0 (.string ⟨#[]⟩) 16 Try.underlying38 hi hz0 hz1 hz2 rfl g' j c' (O.take j) rfl o57 (some ⟨V.heap.size, 0, none⟩) 1 1 [x] rfl rfl (fun e => by cases e) n57 (by unfold maxLen; omega) (by omega) (by simp; omega) ?_; intro k5 cap5 w5 ho5 hg5 hat5 hlt5; have z5 : w.heap.size ≤ w5.heap.size := Nat.le_trans hwV2 hg5.size; have tag5 := hlt5)
                | (have tagged := tag5; refine step_append_rowO w5 rfl (.tmp 57) (.tmp 60) 38 rfl w.heap.size 9 i0 (.string ⟨#[]⟩) 16 Try.underlying38 hi hz0 hz1 hz2 rfl k5 (j + 1) cap5 (O.take j ++ [x]) rfl ho5 (some ⟨g, j, none⟩) (O.length - j) (c - j) (O.drop j) rfl hLd (fun e => by cases e) (c61 w5 hg5) (by unfold maxLen; omega) (by omega) z5 ?_; intro k6 cap6 w6 ho6 hg6 hat6 hlt6))
              all_goals
                have hk5 : w.heap.size ≤ k5 := (ho5.lt k5 rfl).1
                have b5 : Below w.heap.size V w5 := (hAV.drew.mono hwV).grown hg5 hwV2 (fun i e => by cases e; exact hgb')
                have b6 : Below w.heap.size V w6 := b5.grown hg6 z5 (fun i e => by cases e; exact hk5)
                have HF : Hid (Below w.heap.size w w6) := (HWW.out.trans (HVW.out.mono (by have := HWW.out.size; omega))).trans (b6.mono (Nat.le_refl _))
                have hLn : (O.take j ++ [x] ++ O.drop j).length = j + 1 + (O.length - j) := by simp <;> omega
                have HN : Hid (w6.ownsRow w.heap.size 9 1 (.slice (some ⟨k6, 0, none⟩) (O.take j ++ [x] ++ O.drop j).length cap6) (O.take j ++ [x] ++ O.drop j).length ((O.take j ++ [x] ++ O.drop j).map Value.string)) := by rw [hLn]; exact ho6
                have HLn : Hid _ := hLn
                clear ho6 hg6 hat6 ho5 hg5 hat5 hLn o57 n57 c61 b5 b6 hAV
                go_wp2
                refine ⟨⟨k + 1, k6, cap6, by omega, by go_num, by rw [HE.out, HLn.out], ?_, HF.out⟩, by simp [intOf]; omega⟩
                rw [HE.out]
                exact HN.out
        · obtain rfl : j = O.length := by omega
          have d1 : decide ((O.length : Int) < (O.length : Int)) = false := by simp
          have HNL : Hid (∀ z, O[O.length]? = some z → ltB z x = false) := by
            intro z hz
            simp at hz
          have HNE : Hid (¬ O[O.length]? = some x) := by
            show ¬ _
            simp
          go_upto_region 6 with fail
          go_quiet (fail)
          go_upto_region 8 with fail
          go_quiet (fail)
          go_upto_region 9 with fail
          have HP : Hid (posS O x = O.length) := posS_eq HJ.out HNL.out hj
          have HE : Hid (sortS (ss.take (k + 1)) = O.take O.length ++ [x] ++ O.drop O.length) := by
            show _ = _
            rw [HS.out]
            unfold insS
            rw [HP.out, if_neg HNE.out]
          generalize hW : (((wr.drewN _).drewN _).drewN _) = W
          have HBW : Hid (Below wr.heap.size wr W) := by rw [← hW]; exact belowN (belowN (belowN (Below.refl _ _) _) _) _
          have HWW : Hid (Below w.heap.size w W) := HB.out.trans (HBW.out.mono HB.out.size)
          have HOW : Hid (W.ownsRow w.heap.size 9 1 (.slice (some ⟨g, 0, none⟩) O.length c) O.length (O.map Value.string)) := HO.out.kept (grown_below none HBW.out) (Classical.em _)
          have hzW : wr.heap.size ≤ W.heap.size := HBW.out.size
          have hgW : g < W.heap.size := by omega
          have hbW : ba < W.heap.size := by omega
          have cxW : W.cell? ⟨ba, oa + k, none⟩ = some (.string x) := (HBW.out.cell (p := ⟨ba, oa + k, none⟩) hba2).trans cx
          have HcW : Hid (∀ i y, O[i]? = some y → W.cell? ⟨g, i, none⟩ = some (.string y)) := fun i y hy => (HBW.out.cell (p := ⟨g, i, none⟩) hgl).trans (HOc.out i y hy)
          have HCap : Hid (O.length ≤ c) := by
            rcases HOW.out.2 with ⟨hv, _⟩ | ⟨_, _, _, hv, _, _, hcap, _⟩
            · cases hv
            · cases hv; exact hcap
          have hcap : O.length ≤ c := HCap.out
          clear hW cx
          go_wp2_with (first
            | (at_builtin; refine wpList_append_own_at _ rfl _ _ 38 rfl w.heap.size 9 i0 (.string ⟨#[]⟩) 1 16 Try.underlying38 hi hz0 hz1 hz2 rfl (by decide) _ 0 [] rfl ?d0 ⟨g, 0, none⟩ O.length c ((O.take O.length).map Value.string) rfl ?dl ?d1 ?d2 ?d3 ?d4 ?d5 ?_))
          case d0 => exact World.ownsRow_lit W #[] 0 (by omega) (by unfold maxLen; omega) rfl
          case dl => first | (simp; done) | (simp; omega)
          case d1 =>
            intro i u hu
            rw [List.getElem?_map] at hu
            cases hs : (O.take O.length)[i]? with
            | none => rw [hs] at hu; cases hu
            | some y =>
              rw [hs] at hu
              cases hu
              have hy : O[i]? = some y := by
                rw [List.getElem?_take] at hs
                split at hs
                · exact hs
                · cases hs
              have := HcW.out i y hy
              rw [Go.WideShapes.add_plain, Nat.zero_add]
              exact (((Below.refl W.heap.size W).alloc (Nat.le_refl _) _).cell (p := ⟨g, i, none⟩) hgW).trans this
          case d2 => intro u hu; obtain ⟨s, _, rfl⟩ := List.mem_map.1 hu; rfl
          case d3 => unfold maxLen; omega
          case d4 => omega
          case d5 => simp; omega
          intro v' V hown' hgrow hnil hat
          obtain ⟨g', c', hv'⟩ : ∃ g' c', v' = .slice (some ⟨g', 0, none⟩) O.length c' := by
            rcases Joins.ownsRow_forms hown' with ⟨e1, _⟩ | hf
            · exact (hnil e1).elim
            · exact hf
          subst hv'
          try simp only [Nat.zero_add, List.nil_append] at hown'
          have hVW : Below W.heap.size W V := ((Below.refl W.heap.size W).alloc (Nat.le_refl _) _).grown hgrow (by simp) (fun i hi => by simp [Value.ownBlock] at hi; omega)
          have hzV : W.heap.size ≤ V.heap.size := hVW.size
          have cxV : V.cell? ⟨ba, oa + k, none⟩ = some (.string x) := (hVW.cell (p := ⟨ba, oa + k, none⟩) hbW).trans cxW
          have HcV : Hid (∀ i y, O[i]? = some y → V.cell? ⟨g, i, none⟩ = some (.string y)) := fun i y hy => (hVW.cell (p := ⟨g, i, none⟩) hgW).trans (HcW.out i y hy)
          have HVW : Hid _ := hVW
          have hov : V.ownsRow w.heap.size 9 1 (.slice (some ⟨g', 0, none⟩) O.length c') O.length ((O.take O.length).map Value.string) := by
            first | exact hown' | (rw [List.map_take]; exact hown') | (rw [List.take_length]; exact hown')
          have HOV : Hid (V.ownsRow w.heap.size 9 1 (.slice (some ⟨g', 0, none⟩) O.length c') O.length ((O.take O.length).map Value.string)) := hov
          clear hov
          have hgV := hown'.lt g' rfl
          have HAT : Hid _ := hat
          clear hown' hgrow hnil hVW cxW hat
          try simp only [Nat.zero_add]
          go_upto_region 10 with fail
          have hAV : Below V.heap.size V (V.alloc (.cells #[.string x] 9)) := (Below.refl _ _).alloc (Nat.le_refl _) _
          have o57 : (V.alloc (.cells #[.string x] 9)).drew.ownsRow w.heap.size 9 1 (.slice (some ⟨g', 0, none⟩) O.length c') O.length ((O.take O.length).map Value.string) := HOV.out.kept (grown_below none hAV.drew) (Classical.em _)
          have n57 : ∀ A, (some ⟨V.heap.size, 0, none⟩ : Option Addr) = some A → ∀ i s, [x][i]? = some s → (V.alloc (.cells #[.string x] 9)).drew.cell? (A.add i) = some (.string s) := by
            intro A e i s hs
            injection e with e
            subst e
            cases i with
            | zero => simp at hs; subst hs; simp [Addr.add]
            | succ i => simp at hs
          have hLd : (O.drop O.length).length = 0 := by simp
          have nn61 : (if c = O.length then some ⟨g, 0, none⟩ else some ⟨g, O.length, none⟩ : Option Addr) = none → (0 : Nat) = 0 ∧ c - O.length = 0 := by
            intro e
            split at e <;> cases e
          have hLt : (O.take O.length).length = O.length := by simp <;> omega
          have hwV : w.heap.size ≤ V.heap.size := by omega
          have hwV2 : w.heap.size ≤ (V.alloc (.cells #[.string x] 9)).drew.heap.size := by simp; omega
          have hgb' : w.heap.size ≤ g' := hgV.1
          have hgg : g < g' := by
            rcases HAT.out with h | h <;> simp [Value.ownBlock] at h <;> omega
          have hgl' : g' < V.heap.size := hgV.2
          have c61 : ∀ w5 : World, ∀ A, (if c = O.length then some ⟨g, 0, none⟩ else some ⟨g, O.length, none⟩ : Option Addr) = some A → ∀ i s, (O.drop O.length)[i]? = some s → w5.cell? (A.add i) = some (.string s) := by
            intro w5 A _ i s hs
            simp at hs
          go_region_law (first
            | (refine step_append_rowO (V.alloc (.cells #[.string x] 9)).drew rfl (.tmp 51) (.tmp 56) 38 rfl w.heap.size 9 i0 (.string ⟨#[]⟩) 16 Try.underlying38 hi hz0 hz1 hz2 rfl g' O.length c' (O.take O.length) rfl o57 (some ⟨V.heap.size, 0, none⟩) 1 1 [x] rfl rfl (fun e => by cases e) n57 (by unfold maxLen; omega) (by omega) (by simp; omega) ?_; intro k5 cap5 w5 ho5 hg5 hat5 hlt5; have z5 : w.heap.size ≤ w5.heap.size := Nat.le_trans hwV2 hg5.size; have tag5 := hlt5)
            | (have tagged := tag5; refine step_append_rowO w5 rfl (.tmp 57) (.tmp 60) 38 rfl w.heap.size 9 i0 (.string ⟨#[]⟩) 16 Try.underlying38 hi hz0 hz1 hz2 rfl k5 (O.length + 1) cap5 (O.take O.length ++ [x]) rfl ho5 (if c = O.length then some ⟨g, 0, none⟩ else some ⟨g, O.length, none⟩) 0 (c - O.length) (O.drop O.length) rfl hLd nn61 (c61 w5) (by unfold maxLen; omega) (by omega) z5 ?_; intro k6 cap6 w6 ho6 hg6 hat6 hlt6))
          all_goals
            have hk5 : w.heap.size ≤ k5 := (ho5.lt k5 rfl).1
            have b5 : Below w.heap.size V w5 := (hAV.drew.mono hwV).grown hg5 hwV2 (fun i e => by cases e; exact hgb')
            have b6 : Below w.heap.size V w6 := b5.grown hg6 z5 (fun i e => by cases e; exact hk5)
            have HF : Hid (Below w.heap.size w w6) := (HWW.out.trans (HVW.out.mono (by have := HWW.out.size; omega))).trans (b6.mono (Nat.le_refl _))
            have hLn : (O.take O.length ++ [x] ++ O.drop O.length).length = O.length + 1 + 0 := by simp <;> omega
            have HN : Hid (w6.ownsRow w.heap.size 9 1 (.slice (some ⟨k6, 0, none⟩) (O.take O.length ++ [x] ++ O.drop O.length).length cap6) (O.take O.length ++ [x] ++ O.drop O.length).length ((O.take O.length ++ [x] ++ O.drop O.length).map Value.string)) := by rw [hLn]; exact ho6
            have HLn : Hid _ := hLn
            clear ho6 hg6 hat6 ho5 hg5 hat5 hLn o57 n57 c61 b5 b6 hAV
            go_wp2
            refine ⟨⟨k + 1, k6, cap6, by omega, by go_num, by rw [HE.out, HLn.out], ?_, HF.out⟩, by simp [intOf]; omega⟩
            rw [HE.out]
            exact HN.out
    · have he : k = ss.length := by omega
      subst he
      rw [List.take_length] at HO ⊢
      go_wp2
      go_ret
      exact ⟨_, _, rfl, HO.out, HB.out⟩
end Go.Proofs.Ytbelneejghdmoaa
