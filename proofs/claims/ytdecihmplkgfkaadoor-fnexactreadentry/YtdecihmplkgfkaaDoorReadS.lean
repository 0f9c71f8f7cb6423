/-
  spec.ReadThing.
-/
import Derived.Test.YtdecihmplkgfkaaDoorReadT
namespace Go.Proofs.YtdecihmplkgfkaaDoor
open Go.ChangeShapes Go.WideShapes Go.ChangeAt Go.RowKit

theorem ext1 (s : ByteArray) (a b : Nat) (hb : b ≤ s.size - 1) (h0 : 0 < s.size) : (s.extract 1 s.size).extract a b = s.extract (1 + a) (1 + b) := by
  rw [ByteArray.extract_extract]
  congr 1
  omega

theorem refS_eq {s : ByteArray} {wd : Int} {k : Nat} (h0 : 0 < s.size) (m1 : 0 ≤ (k : Int) * wd) (h1 : 1 ≤ wd) (m4 : (k : Int) * wd + wd ≤ s.size - 1) : s.extract (1 + (k : Int) * wd).toNat (1 + (k : Int) * wd + wd).toNat = refI s wd k := by
  unfold refI
  rw [ext1 s _ _ (by omega) h0, show (1 + (k : Int) * wd).toNat = 1 + ((k : Int) * wd).toNat from by omega, show (1 + (k : Int) * wd + wd).toNat = 1 + ((k : Int) * wd + wd).toNat from by omega]

theorem txtS_eq {s : ByteArray} {wd : Int} {n : Nat} (h0 : 0 < s.size) (m1 : 0 ≤ (n : Int) * wd) : s.extract (1 + (n : Int) * wd).toNat s.size = txtI s wd n := by
  unfold txtI
  rw [ext1 s _ _ (by omega) h0, show (1 + (n : Int) * wd).toNat = 1 + ((n : Int) * wd).toNat from by omega, show 1 + (s.size - 1) = s.size from by omega]

set_option maxRecDepth 20000 in
set_option maxHeartbeats 1000000 in
theorem sRead_yes (s : ByteArray) (wd : Int) (n : Nat) (w : World) (hs : s.size ≤ 1048576) (h1 : 1 ≤ wd) (h2 : wd ≤ 8) (h0 : 0 < s.size) (hn0 : s[0].toNat = n) (hfit : (n : Int) * wd ≤ s.size - 1) :
    Calls Tryd.prog 32 #[.string s, .int .i64 wd] w fun e w' =>
      (okThing (txtI s wd n) (refsI s wd n) wd = true → ∃ v, e = .returned (.tuple #[.agg #[.string (txtI s wd n), v], .bool true]) ∧ w'.ownsRow w.heap.size 9 1 v n ((refsI s wd n).map Value.string)) ∧
      (okThing (txtI s wd n) (refsI s wd n) wd = false → e = .returned (.tuple #[.agg #[.string ⟨#[]⟩, .slice none 0 0], .bool false])) ∧ Below w.heap.size w w' := by
  obtain ⟨i0, hi, hz0, hz1, hz2⟩ := info_parts Tryd.infoStr
  have hlt0 : (0 : Int) < s.size := by omega
  have hsz0 : ((s.size : Int) == 0) = false := beq_eq_false_iff_ne.2 (by omega)
  have hn : n < 256 := by rw [← hn0]; exact s[0].toNat_lt
  have htop := mul_top hn h1 h2
  have hwb := wrap64_byte s[0]
  rw [hn0] at hwb
  go_enter Tryd.func32, Tryd.ntmps32
  go_wp2
  obtain ⟨txt, htxt⟩ : ∃ txt, txt = txtI s wd n := ⟨_, rfl⟩
  rw [txtS_eq h0 htop.1, ← htxt]
  have HTX : Hid _ := htxt
  clear htxt
  go_loopw [8] (fun i wr => ∃ (k : Nat) (v : Value), k ≤ n ∧ i = .int .i64 k ∧ wr.cell? ⟨w.heap.size + 1, 0, none⟩ = some (.string txt) ∧ wr.cell? ⟨w.heap.size + 1, 1, none⟩ = some v ∧ wr.frozen? ⟨w.heap.size + 1, 1, none⟩ = false ∧
      wr.ownsRow (w.heap.size + 2) 9 1 v k ((refsI s wd k).map Value.string) ∧ Below (w.heap.size + 1) (w.alloc (Obj.cells #[Value.string ⟨#[]⟩, Value.slice none 0 0] 29)) wr) (fun i _ => n - (intOf i).toNat)
  case atStart => exact ⟨0, .slice none 0 0, Nat.zero_le _, rfl, by simp [go_sem], by simp [go_sem], by simp [go_sem], World.ownsRow_nil _ _ _ _, (Below.refl _ _).alloc (by simp) _⟩
  case round =>
    obtain ⟨k, v, hk, rfl, hc0, hc1, hf1, hown, hbel⟩ := hrel
    have hsz := hbel.size
    simp at hsz
    by_cases hlt : k < n
    · obtain ⟨m1, m2, m3, m4⟩ := mul_bd h1 hlt
      have hlt' : (k : Int) < n := by omega
      have e1 := wrapI ((k : Int) * wd) (by omega) (by omega)
      have e2 := wrapI (1 + (k : Int) * wd) (by omega) (by omega)
      have e3 := wrapI (1 + (k : Int) * wd + wd) (by omega) (by omega)
      have b1 : (0 : Int) ≤ 1 + (k : Int) * wd := by omega
      have b2 : 1 + (k : Int) * wd ≤ 1 + (k : Int) * wd + wd := by omega
      have b3 : 1 + (k : Int) * wd + wd ≤ (s.size : Int) := by omega
      have href : Hid _ := refS_eq h0 m1 h1 (by omega : (k : Int) * wd + wd ≤ s.size - 1)
      have hne := own_ne hown (b := w.heap.size + 1) (by omega)
      have hTlt : w.heap.size + 1 < wr.heap.size := World.block_lt_of_cell? wr _ hc0
      clear m3
      go_wp2
      go_region_law (refine step_append_lies _ rfl (.tmp 45) (.tmp 58) 22 rfl (w.heap.size + 2) 9 i0 (.string ⟨#[]⟩) 1 16 Tryd.underlying22 hi hz0 hz1 hz2 rfl (by decide) v k ((refsI s wd k).map Value.string) rfl (World.ownsRow.alloc hown _) ⟨wr.heap.size, 0, none⟩ 1 1 [.string (s.extract (1 + (k : Int) * wd).toNat (1 + (k : Int) * wd + wd).toNat)] rfl rfl (cell_one_new wr (.string (s.extract (1 + (k : Int) * wd).toNat (1 + (k : Int) * wd + wd).toNat)) 9) (by simp [Value.oneCell']) (by decide) (by unfold maxLen; omega) (by omega) (by simp; omega) (wr.heap.size + 1) (by simp) ?_; intro g cap w1 hown' hgrow hat hltg; have hd0 := grow_cell hgrow hc0 hne; have hd1 := grow_cell hgrow hc1 hne; have hdf := (grow_frozen (p := ⟨w.heap.size + 1, 1, none⟩) hgrow (by simp; omega) hne).trans hf1)
      all_goals
        rw [href.out] at hown'
        have R := read_next hTlt hown hbel hown' hgrow hd0 hd1 hdf
        have HR : Hid _ := R
        clear R hown hbel hown' hgrow hd0 hc0 hc1 hf1
        go_wp2
        refine ⟨⟨_, _, _, _, _, _, _, _, _, _, _, _, _, _, _, _, _, _, _, _, _, _, _, ⟨k + 1, _, by omega, ?_, HR.out.1, HR.out.2.1, HR.out.2.2.1, HR.out.2.2.2.1, HR.out.2.2.2.2⟩, rfl⟩, ?_⟩
        · go_num
        · simp [intOf]; omega
    · obtain rfl : k = n := by omega
      have hTlt : w.heap.size + 1 < wr.heap.size := World.block_lt_of_cell? wr _ hc0
      obtain ⟨a, cap, hv, hrow⟩ := own_form (ss := refsI s wd k) (by rw [refsI_length]; exact hown)
      rw [refsI_length] at hv
      subst hv
      have hr0 : (wr.cell? ⟨w.heap.size, 0, none⟩) = some (.string ⟨#[]⟩) := by rw [hbel.cell (p := ⟨w.heap.size, 0, none⟩) (by simp)]; simp
      have hr1 : (wr.cell? ⟨w.heap.size, 1, none⟩) = some (.slice none 0 0) := by rw [hbel.cell (p := ⟨w.heap.size, 1, none⟩) (by simp)]; simp
      have hrf0 : wr.frozen? ⟨w.heap.size, 0, none⟩ = false := by rw [hbel.frozen (p := ⟨w.heap.size, 0, none⟩) (by simp)]; simp
      have hrf1 : wr.frozen? ⟨w.heap.size, 1, none⟩ = false := by rw [hbel.frozen (p := ⟨w.heap.size, 1, none⟩) (by simp)]; simp
      have hts : txt.size ≤ maxLen := by
        rw [HTX.out]
        simp [txtI, maxLen]
        omega
      have hcall := sThingOk_any txt a cap (refsI s wd k) wd wr hrow (by rw [refsI_length]; omega) hts
      rw [refsI_length] at hcall
      have hTlt0 : w.heap.size < wr.heap.size := by omega
      go_wp2_with fail
      refine hcall.mono ?_
      rintro e w2 ⟨rfl, hb2⟩
      have hB : Below w.heap.size w wr := ((Below.refl _ _).alloc (Nat.le_refl _) _).trans (hbel.mono (by omega))
      have hB2 := hB.trans (hb2.mono hB.size)
      have hown2 := hown.kept (row := none) ⟨hb2.os, hb2.tape, hb2.output, hb2.size, fun k hk _ => hb2.block k hk⟩ (by cases a <;> simp [Value.ownBlock])
      have hc0 : w2.cell? ⟨w.heap.size + 1, 0, none⟩ = some (.string txt) := (hb2.cell (p := ⟨w.heap.size + 1, 0, none⟩) hTlt).trans hc0
      have hc1 : w2.cell? ⟨w.heap.size + 1, 1, none⟩ = some (.slice a k cap) := (hb2.cell (p := ⟨w.heap.size + 1, 1, none⟩) hTlt).trans hc1
      have hr0 : w2.cell? ⟨w.heap.size, 0, none⟩ = some (.string ⟨#[]⟩) := (hb2.cell (p := ⟨w.heap.size, 0, none⟩) hTlt0).trans hr0
      have hr1 : w2.cell? ⟨w.heap.size, 1, none⟩ = some (.slice none 0 0) := (hb2.cell (p := ⟨w.heap.size, 1, none⟩) hTlt0).trans hr1
      have hrf0 : w2.frozen? ⟨w.heap.size, 0, none⟩ = false := (hb2.frozen (p := ⟨w.heap.size, 0, none⟩) hTlt0).trans hrf0
      have hrf1 : w2.frozen? ⟨w.heap.size, 1, none⟩ = false := (hb2.frozen (p := ⟨w.heap.size, 1, none⟩) hTlt0).trans hrf1
      cases hok : okThing txt (refsI s wd k) wd with
      | true =>
        clear hcall
        go_wp2
        refine bodyPost_ret (v := .tuple #[.agg #[.string txt, .slice a k cap], .bool true]) (by simp [results, Tryd.results32, go_sem, hr0, hr1]) rfl ⟨fun _ => ⟨.slice a k cap, ?_, ?_⟩, fun h => ?_, ?_⟩
        · rw [HTX.out]
        · exact (ownsRow_setCell_below (ownsRow_setCell_below hown2 (by simp) _) (by simp) _).mono (by omega)
        · rw [← HTX.out, hok] at h; cases h
        · exact (hB2.setCell (by simp) _).setCell (by simp) _
      | false =>
        clear hcall
        go_wp2
        refine bodyPost_ret (v := .tuple #[.agg #[.string ⟨#[]⟩, .slice none 0 0], .bool false]) (by simp [results, Tryd.results32, go_sem, hr0, hr1]) rfl ⟨fun h => ?_, fun _ => rfl, ?_⟩
        · rw [← HTX.out, hok] at h; cases h
        · exact (hB2.setCell (by simp) _).setCell (by simp) _

theorem sRead_no1 (s : ByteArray) (wd : Int) (w : World) (h : ¬ (1 ≤ wd ∧ wd ≤ 8)) :
    Calls Tryd.prog 32 #[.string s, .int .i64 wd] w (Nothing w) := by
  by_cases h1 : 1 ≤ wd
  · have h2 : decide (wd ≤ 8) = false := by simp; omega
    go_enter Tryd.func32, Tryd.ntmps32
    go_wp2
    exact bodyPost_ret (v := .tuple #[.agg #[.string ⟨#[]⟩, .slice none 0 0], .bool false]) (by simp [results, Tryd.results32, go_sem]) rfl ⟨rfl, (Below.refl _ _).alloc (Nat.le_refl _) _⟩
  · go_enter Tryd.func32, Tryd.ntmps32
    go_wp2
    exact bodyPost_ret (v := .tuple #[.agg #[.string ⟨#[]⟩, .slice none 0 0], .bool false]) (by simp [results, Tryd.results32, go_sem]) rfl ⟨rfl, (Below.refl _ _).alloc (Nat.le_refl _) _⟩

theorem sRead_no2 (s : ByteArray) (wd : Int) (w : World) (h1 : 1 ≤ wd) (h2 : wd ≤ 8) (h0 : s.size = 0) :
    Calls Tryd.prog 32 #[.string s, .int .i64 wd] w (Nothing w) := by
  have hsz0 : ((s.size : Int) == 0) = true := beq_iff_eq.2 (by omega)
  go_enter Tryd.func32, Tryd.ntmps32
  go_wp2
  exact bodyPost_ret (v := .tuple #[.agg #[.string ⟨#[]⟩, .slice none 0 0], .bool false]) (by simp [results, Tryd.results32, go_sem]) rfl ⟨rfl, (Below.refl _ _).alloc (Nat.le_refl _) _⟩

set_option maxHeartbeats 1000000 in
theorem sRead_no3 (s : ByteArray) (wd : Int) (n : Nat) (w : World) (hs : s.size ≤ 1048576) (h1 : 1 ≤ wd) (h2 : wd ≤ 8) (h0 : 0 < s.size) (hn0 : s[0].toNat = n) (hfit : (s.size : Int) - 1 < (n : Int) * wd) :
    Calls Tryd.prog 32 #[.string s, .int .i64 wd] w (Nothing w) := by
  have hlt0 : (0 : Int) < s.size := by omega
  have hsz0 : ((s.size : Int) == 0) = false := beq_eq_false_iff_ne.2 (by omega)
  have hn : n < 256 := by rw [← hn0]; exact s[0].toNat_lt
  have htop := mul_top hn h1 h2
  have hwb := wrap64_byte s[0]
  rw [hn0] at hwb
  go_enter Tryd.func32, Tryd.ntmps32
  go_wp2
  exact bodyPost_ret (v := .tuple #[.agg #[.string ⟨#[]⟩, .slice none 0 0], .bool false]) (by simp [results, Tryd.results32, go_sem]) rfl ⟨rfl, (Below.refl _ _).alloc (Nat.le_refl _) _⟩

/-- ReadThing's answer. -/
def rdN (s : ByteArray) (wd : Int) (n : Nat) : ByteArray × List ByteArray × Bool :=
  if (n : Int) * wd ≤ s.size - 1 ∧ okThing (txtI s wd n) (refsI s wd n) wd = true then (txtI s wd n, refsI s wd n, true) else (⟨#[]⟩, [], false)

def rd (s : ByteArray) (wd : Int) : ByteArray × List ByteArray × Bool :=
  if 1 ≤ wd ∧ wd ≤ 8 then
    match s.data.toList.head? with
    | none => (⟨#[]⟩, [], false)
    | some b => rdN s wd b.toNat
  else (⟨#[]⟩, [], false)

def ReadPost (s : ByteArray) (wd : Int) (w : World) (e : Ending) (w' : World) : Prop :=
  ∃ v, e = .returned (.tuple #[.agg #[.string (rd s wd).1, v], .bool (rd s wd).2.2]) ∧ w'.ownsRow w.heap.size 9 1 v (rd s wd).2.1.length ((rd s wd).2.1.map Value.string) ∧ Below w.heap.size w w'

theorem rd_head {s : ByteArray} (h0 : 0 < s.size) : s.data.toList.head? = some s[0] := by
  rw [List.head?_eq_getElem?, List.getElem?_eq_getElem (by simpa using h0)]
  rfl

theorem rd_le (s : ByteArray) (wd : Int) : (rd s wd).2.1.length ≤ 255 := by
  unfold rd
  split
  · split
    · simp
    · rename_i b _
      unfold rdN
      have := b.toNat_lt
      split
      · simp [refsI_length]; omega
      · simp
  · simp

theorem of_nothing {s : ByteArray} {wd : Int} {w : World} (h : rd s wd = (⟨#[]⟩, [], false)) : ∀ e w', Nothing w e w' → ReadPost s wd w e w' := by
  rintro e w' ⟨rfl, hb⟩
  unfold ReadPost
  rw [h]
  exact ⟨.slice none 0 0, rfl, World.ownsRow_nil _ _ _ _, hb⟩

theorem of_yes {s : ByteArray} {wd : Int} {n : Nat} {w : World} (hr : rd s wd = rdN s wd n) (hfit : (n : Int) * wd ≤ s.size - 1) : ∀ e w',
    ((okThing (txtI s wd n) (refsI s wd n) wd = true → ∃ v, e = .returned (.tuple #[.agg #[.string (txtI s wd n), v], .bool true]) ∧ w'.ownsRow w.heap.size 9 1 v n ((refsI s wd n).map Value.string)) ∧
      (okThing (txtI s wd n) (refsI s wd n) wd = false → e = .returned (.tuple #[.agg #[.string ⟨#[]⟩, .slice none 0 0], .bool false])) ∧ Below w.heap.size w w') → ReadPost s wd w e w' := by
  rintro e w' ⟨h1, h2, hb⟩
  unfold ReadPost
  rw [hr]
  unfold rdN
  cases hok : okThing (txtI s wd n) (refsI s wd n) wd with
  | true =>
    rw [if_pos ⟨hfit, rfl⟩]
    obtain ⟨v, he, ho⟩ := h1 hok
    exact ⟨v, he, by simpa [refsI_length] using ho, hb⟩
  | false =>
    rw [if_neg (by simp)]
    exact ⟨.slice none 0 0, h2 hok, World.ownsRow_nil _ _ _ _, hb⟩

theorem iRead_any (s : ByteArray) (wd : Int) (w : World) (hs : s.size ≤ 1048576) : Calls Tryd.prog 19 #[.string s, .int .i64 wd] w (ReadPost s wd w) := by
  by_cases hw : 1 ≤ wd ∧ wd ≤ 8
  · by_cases h0 : 0 < s.size
    · have hr : rd s wd = rdN s wd s[0].toNat := by unfold rd; rw [if_pos hw, rd_head h0]
      by_cases hfit : (s[0].toNat : Int) * wd ≤ s.size - 1
      · exact (iRead_yes s wd _ w hs hw.1 hw.2 h0 rfl hfit).mono (of_yes hr hfit)
      · exact (iRead_no3 s wd _ w hs hw.1 hw.2 h0 rfl (by omega)).mono (of_nothing (by rw [hr]; unfold rdN; rw [if_neg (fun h => hfit h.1)]))
    · refine (iRead_no2 s wd w hw.1 hw.2 (by omega)).mono (of_nothing ?_)
      have hl : s.data.toList = [] := List.eq_nil_of_length_eq_zero (by have h3 : s.data.toList.length = s.size := Array.length_toList; omega)
      unfold rd; rw [if_pos hw, hl]; rfl
  · exact (iRead_no1 s wd w hw).mono (of_nothing (by unfold rd; rw [if_neg hw]))

theorem sRead_any (s : ByteArray) (wd : Int) (w : World) (hs : s.size ≤ 1048576) : Calls Tryd.prog 32 #[.string s, .int .i64 wd] w (ReadPost s wd w) := by
  by_cases hw : 1 ≤ wd ∧ wd ≤ 8
  · by_cases h0 : 0 < s.size
    · have hr : rd s wd = rdN s wd s[0].toNat := by unfold rd; rw [if_pos hw, rd_head h0]
      by_cases hfit : (s[0].toNat : Int) * wd ≤ s.size - 1
      · exact (sRead_yes s wd _ w hs hw.1 hw.2 h0 rfl hfit).mono (of_yes hr hfit)
      · exact (sRead_no3 s wd _ w hs hw.1 hw.2 h0 rfl (by omega)).mono (of_nothing (by rw [hr]; unfold rdN; rw [if_neg (fun h => hfit h.1)]))
    · refine (sRead_no2 s wd w hw.1 hw.2 (by omega)).mono (of_nothing ?_)
      have hl : s.data.toList = [] := List.eq_nil_of_length_eq_zero (by have h3 : s.data.toList.length = s.size := Array.length_toList; omega)
      unfold rd; rw [if_pos hw, hl]; rfl
  · exact (sRead_no1 s wd w hw).mono (of_nothing (by unfold rd; rw [if_neg hw]))

end Go.Proofs.YtdecihmplkgfkaaDoor
