/-
  spec.ReadThing and impl.ReadThing give the same thing.
-/
import Derived.Test.YtdecihmplkgfkaaDoorForm
import Derived.Deep.RegionLaw
namespace Go.Proofs.YtdecihmplkgfkaaDoor
open Go.ChangeShapes Go.WideShapes Go.ChangeAt Go.RowKit

theorem wrap64_byte (b : UInt8) : wrap64 (b.toNat : Int) = (b.toNat : Int) := by
  have h : b.toNat < 256 := b.toNat_lt
  simp [wrap64]
  omega

theorem wrapI (x : Int) (h : -9223372036854775808 ≤ x) (h' : x < 9223372036854775808) : IntKind.i64.wrap x = x := by
  rw [IntKind.wrap_i64]
  omega

/-- What the walk needs of count times width. -/
theorem mul_bd {n k : Nat} {wd : Int} (h1 : 1 ≤ wd) (hk : k < n) : 0 ≤ (k : Int) * wd ∧ (k : Int) * wd ≤ (n : Int) * wd ∧ ((k : Int) + 1) * wd = (k : Int) * wd + wd ∧ (k : Int) * wd + wd ≤ (n : Int) * wd := by
  refine ⟨Int.mul_nonneg (by omega) (by omega), Int.mul_le_mul_of_nonneg_right (by omega) (by omega), by rw [Int.add_mul, Int.one_mul], ?_⟩
  have : ((k : Int) + 1) * wd ≤ (n : Int) * wd := Int.mul_le_mul_of_nonneg_right (by omega) (by omega)
  rw [Int.add_mul, Int.one_mul] at this
  exact this

theorem mul_top {n : Nat} {wd : Int} (hn : n < 256) (h1 : 1 ≤ wd) (h2 : wd ≤ 8) : 0 ≤ (n : Int) * wd ∧ (n : Int) * wd ≤ 2040 := by
  refine ⟨Int.mul_nonneg (by omega) (by omega), ?_⟩
  have h3 : (n : Int) * wd ≤ 255 * wd := Int.mul_le_mul_of_nonneg_right (by omega) (by omega)
  omega

def txtI (s : ByteArray) (wd : Int) (n : Nat) : ByteArray := (s.extract 1 s.size).extract ((n : Int) * wd).toNat (s.size - 1)

def refI (s : ByteArray) (wd : Int) (i : Nat) : ByteArray := (s.extract 1 s.size).extract ((i : Int) * wd).toNat ((i : Int) * wd + wd).toNat

def refsI (s : ByteArray) (wd : Int) (k : Nat) : List ByteArray := (List.range k).map (refI s wd)

theorem refsI_length (s : ByteArray) (wd : Int) (k : Nat) : (refsI s wd k).length = k := by simp [refsI]

theorem refsI_succ (s : ByteArray) (wd : Int) (k : Nat) : (refsI s wd k).map Value.string ++ [Value.string (refI s wd k)] = (refsI s wd (k + 1)).map Value.string := by
  simp [refsI, List.range_succ]

theorem grow_cell {wr w1 : World} {o : Obj} {row : Option Nat} {p : Addr} {x : Value} (hg : (wr.alloc o).drew.grownBy w1 row) (hc : wr.cell? p = some x) (hne : some p.block ≠ row) : w1.cell? p = some x := by
  refine hg.cell ?_ hne
  have hlt := World.block_lt_of_cell? wr p hc
  exact (World.cell?_alloc_lt wr o p hlt).trans hc

theorem grow_frozen {wr w1 : World} {o : Obj} {row : Option Nat} {p : Addr} (hg : (wr.alloc o).drew.grownBy w1 row) (hlt : p.block < wr.heap.size) (hne : some p.block ≠ row) : w1.frozen? p = wr.frozen? p := by
  have h1 : w1.frozen? p = (wr.alloc o).drew.frozen? p := World.frozen?_of_block (hg.block p.block (by simp; omega) hne)
  rw [h1]
  exact World.frozen?_alloc_old wr o p (Nat.ne_of_lt hlt)

theorem own_ne {w : World} {base : Nat} {e : TypeId} {v : Value} {n : Nat} {xs : List Value} (h : w.ownsRow base e 1 v n xs) {b : Nat} (hb : b < base) : some b ≠ v.ownBlock := by
  intro he
  have := (h.lt b he.symm).1
  omega

theorem own_form {w : World} {base : Nat} {v : Value} {ss : List ByteArray} (h : w.ownsRow base 9 1 v ss.length (ss.map Value.string)) : ∃ a cap, v = .slice a ss.length cap ∧ SRow w w.heap.size a ss := by
  rcases h.2 with ⟨hv, h0⟩ | ⟨g, cap, cur, hv, _⟩
  · exact ⟨none, 0, by rw [hv, h0], .inl (List.eq_nil_of_length_eq_zero h0)⟩
  · subst hv
    exact ⟨_, _, rfl, SRow.own h⟩

theorem read_next {s : ByteArray} {wd : Int} {w wr w1 : World} {o : Obj} {v : Value} {k g cap : Nat} {txt : ByteArray} {W : World}
    (hsz : w.heap.size + 1 < wr.heap.size) (hown : wr.ownsRow (w.heap.size + 2) 9 1 v k ((refsI s wd k).map Value.string)) (hbel : Below (w.heap.size + 1) W wr)
    (hown' : w1.ownsRow (w.heap.size + 2) 9 1 (.slice (some ⟨g, 0, none⟩) (k + 1) cap) (k + 1) ((refsI s wd k).map Value.string ++ [.string (refI s wd k)]))
    (hgrow : (wr.alloc o).drew.grownBy w1 v.ownBlock) (hd0 : w1.cell? ⟨w.heap.size + 1, 0, none⟩ = some (.string txt)) (hd1 : w1.cell? ⟨w.heap.size + 1, 1, none⟩ = some v) (hdf : w1.frozen? ⟨w.heap.size + 1, 1, none⟩ = false) :
    (w1.setCell ⟨w.heap.size + 1, 1, none⟩ (.slice (some ⟨g, 0, none⟩) (k + 1) cap)).cell? ⟨w.heap.size + 1, 0, none⟩ = some (.string txt) ∧
    (w1.setCell ⟨w.heap.size + 1, 1, none⟩ (.slice (some ⟨g, 0, none⟩) (k + 1) cap)).cell? ⟨w.heap.size + 1, 1, none⟩ = some (.slice (some ⟨g, 0, none⟩) (k + 1) cap) ∧
    (w1.setCell ⟨w.heap.size + 1, 1, none⟩ (.slice (some ⟨g, 0, none⟩) (k + 1) cap)).frozen? ⟨w.heap.size + 1, 1, none⟩ = false ∧
    (w1.setCell ⟨w.heap.size + 1, 1, none⟩ (.slice (some ⟨g, 0, none⟩) (k + 1) cap)).ownsRow (w.heap.size + 2) 9 1 (.slice (some ⟨g, 0, none⟩) (k + 1) cap) (k + 1) ((refsI s wd (k + 1)).map Value.string) ∧
    Below (w.heap.size + 1) W (w1.setCell ⟨w.heap.size + 1, 1, none⟩ (.slice (some ⟨g, 0, none⟩) (k + 1) cap)) := by
  refine ⟨?_, ?_, ?_, ?_, ?_⟩
  · rw [← hd0]
    exact World.cell?_setCell_other _ _ _ _ (by simp)
  · exact World.cell?_setCell_same' _ _ _ (by rw [hd1]; rfl)
  · rw [World.frozen?_setCell]; exact hdf
  · rw [← refsI_succ]
    exact ownsRow_setCell_below hown' (by simp) _
  · exact (((hbel.alloc (by omega) o).drew).grown hgrow (by simp; omega) (fun k hk => by have := (hown.lt k hk).1; omega)).setCell (by simp) _

theorem notEmpty {s : ByteArray} (h : 0 < s.size) : s.toList.isEmpty = false := by
  have : s.toList.length = s.size := by rw [ByteArray.toList_eq]; simp
  cases hl : s.toList with
  | nil => rw [hl] at this; simp at this; omega
  | cons x r => rfl

set_option maxRecDepth 20000 in
set_option maxHeartbeats 1000000 in
theorem iRead_yes (s : ByteArray) (wd : Int) (n : Nat) (w : World) (hs : s.size ≤ 1048576) (h1 : 1 ≤ wd) (h2 : wd ≤ 8) (h0 : 0 < s.size) (hn0 : s[0].toNat = n) (hfit : (n : Int) * wd ≤ s.size - 1) :
    Calls Tryd.prog 19 #[.string s, .int .i64 wd] w fun e w' =>
      (okThing (txtI s wd n) (refsI s wd n) wd = true → ∃ v, e = .returned (.tuple #[.agg #[.string (txtI s wd n), v], .bool true]) ∧ w'.ownsRow w.heap.size 9 1 v n ((refsI s wd n).map Value.string)) ∧
      (okThing (txtI s wd n) (refsI s wd n) wd = false → e = .returned (.tuple #[.agg #[.string ⟨#[]⟩, .slice none 0 0], .bool false])) ∧ Below w.heap.size w w' := by
  obtain ⟨i0, hi, hz0, hz1, hz2⟩ := info_parts Tryd.infoStr
  have hne : s.toList.isEmpty = false := notEmpty h0
  have hlt0 : (0 : Int) < s.size := by omega
  have hn : n < 256 := by rw [← hn0]; exact s[0].toNat_lt
  have htop := mul_top hn h1 h2
  have HN : Hid _ := hn0
  clear hn0
  go_enter Tryd.func19, Tryd.ntmps19
  go_wp2
  go_quiet (fail)
  simp only [wrap64_byte]
  rw [HN.out]
  go_wp2_with fail
  obtain ⟨txt, htxt⟩ : ∃ txt, txt = txtI s wd n := ⟨_, rfl⟩
  rw [show (s.extract 1 s.size).extract ((n : Int) * wd).toNat (s.size - 1) = txt from htxt.symm]
  have HTX : Hid _ := htxt
  clear htxt
  go_loopw [37] (fun i wr => ∃ (k : Nat) (v : Value), k ≤ n ∧ i = .int .i64 k ∧ wr.cell? ⟨w.heap.size + 1, 0, none⟩ = some (.string txt) ∧ wr.cell? ⟨w.heap.size + 1, 1, none⟩ = some v ∧ wr.frozen? ⟨w.heap.size + 1, 1, none⟩ = false ∧
      wr.ownsRow (w.heap.size + 2) 9 1 v k ((refsI s wd k).map Value.string) ∧ Below (w.heap.size + 1) (w.alloc (Obj.cells #[Value.string ⟨#[]⟩, Value.slice none 0 0] 29)) wr) (fun i _ => n - (intOf i).toNat)
  case atStart => exact ⟨0, .slice none 0 0, Nat.zero_le _, rfl, by simp [go_sem], by simp [go_sem], by simp [go_sem], World.ownsRow_nil _ _ _ _, (belowN (Below.refl _ _) _).alloc (by simp) _⟩
  case round =>
    obtain ⟨k, v, hk, rfl, hc0, hc1, hf1, hown, hbel⟩ := hrel
    have hsz := hbel.size
    simp at hsz
    by_cases hlt : k < n
    · obtain ⟨m1, m2, m3, m4⟩ := mul_bd h1 hlt
      have hsz1 : (s.extract 1 s.size).size = s.size - 1 := by simp
      have hlt' : (k : Int) < n := by omega
      have e1 := wrapI ((k : Int) * wd) (by omega) (by omega)
      have e2 := wrapI ((k : Int) + 1) (by omega) (by omega)
      have e3 := wrapI ((k : Int) * wd + wd) (by omega) (by omega)
      have b2 : (k : Int) * wd ≤ (k : Int) * wd + wd := by omega
      have b3 : (k : Int) * wd + wd ≤ ((s.size - 1 : Nat) : Int) := by omega
      go_wp2
      have hne := own_ne hown (b := w.heap.size + 1) (by omega)
      have hTlt : w.heap.size + 1 < wr.heap.size := World.block_lt_of_cell? wr _ hc0
      go_region_law (refine step_append_lies _ rfl (.tmp 41) (.tmp 51) 22 rfl (w.heap.size + 2) 9 i0 (.string ⟨#[]⟩) 1 16 Tryd.underlying22 hi hz0 hz1 hz2 rfl (by decide) v k ((refsI s wd k).map Value.string) rfl (World.ownsRow.alloc hown _) ⟨wr.heap.size, 0, none⟩ 1 1 [.string (refI s wd k)] rfl rfl (cell_one_new wr (.string (refI s wd k)) 9) (by simp [Value.oneCell']) (by decide) (by unfold maxLen; omega) (by omega) (by simp; omega) (wr.heap.size + 1) (by simp) ?_; intro g cap w1 hown' hgrow hat hltg; have hd0 := grow_cell hgrow hc0 hne; have hd1 := grow_cell hgrow hc1 hne; have hdf := (grow_frozen (p := ⟨w.heap.size + 1, 1, none⟩) hgrow (by simp; omega) hne).trans hf1)
      all_goals
        have R := read_next hTlt hown hbel hown' hgrow hd0 hd1 hdf
        have HR : Hid _ := R
        clear R hown hbel hown' hgrow hd0 hc0 hc1 hf1
        go_wp2
        refine ⟨⟨_, _, _, _, _, _, _, _, _, _, _, _, _, _, _, _, _, _, _, ⟨k + 1, _, by omega, ?_, HR.out.1, HR.out.2.1, HR.out.2.2.1, HR.out.2.2.2.1, HR.out.2.2.2.2⟩, rfl⟩, ?_⟩
        · go_num
        · simp [intOf]; omega
    · obtain rfl : k = n := by omega
      have hTlt : w.heap.size + 1 < wr.heap.size := World.block_lt_of_cell? wr _ hc0
      obtain ⟨a, cap, hv, hrow⟩ := own_form (ss := refsI s wd k) (by rw [refsI_length]; exact hown)
      rw [refsI_length] at hv
      subst hv
      have hr0 : (wr.cell? ⟨w.heap.size, 0, none⟩) = some (.string ⟨#[]⟩) := by rw [hbel.cell (p := ⟨w.heap.size, 0, none⟩) (by simp)]; simp
      have hr1 : (wr.cell? ⟨w.heap.size, 1, none⟩) = some (.slice none 0 0) := by rw [hbel.cell (p := ⟨w.heap.size, 1, none⟩) (by simp)]; simp
      have hrf0 : wr.frozen? ⟨w.heap.size, 0, none⟩ = false := by rw [hbel.frozen (p := ⟨w.heap.size, 0, none⟩) (by simp)]; simp
      have hrf1 : wr.frozen? ⟨w.heap.size, 1, none⟩ = false := by rw [hbel.frozen (p := ⟨w.heap.size, 1, none⟩) (by simp)]; simp
      have hts : txt.size ≤ maxLen := by
        rw [HTX.out]
        simp [txtI, maxLen]
        omega
      have hcall := ivalidThing_any txt a cap (refsI s wd k) wd wr hrow (by rw [refsI_length]; omega) hts
      rw [refsI_length] at hcall
      have hTlt0 : w.heap.size < wr.heap.size := by omega
      go_wp2_with fail
      refine hcall.mono ?_
      rintro e w2 ⟨rfl, rfl⟩
      have hB : Below w.heap.size w wr := ((Below.refl _ _).alloc (Nat.le_refl _) _).trans (hbel.mono (by omega))
      cases hok : okThing txt (refsI s wd k) wd with
      | true =>
        clear hcall
        go_wp2
        refine bodyPost_ret (v := .tuple #[.agg #[.string txt, .slice a k cap], .bool true]) (by simp [results, Tryd.results19, go_sem, hTlt0, hr0, hr1]) rfl ⟨fun _ => ⟨.slice a k cap, ?_, ?_⟩, fun h => ?_, ?_⟩
        · rw [HTX.out]
        · exact ((ownsRow_setCell_below (ownsRow_setCell_below hown (by simp) _) (by simp) _).alloc _).mono (by omega)
        · rw [← HTX.out, hok] at h; cases h
        · exact ((hB.setCell (by simp) _).setCell (by simp) _).alloc (by simp; omega) _
      | false =>
        clear hcall
        go_wp2
        refine bodyPost_ret (v := .tuple #[.agg #[.string ⟨#[]⟩, .slice none 0 0], .bool false]) (by simp [results, Tryd.results19, go_sem, hTlt0, hr0, hr1]) rfl ⟨fun h => ?_, fun _ => rfl, ?_⟩
        · rw [← HTX.out, hok] at h; cases h
        · exact ((hB.setCell (by simp) _).setCell (by simp) _).alloc (by simp; omega) _

/-- What ReadThing answers where there is nothing to read. -/
def Nothing (w : World) (e : Ending) (w' : World) : Prop := e = .returned (.tuple #[.agg #[.string ⟨#[]⟩, .slice none 0 0], .bool false]) ∧ Below w.heap.size w w'

theorem iRead_no1 (s : ByteArray) (wd : Int) (w : World) (h : ¬ (1 ≤ wd ∧ wd ≤ 8)) :
    Calls Tryd.prog 19 #[.string s, .int .i64 wd] w (Nothing w) := by
  by_cases h1 : 1 ≤ wd
  · have h2 : decide (wd ≤ 8) = false := by simp; omega
    go_enter Tryd.func19, Tryd.ntmps19
    go_wp2
    exact bodyPost_ret (v := .tuple #[.agg #[.string ⟨#[]⟩, .slice none 0 0], .bool false]) (by simp [results, Tryd.results19, go_sem]) rfl ⟨rfl, (Below.refl _ _).alloc (Nat.le_refl _) _⟩
  · go_enter Tryd.func19, Tryd.ntmps19
    go_wp2
    exact bodyPost_ret (v := .tuple #[.agg #[.string ⟨#[]⟩, .slice none 0 0], .bool false]) (by simp [results, Tryd.results19, go_sem]) rfl ⟨rfl, (Below.refl _ _).alloc (Nat.le_refl _) _⟩

theorem isEmpty {s : ByteArray} (h : s.size = 0) : s.toList.isEmpty = true := by
  have : s.toList.length = s.size := by rw [ByteArray.toList_eq]; simp
  rw [List.isEmpty_iff, ← List.length_eq_zero_iff]
  omega

theorem iRead_no2 (s : ByteArray) (wd : Int) (w : World) (h1 : 1 ≤ wd) (h2 : wd ≤ 8) (h0 : s.size = 0) :
    Calls Tryd.prog 19 #[.string s, .int .i64 wd] w (Nothing w) := by
  have hne := isEmpty h0
  go_enter Tryd.func19, Tryd.ntmps19
  go_wp2
  exact bodyPost_ret (v := .tuple #[.agg #[.string ⟨#[]⟩, .slice none 0 0], .bool false]) (by simp [results, Tryd.results19, go_sem]) rfl ⟨rfl, (Below.refl _ _).alloc (Nat.le_refl _) _⟩

set_option maxHeartbeats 1000000 in
theorem iRead_no3 (s : ByteArray) (wd : Int) (n : Nat) (w : World) (hs : s.size ≤ 1048576) (h1 : 1 ≤ wd) (h2 : wd ≤ 8) (h0 : 0 < s.size) (hn0 : s[0].toNat = n) (hfit : (s.size : Int) - 1 < (n : Int) * wd) :
    Calls Tryd.prog 19 #[.string s, .int .i64 wd] w (Nothing w) := by
  have hne : s.toList.isEmpty = false := notEmpty h0
  have hlt0 : (0 : Int) < s.size := by omega
  have hn : n < 256 := by rw [← hn0]; exact s[0].toNat_lt
  have htop := mul_top hn h1 h2
  have HN : Hid _ := hn0
  clear hn0
  go_enter Tryd.func19, Tryd.ntmps19
  go_wp2
  go_quiet (fail)
  simp only [wrap64_byte]
  rw [HN.out]
  go_wp2
  refine bodyPost_ret (v := .tuple #[.agg #[.string ⟨#[]⟩, .slice none 0 0], .bool false]) (by simp [results, Tryd.results19, go_sem]) rfl ⟨rfl, ?_⟩
  exact (((belowN ((Below.refl _ _).alloc (Nat.le_refl _) _) _).setCell (by simp) _).setCell (by simp) _)

end Go.Proofs.YtdecihmplkgfkaaDoor
