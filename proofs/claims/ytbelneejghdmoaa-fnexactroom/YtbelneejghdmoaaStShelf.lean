/-
  impl.shelfOf, (shelf).find, (shelf).has.
-/
import Derived.Test.YtbelneejghdmoaaStKey
import Derived.Test.YtbelneejghdmoaaStSz
import Derived.Test.YtbelneejghdmoaaStFind
import Derived.Test.YtbelneejghdmoaaMarkS
import Derived.Deep.RegionWith
import Derived.Deep.DrawnRows
import Derived.Deep.RegionHeld3
namespace Go.Proofs.Ytbelneejghdmoaa
open Go.ChangeShapes Go.WideShapes Go.ChangeAt Go.RowKit
attribute [local go_sem ↓] Go.wp_at_zero Go.wp_at_succ

/-- A thing as a value. -/
def keptV (u : Kd) (ra : Option Addr) (rc : Nat) : Value := .agg #[.string u.sum, .int .i64 u.born, .string u.text, .slice ra u.refs.length rc]

/-- What the map holds of the things: by their sums, each a value whose Refs lie in W. -/
def Holds (W : World) (B : Nat) (wd : Int) (ks : List Kd) (f : Lit → Option Value) : Prop :=
  ∀ s : ByteArray, (s.size : Int) = wd → (f (keyL s) = none ∧ ¬ There ks s) ∨ ∃ u ra rc, u ∈ ks ∧ u.sum = s ∧ f (keyL s) = some (keptV u ra rc) ∧ SRow W B ra u.refs

theorem Holds.nil (W : World) (B : Nat) (wd : Int) : Holds W B wd [] (fun _ => none) := fun _ _ => .inl ⟨rfl, fun ⟨_, h, _⟩ => by cases h⟩

theorem Holds.snoc {W : World} {B : Nat} {wd : Int} {ks : List Kd} {f : Lit → Option Value} (h : Holds W B wd ks f) {x : Kd} {ra : Option Addr} {rc : Nat} (hx : (x.sum.size : Int) = wd) (h8 : wd ≤ 8) (hr : SRow W B ra x.refs) : Holds W B wd (ks ++ [x]) (upd f (keyL x.sum) (keptV x ra rc)) := by
  intro s hs
  by_cases he : keyL s = keyL x.sum
  · have : s = x.sum := key_inj he (by omega) (by omega)
    subst this
    exact .inr ⟨x, ra, rc, by simp, rfl, upd_same _ _ _, hr⟩
  · rw [upd_other _ _ he]
    have hne : x.sum ≠ s := fun e => he (by rw [e])
    rcases h s hs with ⟨h1, h2⟩ | ⟨u, ra', rc', h1, h2, h3, h4⟩
    · refine .inl ⟨h1, fun ⟨u, hu, e⟩ => ?_⟩
      rcases List.mem_append.1 hu with hu | hu
      · exact h2 ⟨u, hu, e⟩
      · simp at hu; subst hu; exact hne e
    · exact .inr ⟨u, ra', rc', by simp [h1], h2, h3, h4⟩

theorem zeroKept (w : World) : (zeroValue 92).run Try.prog w = .ok (.agg #[.string ⟨#[]⟩, .int .i64 0, .string ⟨#[]⟩, .slice none 0 0]) w := by kernel_rfl

theorem keepPair {w w' : World} {b : Nat} {u v : Value} {B : Nat} (h : w.cell? ⟨b, 0, none⟩ = some u ∧ w.cell? ⟨b, 1, none⟩ = some v) (hb : Below B w w') (hB : b < B) : w'.cell? ⟨b, 0, none⟩ = some u ∧ w'.cell? ⟨b, 1, none⟩ = some v :=
  ⟨(hb.cell (p := ⟨b, 0, none⟩) hB).trans h.1, (hb.cell (p := ⟨b, 1, none⟩) hB).trans h.2⟩

theorem KMap.setCell {w : World} {K : TypeId} {b n : Nat} {f : Lit → Option Value} (h : KMap w K b n f) {a : Addr} (ha : b ≠ a.block) (u : Value) : KMap (w.setCell a u) K b n f := by
  obtain ⟨D, h1, h2⟩ := h
  exact ⟨D, h1.setCell ha u, h2⟩

def FS (wr : World) (h : Nat) (m s b t r : Value) (w' : World) : Prop :=
  w'.cell? ⟨h + 1 + 1 + 1, 1, none⟩ = some m ∧ w'.cell? ⟨wr.heap.size, 0, none⟩ = some s ∧ w'.cell? ⟨wr.heap.size, 1, none⟩ = some b ∧ w'.cell? ⟨wr.heap.size, 2, none⟩ = some t ∧ w'.cell? ⟨wr.heap.size, 3, none⟩ = some r

theorem FS.keep {wr w' w'' : World} {h : Nat} {m s b t r : Value} (x : FS wr h m s b t r w') (hb : Below w'.heap.size w' w'') (h1 : h + 3 < w'.heap.size) (h2 : wr.heap.size < w'.heap.size) : FS wr h m s b t r w'' := by
  obtain ⟨a0, a1, a2, a3, a4⟩ := x
  exact ⟨(hb.cell (p := ⟨h + 1 + 1 + 1, 1, none⟩) h1).trans a0, (hb.cell (p := ⟨wr.heap.size, 0, none⟩) h2).trans a1, (hb.cell (p := ⟨wr.heap.size, 1, none⟩) h2).trans a2, (hb.cell (p := ⟨wr.heap.size, 2, none⟩) h2).trans a3, (hb.cell (p := ⟨wr.heap.size, 3, none⟩) h2).trans a4⟩

theorem FS.grown {wr w' w'' : World} {h q : Nat} {m s b t r : Value} (x : FS wr h m s b t r w') (hg : w'.grownBy w'' (some q)) (h1 : h + 1 + 1 + 1 ≠ q) (h2 : wr.heap.size ≠ q) : FS wr h m s b t r w'' := by
  obtain ⟨a0, a1, a2, a3, a4⟩ := x
  exact ⟨hg.cell a0 (by simpa using h1), hg.cell a1 (by simpa using h2), hg.cell a2 (by simpa using h2), hg.cell a3 (by simpa using h2), hg.cell a4 (by simpa using h2)⟩

set_option maxRecDepth 20000 in
set_option maxHeartbeats 2000000 in
theorem shelfOf_any (wd now given births : Int) (a : Option Addr) (ac : Nat) (P L : Value) (ks : List Kd) (w : World) (hrow : KRow w w.heap.size a ks) (hl : ks.length ≤ 1048576) (hsz : ∀ k ∈ ks, (k.sum.size : Int) = wd) (h8 : wd ≤ 8) :
    Calls Try.prog 49 #[.agg #[.int .i64 wd, .int .i64 now, .int .i64 given, .int .i64 births, .slice a ks.length ac, P, L]] w fun e w' => ∃ m f, e = .returned (.agg #[.int .i64 wd, .map (some m)]) ∧ w.heap.size ≤ m ∧ KMap w' 96 m ks.length f ∧ Holds w w.heap.size wd ks f ∧ Below w.heap.size w w' := by
  have hmm := @run_makeMap Try.prog
  go_enter Try.func49, Try.ntmps49
  go_wp2
  obtain ⟨W0, hW0⟩ : ∃ W, W = ((((w.alloc (Obj.cells #[Value.int IntKind.i64 wd, Value.int IntKind.i64 now, Value.int IntKind.i64 given, Value.int IntKind.i64 births, Value.slice a ks.length ac, P, L] 33)).alloc (Obj.cells #[Value.int IntKind.i64 0, Value.map none] 76)).alloc (Obj.map #[] 0)).alloc (Obj.cells #[Value.int IntKind.i64 wd, Value.map (some (w.heap.size + 1 + 1))] 76)) := ⟨_, rfl⟩
  have hB0 : Below w.heap.size w W0 := by
    rw [hW0]
    exact (((((Below.refl _ _).alloc (Nat.le_refl _) _).alloc (by simp) _).alloc (by simp; omega) _).alloc (by simp; omega) _)
  have hz0 : W0.heap.size = w.heap.size + 4 := by rw [hW0]; simp
  have hM0 : KMap W0 96 (w.heap.size + 1 + 1) 0 (fun _ => none) := by
    have := KMap.new ((w.alloc (Obj.cells #[Value.int IntKind.i64 wd, Value.int IntKind.i64 now, Value.int IntKind.i64 given, Value.int IntKind.i64 births, Value.slice a ks.length ac, P, L] 33)).alloc (Obj.cells #[Value.int IntKind.i64 0, Value.map none] 76)) 96
    rw [hW0]
    have h2 := this.keep ((Below.refl _ _).alloc (Nat.le_refl _) (Obj.cells #[Value.int IntKind.i64 wd, Value.map (some (w.heap.size + 1 + 1))] 76)) this.lt
    simpa using h2
  have s0 : W0.cell? ⟨w.heap.size + 1 + 1 + 1, 0, none⟩ = some (.int .i64 wd) := by rw [hW0]; simp [go_sem]
  have s1 : W0.cell? ⟨w.heap.size + 1 + 1 + 1, 1, none⟩ = some (.map (some (w.heap.size + 1 + 1))) := by rw [hW0]; simp [go_sem]
  have r0 : W0.cell? ⟨w.heap.size + 1, 0, none⟩ = some (.int .i64 0) := by rw [hW0]; simp [go_sem]
  have r1 : W0.cell? ⟨w.heap.size + 1, 1, none⟩ = some (.map none) := by rw [hW0]; simp [go_sem]
  have rf : ∀ j, W0.frozen? ⟨w.heap.size + 1, j, none⟩ = false := fun j => by rw [hW0]; simp [go_sem]
  rw [← hW0]
  clear hW0 hmm
  go_loopw [13] (fun i wr => ∃ (k : Nat) (f : Lit → Option Value), k ≤ ks.length ∧ i = .int .i64 k ∧ Hid (KMap wr 96 (w.heap.size + 1 + 1) k f) ∧ Hid (Holds w w.heap.size wd (ks.take k) f) ∧ W0.grownBy wr (some (w.heap.size + 1 + 1))) (fun i _ => ks.length - (intOf i).toNat)
  case atStart => exact ⟨0, _, Nat.zero_le _, rfl, hM0, by rw [List.take_zero]; exact Holds.nil w w.heap.size wd, grown_refl _ _⟩
  case round =>
    obtain ⟨k, f, hk, rfl, HM, HF, hgr⟩ := hrel
    have hbel : Below w.heap.size w wr := hB0.grown hgr (by omega) (by intro j hj; cases hj; omega)
    have t0 := hgr.cell s0 (by simp)
    have t1 := hgr.cell s1 (by simp)
    have hzr := hgr.size
    by_cases hlt : k < ks.length
    · obtain ⟨b, off, ha, hb, hc⟩ := (hrow.below hbel).at hlt
      subst ha
      have HG : Hid (ks[k]? = some ks[k]) := List.getElem?_eq_getElem hlt
      obtain ⟨c0, c1, c2, ra, rc, c3, _⟩ := hc k _ HG.out
      obtain ⟨b', off', ha', _, hc'⟩ := hrow.at hlt
      cases ha'
      obtain ⟨_, _, _, ra', rc', c3', hr'⟩ := hc' k _ HG.out
      have hra : ra' = ra ∧ rc' = rc := by
        have := (hbel.cell (p := ⟨b, off + k * 4 + 3, none⟩) hb).trans c3'
        rw [c3] at this
        simp at this
        exact ⟨this.1.symm, this.2.symm⟩
      obtain ⟨rfl, rfl⟩ := hra
      have hxs := hsz _ (List.getElem_mem hlt)
      have hbr : b < wr.heap.size := by omega
      have HR : Hid _ := hr'
      clear hc hc' hr' c3' hsz hrow
      generalize ks[k] = x at *
      go_wp2
      have hb1 : Below wr.heap.size wr (wr.alloc (Obj.cells #[Value.string x.sum, Value.int IntKind.i64 x.born, Value.string x.text, Value.slice ra' x.refs.length rc'] 92)) := (Below.refl _ _).alloc (Nat.le_refl _) _
      have hT : FS wr w.heap.size (.map (some (w.heap.size + 1 + 1))) (.string x.sum) (.int .i64 x.born) (.string x.text) (.slice ra' x.refs.length rc') (wr.alloc (Obj.cells #[Value.string x.sum, Value.int IntKind.i64 x.born, Value.string x.text, Value.slice ra' x.refs.length rc'] 92)) := ⟨(hb1.cell (p := ⟨w.heap.size + 1 + 1 + 1, 1, none⟩) (by simp; omega)).trans t1, by simp, by simp, by simp, by simp⟩
      have hTd : FS wr w.heap.size (.map (some (w.heap.size + 1 + 1))) (.string x.sum) (.int .i64 x.born) (.string x.text) (.slice ra' x.refs.length rc') (wr.alloc (Obj.cells #[Value.string x.sum, Value.int IntKind.i64 x.born, Value.string x.text, Value.slice ra' x.refs.length rc'] 92)).drew := hT
      go_region_held3 (fun w' => w'.cell? ⟨w.heap.size + 1 + 1 + 1, 1, none⟩ = some (.map (some (w.heap.size + 1 + 1))) ∧ w'.cell? ⟨wr.heap.size, 0, none⟩ = some (.string x.sum) ∧ w'.cell? ⟨wr.heap.size, 1, none⟩ = some (.int .i64 x.born) ∧ w'.cell? ⟨wr.heap.size, 2, none⟩ = some (.string x.text) ∧ w'.cell? ⟨wr.heap.size, 3, none⟩ = some (.slice ra' x.refs.length rc'))
        (first | exact T3 | exact T2 | exact hTd)
        (first
        | (go_at_call 71; refine (key_any x.sum _).mono ?_; rintro e w2 ⟨rfl, hb2⟩; have T2 : FS wr w.heap.size (.map (some (w.heap.size + 1 + 1))) (.string x.sum) (.int .i64 x.born) (.string x.text) (.slice ra' x.refs.length rc') w2 := FS.keep hTd hb2 (by simp; omega) (by simp); have hb12 : Below wr.heap.size wr w2 := hb1.drew.trans (hb2.mono (by simp)); obtain ⟨w3, hup, hm3, hg3⟩ := (HM.out.keep hb12 (by omega)).put keyed Try.underlying74 (val := keptV x ra' rc') (by unfold maxLen; omega) (key_lit x.sum); have T3 : FS wr w.heap.size (.map (some (w.heap.size + 1 + 1))) (.string x.sum) (.int .i64 x.born) (.string x.text) (.slice ra' x.refs.length rc') w3 := FS.grown T2 hg3 (by simp) (by simp; omega); unfold keptV at hup))
      all_goals
        have hgn : W0.grownBy w3 (some (w.heap.size + 1 + 1)) := grown_trans hgr (grown_trans (grown_below _ hb12) hg3)
        have HN : Hid (Holds w w.heap.size wd (ks.take (k + 1)) (upd f (keyL x.sum) (keptV x ra' rc'))) := by
          have := HF.out.snoc (rc := rc') hxs h8 HR.out
          rw [List.take_add_one, HG.out]
          exact this
        have HMn : Hid _ := hm3
        clear hm3 hup T2 T3 hg3 hb12 hb2
        go_wp2
        exact ⟨⟨k + 1, _, by omega, by go_num, HMn, HN, hgn⟩, by simp [intOf]; omega⟩
    · have p0 := hgr.cell r0 (by simp)
      have p1 := hgr.cell r1 (by simp)
      have pf : ∀ j, wr.frozen? ⟨w.heap.size + 1, j, none⟩ = false := fun j => (hgr.frozen_far ⟨w.heap.size + 1, j, none⟩ (by simp; omega) (by simp)).trans (rf j)
      rw [List.take_of_length_le (by omega)] at HF
      obtain rfl : k = ks.length := by omega
      go_wp2
      refine bodyPost_ret (v := .agg #[.int .i64 wd, .map (some (w.heap.size + 1 + 1))]) (by simp [results, Try.results49, go_sem, p0, p1]) rfl ⟨_, f, rfl, by omega, ?_, HF.out, ?_⟩
      · exact (KMap.setCell (KMap.setCell HM.out (by simp) _) (by simp) _)
      · exact (hbel.setCell (by simp) _).setCell (by simp) _

/-- What the region of a find reads, in every world below which nothing has turned. -/
def FD (b m : Nat) (s : ByteArray) (v : Value) (w' : World) : Prop :=
  w'.cell? ⟨b, 1, none⟩ = some (.map (some m)) ∧ (Instr.lookup 74 (.map (some m)) (keyV s) true).run Try.prog w' = .ok v w'

theorem FD.of {W w' : World} {b m n B : Nat} {s : ByteArray} {f : Lit → Option Value} (hc : W.cell? ⟨b, 1, none⟩ = some (.map (some m))) (hM : KMap W 96 m n f) (hb : b < B) (hm : m < B) (h : Below B W w') :
    FD b m s (.tuple #[(f (keyL s)).getD (.agg #[.string ⟨#[]⟩, .int .i64 0, .string ⟨#[]⟩, .slice none 0 0]), .bool (f (keyL s)).isSome]) w' :=
  ⟨(h.cell (p := ⟨b, 1, none⟩) hb).trans hc, (hM.keep h hm).look_ok keyed Try.underlying74 (zeroKept _) (key_lit s)⟩

set_option maxRecDepth 20000 in
set_option maxHeartbeats 2000000 in
theorem find_any' (wd : Int) (m n : Nat) (f : Lit → Option Value) (s : ByteArray) (w : World) (hM : KMap w 96 m n f) (hs : (s.size : Int) = wd) (u : ByteArray) (bo : Int) (t : ByteArray) (sl : Value) (ok : Bool)
    (hsl : (∃ a l c, sl = .slice a l c)) (hf : (f (keyL s)).getD (.agg #[.string ⟨#[]⟩, .int .i64 0, .string ⟨#[]⟩, .slice none 0 0]) = .agg #[.string u, .int .i64 bo, .string t, sl]) (hok : (f (keyL s)).isSome = ok) :
    Calls Try.prog 92 #[.agg #[.int .i64 wd, .map (some m)], .string s] w fun e w' => e = .returned (.tuple #[.agg #[.string u, .int .i64 bo, .string t, sl], .bool ok]) ∧ Below w.heap.size w w' := by
  obtain ⟨sa, sb, sc, rfl⟩ := hsl
  have hml := hM.lt
  have hb0 : ∀ o1 o2, Below w.heap.size w ((w.alloc o1).alloc o2) := fun o1 o2 => ((Below.refl _ _).alloc (Nat.le_refl _) _).alloc (by simp) _
  go_enter Try.func92, Try.ntmps92
  go_wp2
  obtain ⟨W, hW⟩ : ∃ W, W = (w.alloc (Obj.cells #[Value.int IntKind.i64 wd, Value.map (some m)] 76)).alloc (Obj.cells #[Value.string ⟨#[]⟩, Value.int IntKind.i64 0, Value.string ⟨#[]⟩, Value.slice none 0 0] 92) := ⟨_, rfl⟩
  have hz : W.heap.size = w.heap.size + 1 + 1 := by rw [hW]; simp
  have hBW : Below w.heap.size w W := by rw [hW]; exact hb0 _ _
  have c1 : W.cell? ⟨w.heap.size, 1, none⟩ = some (.map (some m)) := by rw [hW]; simp [go_sem]
  have r0 : ∃ v, W.cell? ⟨w.heap.size + 1, 0, none⟩ = some v := by rw [hW]; simp [go_sem]
  have r1 : ∃ v, W.cell? ⟨w.heap.size + 1, 1, none⟩ = some v := by rw [hW]; simp [go_sem]
  have r2 : ∃ v, W.cell? ⟨w.heap.size + 1, 2, none⟩ = some v := by rw [hW]; simp [go_sem]
  have r3 : ∃ v, W.cell? ⟨w.heap.size + 1, 3, none⟩ = some v := by rw [hW]; simp [go_sem]
  have rf : ∀ j, W.frozen? ⟨w.heap.size + 1, j, none⟩ = false := fun j => by rw [hW]; simp [go_sem]
  obtain ⟨v0, r0⟩ := r0
  obtain ⟨v1, r1⟩ := r1
  obtain ⟨v2, r2⟩ := r2
  obtain ⟨v3, r3⟩ := r3
  have hD : ∀ w', Below W.heap.size W w' → FD w.heap.size m s (.tuple #[.agg #[.string u, .int .i64 bo, .string t, .slice sa sb sc], .bool ok]) w' := fun w' h => by
    have := FD.of (s := s) c1 (hM.keep hBW hml) (by omega) (by omega) h
    rw [hf, hok] at this
    exact this
  have HD : Hid _ := hD
  have hN : w.heap.size + 1 < W.heap.size := by omega
  have hN0 : w.heap.size < W.heap.size := by omega
  rw [← hW]
  clear hW hD hf hok hM hz
  go_region_held3 (fun w' => w'.cell? ⟨w.heap.size, 1, none⟩ = some (.map (some m)) ∧ (Instr.lookup 74 (.map (some m)) (keyV s) true).run Try.prog w' = .ok (.tuple #[.agg #[.string u, .int .i64 bo, .string t, .slice sa sb sc], .bool ok]) w')
    (first
      | exact HD.out _ hB2
      | exact HD.out _ (hB2.alloc (Nat.le_trans (Nat.le_refl _) hB2.size) _)
      | exact HD.out _ ((Below.refl _ _).drew.alloc (by simp) _)
      | exact HD.out _ (Below.refl _ _).drew
      | exact HD.out _ ((((hB2.setCell (by simp) _).setCell (by simp) _).setCell (by simp) _).setCell (by simp) _)
      | exact HD.out _ (hB2.alloc hB2.size _))
    (first
      | (go_at_call 71; refine (key_any s W.drew).mono ?_; rintro e w2 ⟨rfl, hb2⟩; have hB2 : Below W.heap.size W w2 := (Below.refl _ _).drew.trans (hb2.mono (by simp)); have hz2 := hB2.size)
      | (go_at_call 71; refine (key_any s (W.alloc _).drew).mono ?_; rintro e w2 ⟨rfl, hb2⟩; have hB2 : Below W.heap.size W w2 := ((Below.refl _ _).alloc (Nat.le_refl _) _).drew.trans (hb2.mono (by simp)); have hz2 : W.heap.size < w2.heap.size := (by have := hb2.size; simp at this; omega); have n0 : w2.cell? ⟨W.heap.size, 0, none⟩ = some (.string ⟨#[]⟩) := (by rw [hb2.cell (p := ⟨W.heap.size, 0, none⟩) (by simp)]; simp [go_sem]); have n1 : w2.cell? ⟨W.heap.size, 1, none⟩ = some (.int .i64 0) := (by rw [hb2.cell (p := ⟨W.heap.size, 1, none⟩) (by simp)]; simp [go_sem]); have n2 : w2.cell? ⟨W.heap.size, 2, none⟩ = some (.string ⟨#[]⟩) := (by rw [hb2.cell (p := ⟨W.heap.size, 2, none⟩) (by simp)]; simp [go_sem]); have n3 : w2.cell? ⟨W.heap.size, 3, none⟩ = some (.slice none 0 0) := (by rw [hb2.cell (p := ⟨W.heap.size, 3, none⟩) (by simp)]; simp [go_sem]); have nf : ∀ j, w2.frozen? ⟨W.heap.size, j, none⟩ = false := (fun j => by rw [hb2.frozen (p := ⟨W.heap.size, j, none⟩) (by simp)]; simp [go_sem])))
  all_goals
    have p0 := (hB2.cell (p := ⟨w.heap.size + 1, 0, none⟩) hN).trans r0
    have p1 := (hB2.cell (p := ⟨w.heap.size + 1, 1, none⟩) hN).trans r1
    have p2 := (hB2.cell (p := ⟨w.heap.size + 1, 2, none⟩) hN).trans r2
    have p3 := (hB2.cell (p := ⟨w.heap.size + 1, 3, none⟩) hN).trans r3
    have pf : ∀ j, w2.frozen? ⟨w.heap.size + 1, j, none⟩ = false := fun j => (hB2.frozen (p := ⟨w.heap.size + 1, j, none⟩) hN).trans (rf j)
    have hBw : Below w.heap.size w w2 := hBW.trans (hB2.mono (by omega))
    have hlt2 : w.heap.size + 1 < w2.heap.size := by omega
    have hne2 : ¬ W.heap.size = w.heap.size + 1 := by omega
    have hne3 : ¬ w.heap.size + 1 = W.heap.size := by omega
    clear hb2 HD
    go_wp2
    refine bodyPost_ret (v := .tuple #[.agg #[.string u, .int .i64 bo, .string t, .slice sa sb sc], .bool ok]) (by first | (simp [results, Try.results92, go_sem, p0, p1, p2, p3]; done) | (simp [results, Try.results92, go_sem, p0, p1, p2, p3, hlt2]; done)) rfl ⟨rfl, ?_⟩
    first
      | (have hnf := nf 0; exact ((((((((hBw.setCell (by simp; omega) _).setCell (by simp; omega) _).setCell (by simp; omega) _).setCell (by simp; omega) _).setCell (by simp) _).setCell (by simp) _).setCell (by simp) _).setCell (by simp) _))
      | exact (((((hBw.setCell (by simp) _).setCell (by simp) _).setCell (by simp) _).setCell (by simp) _).alloc (by simp; omega) _)

set_option maxHeartbeats 400000 in
theorem find_no (wd : Int) (m : Nat) (s : ByteArray) (w : World) (hs : ¬ (s.size : Int) = wd) :
    Calls Try.prog 92 #[.agg #[.int .i64 wd, .map (some m)], .string s] w fun e w' => e = .returned (.tuple #[.agg #[.string ⟨#[]⟩, .int .i64 0, .string ⟨#[]⟩, .slice none 0 0], .bool false]) ∧ Below w.heap.size w w' := by
  have hs' : ((s.size : Int) == wd) = false := by simpa using hs
  go_enter Try.func92, Try.ntmps92
  go_wp2
  refine bodyPost_ret (v := .tuple #[.agg #[.string ⟨#[]⟩, .int .i64 0, .string ⟨#[]⟩, .slice none 0 0], .bool false]) (by simp [results, Try.results92, go_sem]) rfl ⟨rfl, ?_⟩
  exact ((Below.refl _ _).alloc (Nat.le_refl _) _).alloc (by simp) _

/-- What a find hands back. -/
structure Found (ks : List Kd) (s : ByteArray) (bo : Int) (ok : Bool) : Prop where
  no : ok = false → ¬ There ks s
  yes : ok = true → ∃ x ∈ ks, x.sum = s ∧ x.born = bo

theorem shelf_find (wd : Int) (m n : Nat) (f : Lit → Option Value) (ks : List Kd) (W : World) (B : Nat) (s : ByteArray) (w : World) (hM : KMap w 96 m n f) (hH : Holds W B wd ks f) (hsz : ∀ k ∈ ks, (k.sum.size : Int) = wd) :
    ∃ u bo t sa sb sc ok, Found ks s bo ok ∧ ∀ w', Below w.heap.size w w' → Calls Try.prog 92 #[.agg #[.int .i64 wd, .map (some m)], .string s] w' fun e w'' => e = .returned (.tuple #[.agg #[.string u, .int .i64 bo, .string t, .slice sa sb sc], .bool ok]) ∧ Below w'.heap.size w' w'' := by
  by_cases hs : (s.size : Int) = wd
  · rcases hH s hs with ⟨h1, h2⟩ | ⟨x, ra, rc, h1, h2, h3, _⟩
    · exact ⟨⟨#[]⟩, 0, ⟨#[]⟩, none, 0, 0, false, ⟨fun _ => h2, fun h => by cases h⟩, fun w' hb => find_any' wd m n f s w' (hM.keep hb hM.lt) hs _ _ _ _ _ ⟨_, _, _, rfl⟩ (by rw [h1]; rfl) (by rw [h1]; rfl)⟩
    · exact ⟨x.sum, x.born, x.text, ra, x.refs.length, rc, true, ⟨fun h => by (cases h), fun _ => ⟨x, h1, h2, rfl⟩⟩, fun w' hb => find_any' wd m n f s w' (hM.keep hb hM.lt) hs _ _ _ _ _ ⟨_, _, _, rfl⟩ (by rw [h3]; rfl) (by rw [h3]; rfl)⟩
  · exact ⟨⟨#[]⟩, 0, ⟨#[]⟩, none, 0, 0, false, ⟨fun _ ⟨x, hx, e⟩ => hs (by rw [← e]; exact hsz x hx), fun h => by cases h⟩, fun w' _ => find_no wd m s w' hs⟩

set_option maxHeartbeats 400000 in
theorem shelf_has (wd : Int) (m n : Nat) (f : Lit → Option Value) (ks : List Kd) (W : World) (B : Nat) (s : ByteArray) (w : World) (hM : KMap w 96 m n f) (hH : Holds W B wd ks f) (hsz : ∀ k ∈ ks, (k.sum.size : Int) = wd) :
    ∃ ok, (ok = true ↔ There ks s) ∧ ∀ w', Below w.heap.size w w' → Calls Try.prog 74 #[.agg #[.int .i64 wd, .map (some m)], .string s] w' fun e w'' => e = .returned (.bool ok) ∧ Below w'.heap.size w' w'' := by
  obtain ⟨u, bo, t, sa, sb, sc, ok, hfd, hcl⟩ := shelf_find wd m n f ks W B s w hM hH hsz
  refine ⟨ok, ⟨fun h => ?_, fun h => ?_⟩, fun w' hb => ?_⟩
  · obtain ⟨x, hx, e, _⟩ := hfd.yes h
    exact ⟨x, hx, e⟩
  · cases ok with
    | true => rfl
    | false => exact absurd h (hfd.no rfl)
  · have hb1 : Below w'.heap.size w' (w'.alloc (.cells #[.int .i64 wd, .map (some m)] 76)) := (Below.refl _ _).alloc (Nat.le_refl _) _
    have HC : Hid _ := hcl _ (hb.trans (hb1.mono hb.size))
    clear hcl hM hH hsz hfd
    go_enter Try.func74, Try.ntmps74
    go_wp2_with fail
    refine Calls.mono HC.out ?_
    rintro e w2 ⟨rfl, hb2⟩
    go_wp2
    go_ret
    exact ⟨rfl, (hb1.trans (hb2.mono (by simp))).alloc (by have := hb2.size; simp at this; omega) _⟩

end Go.Proofs.Ytbelneejghdmoaa
