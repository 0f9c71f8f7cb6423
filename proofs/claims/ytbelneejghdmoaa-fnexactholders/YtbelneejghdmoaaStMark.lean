/-
  laws.markState: it writes into a state's own rows, and gives a number.
-/
import Derived.Test.YtbelneejghdmoaaStSum
import Derived.Test.YtbelneejghdmoaaStTo
import Derived.Test.YtbelneejghdmoaaMarkS
namespace Go.Proofs.Ytbelneejghdmoaa
open Go.ChangeShapes Go.WideShapes Go.ChangeAt Go.RowKit

/-- What was there is there, and what could be written can be. -/
def Alive (w w' : World) : Prop := ∀ b o, (w.cell? ⟨b, o, none⟩).isSome = true → (w'.cell? ⟨b, o, none⟩).isSome = true ∧ (w.frozen? ⟨b, o, none⟩ = false → w'.frozen? ⟨b, o, none⟩ = false)

theorem Alive.refl (w : World) : Alive w w := fun _ _ h => ⟨h, fun h => h⟩

theorem Alive.trans {a b c : World} (h1 : Alive a b) (h2 : Alive b c) : Alive a c := fun p o h => ⟨(h2 p o (h1 p o h).1).1, fun hf => (h2 p o (h1 p o h).1).2 ((h1 p o h).2 hf)⟩

theorem Alive.of_below {w w' : World} (h : Below w.heap.size w w') : Alive w w' := fun b o hs => by
  obtain ⟨v, hv⟩ := Option.isSome_iff_exists.1 hs
  have hb : b < w.heap.size := World.block_lt_of_cell? w ⟨b, o, none⟩ hv
  rw [h.cell (p := ⟨b, o, none⟩) hb, h.frozen (p := ⟨b, o, none⟩) hb]
  exact ⟨hs, fun h => h⟩

theorem Alive.setCell (w : World) (g p : Nat) (v : Value) : Alive w (w.setCell ⟨g, p, none⟩ v) := fun b o hs => by
  refine ⟨?_, fun h => by simpa [go_sem] using h⟩
  by_cases e : (⟨b, o, none⟩ : Addr) = ⟨g, p, none⟩
  · rw [← e, World.cell?_setCell_same' _ _ _ hs]
    rfl
  · rw [World.cell?_setCell_other _ _ _ _ (fun e' => e e'.symm)]
    exact hs

/-- n cells of a block that can be written. -/
def Wr (w : World) (q n : Nat) : Prop := ∀ j, j < n → (w.cell? ⟨q, j, none⟩).isSome = true ∧ w.frozen? ⟨q, j, none⟩ = false

theorem Wr.alive {w w' : World} {q n : Nat} (h : Wr w q n) (ha : Alive w w') : Wr w' q n := fun j hj => ⟨(ha q j (h j hj).1).1, (ha q j (h j hj).1).2 (h j hj).2⟩

theorem Wr.at {w : World} {q n j : Nat} (h : Wr w q n) (hj : j < n) : ∃ v, w.cell? ⟨q, j, none⟩ = some v := Option.isSome_iff_exists.1 (h j hj).1

theorem Wr.own {w : World} {base g n cap size : Nat} {e : TypeId} {xs : List Value} (h : w.ownsRow base e size (.slice (some ⟨g, 0, none⟩) n cap) n xs) : Wr w g (n * size) := fun j hj => by
  have hl := h.1
  refine ⟨?_, h.frozenAt j⟩
  rw [h.cellAt j (by omega), List.getElem?_eq_getElem (by omega)]
  rfl

theorem grown_set (w : World) (g p : Nat) (v : Value) : w.grownBy (w.setCell ⟨g, p, none⟩ v) (some g) :=
  ⟨rfl, rfl, rfl, by simp, fun i _ hi => Below.heap_setCell _ _ _ _ (fun e => hi (by rw [e]))⟩

set_option maxHeartbeats 400000 in
theorem markS_wr (q n cap k : Nat) (w : World) (h : Wr w q n) (hk : 1 ≤ k) (hkn : k + n ≤ 100000000) :
    Calls Try.prog 29 #[.slice (some ⟨q, 0, none⟩) n cap, .int .i64 k] w fun e w' => e = .returned (.int .i64 (k + n)) ∧ w.grownBy w' (some q) ∧ Alive w w' := by
  go_enter Try.func29, Try.ntmps29
  go_wp2
  go_loopw [1, 5] (fun v i wr => ∃ (j : Nat), j ≤ n ∧ i = .int .i64 j ∧ v = .int .i64 (k + j) ∧ Hid (Wr wr q n) ∧ w.grownBy wr (some q) ∧ Alive w wr) (fun _ i _ => n - (intOf i).toNat)
  case atStart => exact ⟨0, Nat.zero_le _, rfl, by simp, h, grown_refl _ _, Alive.refl _⟩
  case round =>
    clear h
    obtain ⟨j, hj, rfl, rfl, HW, hgrow, hal⟩ := hrel
    by_cases hlt : j < n
    · have hcall := markText_any (k + j) wr (by omega) (by omega)
      rw [show ((k + j : Nat) : Int) = (k : Int) + j from by omega] at hcall
      have hlt' : (j : Int) < n := by omega
      go_wp2_with fail
      refine hcall.mono ?_
      rintro e w2 ⟨rfl, hb2⟩
      have hw2 := Wr.alive HW.out (Alive.of_below hb2)
      obtain ⟨v, hcc⟩ := hw2.at hlt
      have hff := (hw2 j hlt).2
      have HH : Hid _ := And.intro (hw2.alive (Alive.setCell w2 q j (.string (mkT (k + j))))) (And.intro (grown_trans hgrow (grown_trans (grown_below _ hb2) (grown_set w2 q j (.string (mkT (k + j)))))) (hal.trans ((Alive.of_below hb2).trans (Alive.setCell w2 q j (.string (mkT (k + j)))))))
      clear hgrow hcall hal HW hw2 hb2
      go_wp2
      exact ⟨⟨j + 1, by omega, by go_num, by go_num, HH.out.1, HH.out.2.1, HH.out.2.2⟩, by simp [intOf]; omega⟩
    · obtain rfl : j = n := by omega
      go_wp2
      go_ret
      exact ⟨rfl, hgrow, hal⟩

theorem markText_at (K : Nat) (z : Int) (w : World) (hz : z = K) (hk : 1 ≤ K) (hk2 : K ≤ 1000000000) :
    Calls Try.prog 72 #[.int .i64 z] w fun e w' => e = .returned (.string (mkT K)) ∧ Below w.heap.size w w' := by
  subst hz
  exact markText_any K w hk hk2

/-- A row that is being written, and nothing else. -/
def MSt (w wr : World) (g n : Nat) : Prop := Wr wr g n ∧ w.grownBy wr (some g) ∧ Alive w wr

theorem MSt.new {w : World} {g n : Nat} (h : Wr w g n) : MSt w w g n := ⟨h, grown_refl _ _, Alive.refl _⟩
theorem MSt.below {w wr w2 : World} {g n : Nat} (h : MSt w wr g n) (hb : Below wr.heap.size wr w2) : MSt w w2 g n :=
  ⟨h.1.alive (Alive.of_below hb), grown_trans h.2.1 (grown_below _ hb), h.2.2.trans (Alive.of_below hb)⟩
theorem MSt.set {w wr : World} {g n : Nat} (h : MSt w wr g n) (o : Nat) (v : Value) : MSt w (wr.setCell ⟨g, o, none⟩ v) g n :=
  ⟨h.1.alive (Alive.setCell _ _ _ _), grown_trans h.2.1 (grown_set _ _ _ _), h.2.2.trans (Alive.setCell _ _ _ _)⟩

set_option maxHeartbeats 2000000 in
theorem markPinS_any (g n cap k : Nat) (w : World) (h : Wr w g (n * 2)) (hk : 1 ≤ k) (hkn : k + n * 2 ≤ 100000000) :
    Calls Try.prog 65 #[.slice (some ⟨g, 0, none⟩) n cap, .int .i64 k] w fun e w' => (∃ K : Nat, e = .returned (.int .i64 K) ∧ k ≤ K ∧ K ≤ k + n * 2) ∧ w.grownBy w' (some g) ∧ Alive w w' := by
  go_enter Try.func65, Try.ntmps65
  go_wp2
  go_loopw [1, 5] (fun v i wr => ∃ (j K : Nat), j ≤ n ∧ i = .int .i64 j ∧ v = .int .i64 K ∧ k ≤ K ∧ K ≤ k + j * 2 ∧ Hid (MSt w wr g (n * 2))) (fun _ i _ => n - (intOf i).toNat)
  case atStart => exact ⟨0, k, Nat.zero_le _, rfl, rfl, Nat.le_refl _, by omega, MSt.new h⟩
  case round =>
    clear h
    obtain ⟨j, K, hj, rfl, rfl, hK1, hK2, HM⟩ := hrel
    by_cases hlt : j < n
    · have hlt' : (j : Int) < n := by omega
      have hjn : j * 2 + 2 ≤ n * 2 := by omega
      go_wp2_with fail
      refine (markText_at K _ _ rfl (by omega) (by omega)).mono ?_
      rintro e w2 ⟨rfl, hb2⟩
      have h2 := MSt.below HM.out hb2
      obtain ⟨v2, c2⟩ := h2.1.at (j := j * 2) (by omega)
      have f2 := (h2.1 (j * 2) (by omega)).2
      have HM : Hid _ := h2.set (j * 2) (.string (mkT K))
      clear h2 hb2
      go_wp2_with fail
      refine (markText_at (K + 1) _ _ (by omega) (by omega) (by omega)).mono ?_
      rintro e w3 ⟨rfl, hb3⟩
      have h3 := MSt.below HM.out hb3
      obtain ⟨v3, c3⟩ := h3.1.at (j := j * 2 + 1) (by omega)
      have f3 := (h3.1 (j * 2 + 1) (by omega)).2
      have HM : Hid _ := h3.set (j * 2 + 1) (.string (mkT (K + 1)))
      clear h3 hb3 c2 f2
      go_wp2
      exact ⟨⟨j + 1, K + 1 + 1, by omega, by go_num, by go_num, by omega, by omega, HM⟩, by simp [intOf]; omega⟩
    · obtain rfl : j = n := by omega
      go_wp2
      go_ret
      exact ⟨⟨K, rfl, hK1, hK2⟩, HM.out.2.1, HM.out.2.2⟩

set_option maxHeartbeats 2000000 in
theorem markLeaseS_any (g n cap k : Nat) (w : World) (h : Wr w g (n * 3)) (hk : 1 ≤ k) (hkn : k + n * 3 ≤ 100000000) :
    Calls Try.prog 66 #[.slice (some ⟨g, 0, none⟩) n cap, .int .i64 k] w fun e w' => (∃ K : Nat, e = .returned (.int .i64 K) ∧ k ≤ K ∧ K ≤ k + n * 3) ∧ w.grownBy w' (some g) ∧ Alive w w' := by
  go_enter Try.func66, Try.ntmps66
  go_wp2
  go_loopw [1, 5] (fun v i wr => ∃ (j K : Nat), j ≤ n ∧ i = .int .i64 j ∧ v = .int .i64 K ∧ k ≤ K ∧ K ≤ k + j * 3 ∧ Hid (MSt w wr g (n * 3))) (fun _ i _ => n - (intOf i).toNat)
  case atStart => exact ⟨0, k, Nat.zero_le _, rfl, rfl, Nat.le_refl _, by omega, MSt.new h⟩
  case round =>
    clear h
    obtain ⟨j, K, hj, rfl, rfl, hK1, hK2, HM⟩ := hrel
    by_cases hlt : j < n
    · have hlt' : (j : Int) < n := by omega
      have hjn : j * 3 + 3 ≤ n * 3 := by omega
      obtain ⟨v1, c1⟩ := HM.out.1.at (j := j * 3) (by omega)
      have f1 := (HM.out.1 (j * 3) (by omega)).2
      have HM : Hid _ := MSt.set HM.out (j * 3) (.int .i64 K)
      go_wp2_with fail
      refine (markText_at (K + 1) _ _ (by omega) (by omega) (by omega)).mono ?_
      rintro e w3 ⟨rfl, hb3⟩
      have h3 := MSt.below HM.out hb3
      obtain ⟨v3, c3⟩ := h3.1.at (j := j * 3 + 1) (by omega)
      have f3 := (h3.1 (j * 3 + 1) (by omega)).2
      have h4 := h3.set (j * 3 + 1) (.string (mkT (K + 1)))
      obtain ⟨v4, c4⟩ := h3.1.at (j := j * 3 + 2) (by omega)
      have f4 := (h3.1 (j * 3 + 2) (by omega)).2
      have HM : Hid _ := h4.set (j * 3 + 2) (.int .i64 ((K : Int) + 1 + 1))
      clear h3 h4 hb3 c1 f1
      go_wp2
      exact ⟨⟨j + 1, K + 1 + 1 + 1, by omega, by go_num, by go_num, by omega, by omega, HM⟩, by simp [intOf]; omega⟩
    · obtain rfl : j = n := by omega
      go_wp2
      go_ret
      exact ⟨⟨K, rfl, hK1, hK2⟩, HM.out.2.1, HM.out.2.2⟩

/-- A row of things that is being written, with its Refs' rows behind it; all of them lie below N. -/
structure KSt (w wr : World) (lo N g : Nat) (ks : List Kd) : Prop where
  row : Wr wr g (ks.length * 4)
  bel : Below lo w wr
  al : Alive w wr
  far : ∀ k, N ≤ k → k < w.heap.size → wr.heap[k]? = w.heap[k]?
  refs : ∀ i x, ks[i]? = some x → ∃ q c, wr.cell? ⟨g, i * 4 + 3, none⟩ = some (.slice (some ⟨q, 0, none⟩) x.refs.length c) ∧ g < q ∧ q < N ∧ Wr wr q x.refs.length

theorem KSt.new {w0 w : World} {lo g : Nat} {ks : List Kd} (h : KOwn w0 lo g ks) (hb : Below w0.heap.size w0 w) : KSt w w lo w0.heap.size g ks := by
  obtain ⟨xs, ho, hk⟩ := h
  have hg := (ho.lt g rfl).2
  refine ⟨(Wr.own ho).alive (Alive.of_below hb), Below.refl _ _, Alive.refl _, fun _ _ _ => rfl, fun i x hx => ?_⟩
  have hi := (List.getElem?_eq_some_iff.1 hx).1
  obtain ⟨_, _, _, q, h3, h4⟩ := hk i x hx
  refine ⟨q, _, (hb.cell (p := ⟨g, i * 4 + 3, none⟩) hg).trans ((ho.cellAt _ (by omega)).trans h3), (World.ownsRow.lt h4 q rfl).1, (World.ownsRow.lt h4 q rfl).2, ?_⟩
  have := (Wr.own h4).alive (Alive.of_below hb)
  rwa [Nat.mul_one] at this

theorem KSt.below {w wr w2 : World} {lo N g : Nat} {ks : List Kd} (h : KSt w wr lo N g ks) (hlo : lo ≤ wr.heap.size) (hb : Below wr.heap.size wr w2) : KSt w w2 lo N g ks :=
  ⟨h.row.alive (Alive.of_below hb), h.bel.trans (hb.mono hlo), h.al.trans (Alive.of_below hb), fun k h1 h2 => (hb.block k (Nat.lt_of_lt_of_le h2 h.bel.size)).trans (h.far k h1 h2), fun i x hx => by
    obtain ⟨q, c, h1, h2, h2', h3⟩ := h.refs i x hx
    exact ⟨q, c, (hb.cell (p := ⟨g, i * 4 + 3, none⟩) (World.block_lt_of_cell? wr ⟨g, i * 4 + 3, none⟩ h1)).trans h1, h2, h2', h3.alive (Alive.of_below hb)⟩⟩

theorem KSt.set {w wr : World} {lo N g : Nat} {ks : List Kd} (h : KSt w wr lo N g ks) (hlo : lo ≤ g) (hN : g < N) (j c : Nat) (hc : c ≤ 2) (v : Value) : KSt w (wr.setCell ⟨g, j * 4 + c, none⟩ v) lo N g ks :=
  ⟨h.row.alive (Alive.setCell _ _ _ _), h.bel.setCell (p := ⟨g, j * 4 + c, none⟩) (by simpa using hlo) _, h.al.trans (Alive.setCell _ _ _ _), fun k h1 h2 => ((grown_set wr g (j * 4 + c) v).block k (Nat.lt_of_lt_of_le h2 h.bel.size) (by intro e; cases e; omega)).trans (h.far k h1 h2), fun i x hx => by
    obtain ⟨q, d, h1, h2, h2', h3⟩ := h.refs i x hx
    refine ⟨q, d, ?_, h2, h2', h3.alive (Alive.setCell _ _ _ _)⟩
    rw [World.cell?_setCell_other _ _ _ _ (by intro e; injection e; omega)]
    exact h1⟩

theorem KSt.grown {w wr w2 : World} {lo N g q : Nat} {ks : List Kd} (h : KSt w wr lo N g ks) (hlo : lo ≤ wr.heap.size) (hg : wr.grownBy w2 (some q)) (ha : Alive wr w2) (hq : g < q) (hqN : q < N) (hl : lo ≤ g) : KSt w w2 lo N g ks :=
  ⟨h.row.alive ha, h.bel.grown hg hlo (fun k hk => by cases hk; omega), h.al.trans ha, fun k h1 h2 => (hg.block k (Nat.lt_of_lt_of_le h2 h.bel.size) (by intro e; cases e; omega)).trans (h.far k h1 h2), fun i x hx => by
    obtain ⟨q', d, h1, h2, h2', h3⟩ := h.refs i x hx
    exact ⟨q', d, hg.cell h1 (by simp; omega), h2, h2', h3.alive ha⟩⟩

set_option maxHeartbeats 4000000 in
theorem markKeptS_any (lo g cap k : Nat) (ks : List Kd) (w0 w : World) (h : KOwn w0 lo g ks) (hb0 : Below w0.heap.size w0 w) (hlo : lo ≤ g) (hlw : lo ≤ w.heap.size) (hk : 1 ≤ k) (hkn : k + ks.length * 3 + refsN ks ≤ 100000000) :
    Calls Try.prog 64 #[.slice (some ⟨g, 0, none⟩) ks.length cap, .int .i64 k] w fun e w' => (∃ K : Nat, e = .returned (.int .i64 K) ∧ k ≤ K ∧ K ≤ k + ks.length * 3 + refsN ks) ∧ Below lo w w' ∧ Alive w w' ∧ ∀ k, w0.heap.size ≤ k → k < w.heap.size → w'.heap[k]? = w.heap[k]? := by
  have h0 := KSt.new h hb0
  have hN : g < w0.heap.size := by obtain ⟨_, ho, _⟩ := h; exact (ho.lt g rfl).2
  generalize w0.heap.size = N at *
  clear h hb0
  go_enter Try.func64, Try.ntmps64
  go_wp2
  go_loopw [1, 5] (fun v i wr => ∃ (j K : Nat), j ≤ ks.length ∧ i = .int .i64 j ∧ v = .int .i64 K ∧ k ≤ K ∧ K ≤ k + j * 3 + refsN (ks.take j) ∧ Hid (KSt w wr lo N g ks)) (fun _ i _ => ks.length - (intOf i).toNat)
  case atStart => exact ⟨0, k, Nat.zero_le _, rfl, rfl, Nat.le_refl _, by omega, h0⟩
  case round =>
    clear h0
    obtain ⟨j, K, hj, rfl, rfl, hK1, hK2, HM⟩ := hrel
    have hrt := refsN_take ks j
    by_cases hlt : j < ks.length
    · have hlt' : (j : Int) < ks.length := by omega
      have hjn : j * 4 + 4 ≤ ks.length * 4 := by omega
      have hg : ks[j]? = some ks[j] := List.getElem?_eq_getElem hlt
      have hrn := refsN_snoc hg
      have hrt2 := refsN_take ks (j + 1)
      generalize ks[j] = x at *
      have HG : Hid _ := hg
      clear hg
      have hs1 : lo ≤ wr.heap.size := Nat.le_trans hlw HM.out.bel.size
      go_wp2_with fail
      refine (markText_at K _ _ rfl (by omega) (by omega)).mono ?_
      rintro e w2 ⟨rfl, hb2⟩
      have h2 := KSt.below HM.out hs1 hb2
      have hs2 : lo ≤ w2.heap.size := Nat.le_trans hs1 hb2.size
      obtain ⟨v2, c2⟩ := h2.row.at (j := j * 4) (by omega)
      have f2 := (h2.row (j * 4) (by omega)).2
      obtain ⟨v3, c3⟩ := h2.row.at (j := j * 4 + 1) (by omega)
      have f3 := (h2.row (j * 4 + 1) (by omega)).2
      have h3 := (h2.set hlo hN j 0 (by omega) (.string (mkT K))).set hlo hN j 1 (by omega) (.int .i64 ((K : Int) + 1))
      rw [Nat.add_zero] at h3
      have HM : Hid _ := h3
      clear h2 h3 hb2
      go_wp2_with fail
      refine (markText_at (K + 1 + 1) _ _ (by omega) (by omega) (by omega)).mono ?_
      rintro e w4 ⟨rfl, hb4⟩
      have h4 := KSt.below HM.out (by simpa using hs2) hb4
      have hs4 : lo ≤ w4.heap.size := Nat.le_trans hs2 (by have := hb4.size; simpa using this)
      obtain ⟨v4, c4⟩ := h4.row.at (j := j * 4 + 2) (by omega)
      have f4 := (h4.row (j * 4 + 2) (by omega)).2
      obtain ⟨q, qc, c5, hq, hqN, hwq⟩ := h4.refs j x HG.out
      have HM : Hid _ := h4.set hlo hN j 2 (by omega) (.string (mkT (K + 1 + 1)))
      have HQ : Hid _ := hwq.alive (Alive.setCell w4 g (j * 4 + 2) (.string (mkT (K + 1 + 1))))
      clear h4 hb4 c2 f2 c3 f3 hwq
      have hcall := markS_wr q x.refs.length qc (K + 1 + 1 + 1) (w4.setCell ⟨g, j * 4 + 2, none⟩ (.string (mkT (K + 1 + 1)))) HQ.out (by omega) (by omega)
      rw [show ((K + 1 + 1 + 1 : Nat) : Int) = (K : Int) + 1 + 1 + 1 from by omega] at hcall
      have HC : Hid _ := hcall
      clear hcall HQ
      go_wp2_with fail
      refine Calls.mono HC.out ?_
      rintro e w5 ⟨rfl, hg5, ha5⟩
      have HM : Hid _ := KSt.grown HM.out (by simpa using hs4) hg5 ha5 hq hqN hlo
      clear hg5 ha5 HC c4 f4 c5
      go_wp2
      exact ⟨⟨j + 1, K + 1 + 1 + 1 + x.refs.length, by omega, by go_num, by go_num, by omega, by omega, HM⟩, by simp [intOf]; omega⟩
    · obtain rfl : j = ks.length := by omega
      rw [List.take_of_length_le (Nat.le_refl _)] at hK2
      go_wp2
      go_ret
      exact ⟨⟨K, rfl, hK1, hK2⟩, HM.out.bel, HM.out.al, HM.out.far⟩

set_option maxHeartbeats 2000000 in
theorem markState_any (wd now given births : Int) (lo g p l k : Nat) (ks : List Kd) (ps : List Pd) (ls : List Ld) (w0 w : World) (h : SOwn w0 lo g p l ks ps ls) (hb0 : Below w0.heap.size w0 w) (hf : SFit ks ps ls) (hrn : refsN ks ≤ 1048576) (hk : 1 ≤ k) (hk2 : k ≤ 1000) :
    Calls Try.prog 23 #[.agg #[.int .i64 wd, .int .i64 now, .int .i64 given, .int .i64 births, .slice (some ⟨g, 0, none⟩) ks.length ks.length, .slice (some ⟨p, 0, none⟩) ps.length ps.length, .slice (some ⟨l, 0, none⟩) ls.length ls.length], .int .i64 k] w fun e w' =>
      (∃ K : Nat, e = .returned (.int .i64 K) ∧ k ≤ K ∧ K ≤ 20000000) ∧ Below lo w w' ∧ Alive w w' ∧ ∀ k, w0.heap.size ≤ k → k < w.heap.size → w'.heap[k]? = w.heap[k]? := by
  have hk1 := hf.k
  have hp1 := hf.p
  have hl1 := hf.l
  have hb : Below w.heap.size w (w.alloc (.cells #[.int .i64 wd, .int .i64 now, .int .i64 given, .int .i64 births, .slice (some ⟨g, 0, none⟩) ks.length ks.length, .slice (some ⟨p, 0, none⟩) ps.length ps.length, .slice (some ⟨l, 0, none⟩) ls.length ls.length] 33)) := (Below.refl _ _).alloc (Nat.le_refl _) _
  have hx := SBox.new w wd now given births (.slice (some ⟨g, 0, none⟩) ks.length ks.length) (.slice (some ⟨p, 0, none⟩) ps.length ps.length) (.slice (some ⟨l, 0, none⟩) ls.length ls.length) 33
  obtain ⟨xp, hop, _⟩ := h.p
  obtain ⟨xl, hol, _⟩ := h.l
  obtain ⟨xk, hok, hkc⟩ := h.k
  have lg := hok.lt g rfl
  have lp := hop.lt p rfl
  have ll := hol.lt l rfl
  have hbb := hb0.trans (hb.mono hb0.size)
  have wp0 := (Wr.own hop).alive (Alive.of_below hbb)
  have wl0 := (Wr.own hol).alive (Alive.of_below hbb)
  have hz0 := hb0.size
  have hko := h.k
  clear hop hol hok hkc h
  go_enter Try.func23, Try.ntmps23
  go_wp2_with fail
  refine (markKeptS_any lo g ks.length k ks w0 _ hko hbb lg.1 (by simp; omega) hk (by omega)).mono ?_
  rintro e w1 ⟨⟨K1, rfl, hK1, hK1'⟩, hb1, ha1, hf1⟩
  obtain ⟨y0, y1, y2, y3, y4, y5, y6, y7⟩ := hx
  have hz1 := hb1.size
  simp at hz1
  have c5 := (World.cell?_of_block (a := ⟨w.heap.size, 5, none⟩) (hf1 w.heap.size hz0 (by simp))).trans y5
  have c6 := (World.cell?_of_block (a := ⟨w.heap.size, 6, none⟩) (hf1 w.heap.size hz0 (by simp))).trans y6
  have wp1 := wp0.alive ha1
  have wl1 := wl0.alive ha1
  have HB1 : Hid (Below lo w w1 ∧ Alive w w1 ∧ ∀ k, w0.heap.size ≤ k → k < w.heap.size → w1.heap[k]? = w.heap[k]?) := ⟨(hb.mono (by omega)).trans hb1, (Alive.of_below hb).trans ha1, fun j h1 h2 => (hf1 j h1 (by simp; omega)).trans (hb.block j h2)⟩
  have HP : Hid _ := And.intro wp1 wl1
  clear y0 y1 y2 y3 y4 y5 y6 y7 wp0 wl0 hb1 ha1 hf1 hb hbb hko wp1 wl1
  go_wp2_with fail
  refine (markPinS_any p ps.length ps.length K1 w1 HP.out.1 (by omega) (by omega)).mono ?_
  rintro e w2 ⟨⟨K2, rfl, hK2, hK2'⟩, hg2, ha2⟩
  have hz2 := hg2.size
  have c7 := hg2.cell c6 (by simp; omega)
  have HB2 : Hid (Below lo w w2 ∧ Alive w w2 ∧ ∀ k, w0.heap.size ≤ k → k < w.heap.size → w2.heap[k]? = w.heap[k]?) := ⟨HB1.out.1.grown hg2 (by omega) (fun j hj => by cases hj; omega), HB1.out.2.1.trans ha2, fun j h1 h2 => (hg2.block j (by omega) (by intro e; cases e; omega)).trans (HB1.out.2.2 j h1 h2)⟩
  have HL : Hid _ := HP.out.2.alive ha2
  clear hg2 ha2 HB1 HP c5 c6
  go_wp2_with fail
  refine (markLeaseS_any l ls.length ls.length K2 w2 HL.out (by omega) (by omega)).mono ?_
  rintro e w3 ⟨⟨K3, rfl, hK3, hK3'⟩, hg3, ha3⟩
  have hz3 := hg3.size
  have HB3 : Hid (Below lo w w3 ∧ Alive w w3 ∧ ∀ k, w0.heap.size ≤ k → k < w.heap.size → w3.heap[k]? = w.heap[k]?) := ⟨HB2.out.1.grown hg3 (by omega) (fun j hj => by cases hj; omega), HB2.out.2.1.trans ha3, fun j h1 h2 => (hg3.block j (by omega) (by intro e; cases e; omega)).trans (HB2.out.2.2 j h1 h2)⟩
  clear hg3 ha3 HB2 HL c7
  go_wp2
  go_ret
  exact ⟨⟨K3, rfl, by omega, by omega⟩, HB3.out.1, HB3.out.2.1, HB3.out.2.2⟩

end Go.Proofs.Ytbelneejghdmoaa
