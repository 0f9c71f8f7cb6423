/-
  Rows of keys (arrays of eight bytes): rows that are read, queues of the call's own, and what is appended to them.
-/
import Derived.Test.YtbelneejghdmoaaStKey
import Derived.Deep.Upon
namespace Go.Proofs.Ytbelneejghdmoaa
open Go.ChangeShapes Go.WideShapes Go.ChangeAt Go.RowKit

def kCells (s : ByteArray) : List Value := (keyA s).toList

theorem kCells_get (s : ByteArray) (j : Nat) (h : j < 8) : (kCells s)[j]? = some (.int .u8 (kB s j)) := by
  match j, h with
  | 0, _ | 1, _ | 2, _ | 3, _ | 4, _ | 5, _ | 6, _ | 7, _ => rfl

def cells8 (ss : List ByteArray) : List Value := ss.flatMap kCells

theorem cells8_len (ss : List ByteArray) : (cells8 ss).length = ss.length * 8 := by
  induction ss with
  | nil => rfl
  | cons s ss ih =>
    have : (kCells s).length = 8 := rfl
    unfold cells8 at *
    rw [List.flatMap_cons, List.length_append, ih, List.length_cons, this]
    omega

theorem cells8_get {ss : List ByteArray} {i j : Nat} {s : ByteArray} (h : ss[i]? = some s) (hj : j < 8) : (cells8 ss)[i * 8 + j]? = some (.int .u8 (kB s j)) := by
  induction ss generalizing i with
  | nil => simp at h
  | cons t ss ih =>
    have h8 : (kCells t).length = 8 := rfl
    unfold cells8 at *
    rw [List.flatMap_cons]
    cases i with
    | zero =>
      simp at h
      subst h
      rw [List.getElem?_append_left (by omega), Nat.zero_mul, Nat.zero_add]
      exact kCells_get t j hj
    | succ i =>
      rw [List.getElem?_append_right (by omega), h8, show (i + 1) * 8 + j - 8 = i * 8 + j by omega]
      exact ih (by simpa using h)

theorem cells8_inv {ss : List ByteArray} {k : Nat} {u : Value} (h : (cells8 ss)[k]? = some u) : ∃ s, ss[k / 8]? = some s ∧ u = .int .u8 (kB s (k % 8)) := by
  have hk : k < ss.length * 8 := by rw [← cells8_len]; exact (List.getElem?_eq_some_iff.1 h).1
  have hi : k / 8 < ss.length := by omega
  refine ⟨ss[k / 8], List.getElem?_eq_getElem hi, ?_⟩
  have := cells8_get (j := k % 8) (List.getElem?_eq_getElem hi) (Nat.mod_lt _ (by decide))
  rw [show k / 8 * 8 + k % 8 = k by omega, h] at this
  exact Option.some.inj this

theorem cells8_append (a b : List ByteArray) : cells8 (a ++ b) = cells8 a ++ cells8 b := by unfold cells8; rw [List.flatMap_append]

theorem cells8_one (ss : List ByteArray) : ∀ u ∈ cells8 ss, u.oneCell' = true := by
  intro u hu
  obtain ⟨k, hk⟩ := List.getElem?_of_mem hu
  obtain ⟨s, _, rfl⟩ := cells8_inv hk
  rfl

/-- A slice that leads to the keys of ss, in a block below B. -/
def R8 (w : World) (B : Nat) (v : Value) (ss : List ByteArray) : Prop :=
  (v = .slice none 0 0 ∧ ss = []) ∨ ∃ g off cap, v = .slice (some ⟨g, off, none⟩) ss.length cap ∧ g < B ∧ ∀ i s, ss[i]? = some s → ∀ j, j < 8 → w.cell? ⟨g, off + (i * 8 + j), none⟩ = some (.int .u8 (kB s j))

/-- A block of keys. -/
def KBlk (w : World) (g : Nat) : Prop := ∃ cur fz, w.heap[g]? = some (.cells cur 96 fz)

theorem KBlk.lt {w : World} {g : Nat} (h : KBlk w g) : g < w.heap.size := by
  obtain ⟨_, _, h⟩ := h
  exact (Array.getElem?_eq_some_iff.1 h).1

theorem KBlk.same {w w' : World} {g : Nat} (h : KBlk w g) (hb : w'.heap[g]? = w.heap[g]?) : KBlk w' g := by
  obtain ⟨c, f, h⟩ := h
  exact ⟨c, f, hb.trans h⟩

theorem KBlk.setC {g : Nat} : ∀ (vs : List Value) (o : Nat) (w : World), KBlk w g → KBlk (w.setCells g o vs) g
  | [], _, _, h => h
  | v :: r, o, w, h => by
    rw [World.setCells]
    refine KBlk.setC r (o + 1) _ ?_
    obtain ⟨c, f, h⟩ := h
    refine ⟨c.setIfInBounds o v, f, ?_⟩
    simp [World.setCell, Array.getElem?_modify, h]

/-- A queue of keys of the call's own: it can be written up to its capacity. -/
def QRow (w : World) (base : Nat) (v : Value) (ss : List ByteArray) : Prop :=
  (v = .slice none 0 0 ∧ ss = []) ∨ ∃ g off cap, v = .slice (some ⟨g, off, none⟩) ss.length cap ∧ base ≤ g ∧ KBlk w g ∧ ss.length ≤ cap ∧ cap ≤ maxLen ∧
    (∀ j, j < cap * 8 → (w.cell? ⟨g, off + j, none⟩).isSome = true ∧ w.frozen? ⟨g, off + j, none⟩ = false) ∧
    ∀ i s, ss[i]? = some s → ∀ j, j < 8 → w.cell? ⟨g, off + (i * 8 + j), none⟩ = some (.int .u8 (kB s j))

/-- The block behind a slice. -/
def sBlk : Value → Option Nat
  | .slice (some a) _ _ => some a.block
  | _ => none

theorem QRow.read {w : World} {base : Nat} {v : Value} {ss : List ByteArray} (h : QRow w base v ss) : R8 w w.heap.size v ss := by
  rcases h with h | ⟨g, off, cap, hv, _, hg, _, _, _, hc⟩
  · exact .inl h
  · exact .inr ⟨g, off, cap, hv, hg.lt, hc⟩

theorem R8.below {w w' : World} {B : Nat} {v : Value} {ss : List ByteArray} (h : R8 w B v ss) (hb : Below B w w') : R8 w' B v ss := by
  rcases h with h | ⟨g, off, cap, hv, hg, hc⟩
  · exact .inl h
  · exact .inr ⟨g, off, cap, hv, hg, fun i s hs j hj => (hb.cell (p := ⟨g, off + (i * 8 + j), none⟩) hg).trans (hc i s hs j hj)⟩

theorem R8.mono {w : World} {B B' : Nat} {v : Value} {ss : List ByteArray} (h : R8 w B v ss) (hb : B ≤ B') : R8 w B' v ss := by
  rcases h with h | ⟨g, off, cap, hv, hg, hc⟩
  · exact .inl h
  · exact .inr ⟨g, off, cap, hv, by omega, hc⟩

/-- A slice's block stands as it stood: so does what is read. -/
theorem R8.stays {w w' : World} {B : Nat} {v : Value} {ss : List ByteArray} (h : R8 w B v ss) (hb : ∀ g, sBlk v = some g → w'.heap[g]? = w.heap[g]?) : R8 w' B v ss := by
  rcases h with h | ⟨g, off, cap, rfl, hg, hc⟩
  · exact .inl h
  · exact .inr ⟨g, off, cap, rfl, hg, fun i s hs j hj => (World.cell?_of_block (hb g rfl)).trans (hc i s hs j hj)⟩

theorem QRow.stays {w w' : World} {base : Nat} {v : Value} {ss : List ByteArray} (h : QRow w base v ss) (_hz : w.heap.size ≤ w'.heap.size) (hb : ∀ g, sBlk v = some g → w'.heap[g]? = w.heap[g]?) : QRow w' base v ss := by
  rcases h with h | ⟨g, off, cap, rfl, h1, hg, h2, h3, h4, hc⟩
  · exact .inl h
  · exact .inr ⟨g, off, cap, rfl, h1, hg.same (hb g rfl), h2, h3, fun j hj => ⟨by rw [World.cell?_of_block (hb g rfl)]; exact (h4 j hj).1, by rw [World.frozen?_of_block (hb g rfl)]; exact (h4 j hj).2⟩, fun i s hs j hj => (World.cell?_of_block (hb g rfl)).trans (hc i s hs j hj)⟩

theorem QRow.below {w w' : World} {base : Nat} {v : Value} {ss : List ByteArray} (h : QRow w base v ss) (hb : Below w.heap.size w w') : QRow w' base v ss := by
  have h0 := h
  rcases h with h | ⟨g, off, cap, rfl, h1, hg, _⟩
  · exact .inl h
  · exact h0.stays hb.size (fun k e => by cases e; exact hb.block g hg.lt)

theorem QRow.blk {w : World} {base : Nat} {v : Value} {ss : List ByteArray} (h : QRow w base v ss) {g : Nat} (hg : sBlk v = some g) : base ≤ g ∧ g < w.heap.size := by
  rcases h with ⟨rfl, _⟩ | ⟨g', off, cap, rfl, h1, h2, _⟩
  · cases hg
  · cases hg; exact ⟨h1, h2.lt⟩

theorem R8.cells {w : World} {g off : Nat} {ss : List ByteArray} (hc : ∀ i s, ss[i]? = some s → ∀ j, j < 8 → w.cell? ⟨g, off + (i * 8 + j), none⟩ = some (.int .u8 (kB s j))) : ∀ j u, (cells8 ss)[j]? = some u → w.cell? ((⟨g, off, none⟩ : Addr).add j) = some u := by
  intro j u hu
  obtain ⟨s, hs, rfl⟩ := cells8_inv hu
  have := hc _ s hs (j % 8) (Nat.mod_lt _ (by decide))
  rw [show j / 8 * 8 + j % 8 = j by omega] at this
  rw [Go.WideShapes.add_plain]
  exact this

theorem Try.infoKey : (Try.prog.info? 96).map (fun i => (i.zero, i.size, i.bytes)) = some (some (.agg #[.int .u8 0, .int .u8 0, .int .u8 0, .int .u8 0, .int .u8 0, .int .u8 0, .int .u8 0, .int .u8 0]), 8, 8) := by kernel_rfl

theorem R8.src {w : World} {B : Nat} {x : Value} {ts : List ByteArray} (h : R8 w B x ts) : Src Try.prog 8 102 x ts.length (cells8 ts) w := by
  rcases h with ⟨rfl, rfl⟩ | ⟨g, off, cap, rfl, _, hc⟩
  · exact Src.ofNil w Try.underlying102 0
  · exact Src.ofSlice w Try.underlying102 ⟨g, off, none⟩ ts.length cap (cells8 ts) (cells8_len ts) (R8.cells hc) (cells8_one ts)

/-- A new row. -/
theorem QRow.fresh (w : World) (base : Nat) (ss : List ByteArray) (cap : Nat) (z : Array Value) (hb : base ≤ w.heap.size) (h1 : ss.length ≤ cap) (h2 : cap ≤ maxLen) (hz : z.size = (cap - ss.length) * 8) :
    QRow (w.drew.alloc (.cells ((cells8 ss).toArray ++ z) 96)) base (.slice (some ⟨w.heap.size, 0, none⟩) ss.length cap) ss := by
  have hl := cells8_len ss
  have hcell : ∀ j, (w.drew.alloc (.cells ((cells8 ss).toArray ++ z) 96)).cell? ⟨w.heap.size, 0 + j, none⟩ = ((cells8 ss).toArray ++ z)[j]? := fun j => by
    rw [Nat.zero_add]
    show (w.drew.alloc (.cells ((cells8 ss).toArray ++ z) 96)).cell? ⟨w.drew.heap.size, j, none⟩ = _
    rw [World.cell?_alloc_at _ _ _ _ rfl]
  refine .inr ⟨w.heap.size, 0, cap, rfl, hb, ⟨_, _, heap_alloc_new w.drew _⟩, h1, h2, fun j hj => ⟨?_, ?_⟩, fun i s hs j hj => ?_⟩
  · rw [hcell, Array.getElem?_eq_getElem (by simp [hl, hz]; omega)]
    rfl
  · simp [go_sem]
  · rw [hcell, Array.getElem?_append_left (by have := (List.getElem?_eq_some_iff.1 hs).1; simp [hl]; omega)]
    simpa using cells8_get hs hj

theorem size_setC (b : Nat) : ∀ (vs : List Value) (o : Nat) (w : World), (w.setCells b o vs).heap.size = w.heap.size
  | [], _, _ => rfl
  | _ :: r, o, w => by rw [World.setCells, size_setC b r]; simp

theorem tape_setC (b : Nat) : ∀ (vs : List Value) (o : Nat) (w : World), (w.setCells b o vs).tape = w.tape
  | [], _, _ => rfl
  | _ :: r, o, w => by rw [World.setCells, tape_setC b r]; rfl

theorem isSome_setC (b : Nat) : ∀ (vs : List Value) (o : Nat) (w : World) (x : Addr), (w.cell? x).isSome = true → ((w.setCells b o vs).cell? x).isSome = true
  | [], _, _, _, h => h
  | v :: r, o, w, x, h => by
    rw [World.setCells]
    refine isSome_setC b r (o + 1) _ x ?_
    by_cases e : (⟨b, o, none⟩ : Addr) = x
    · subst e
      obtain ⟨u, hu⟩ := Option.isSome_iff_exists.1 h
      rw [World.cell?_setCell_same _ _ _ hu]
      rfl
    · rw [World.cell?_setCell_other _ _ _ _ e]
      exact h

theorem qappend (w : World) (base : Nat) (v : Value) (ss : List ByteArray) (hq : QRow w base v ss) (x : Value) (ts : List ByteArray) (B : Nat) (hx : R8 w B x ts) (hn : ss.length + ts.length ≤ 100000000) (hbase : base ≤ w.heap.size) (ty : TypeId) :
    ∃ v' w', (Builtin.append_ #[102, 102] ty #[v, x]).run Try.prog w = .ok v' w' ∧ QRow w' base v' (ss ++ ts) ∧ w.grownBy w' (sBlk v) ∧ (sBlk v' = sBlk v ∨ sBlk v' = some w.heap.size) := by
  obtain ⟨i, hi, hz0, hz1, hz2⟩ := info_parts Try.infoKey
  have hsrc : Src Try.prog i.size 102 x ts.length (cells8 ts) w := by rw [hz1]; exact hx.src
  by_cases h0 : ts = []
  · subst h0
    rw [List.append_nil]
    rcases hq with ⟨rfl, rfl⟩ | ⟨g, off, cap, rfl, h1, hg, h2, h3, h4, hc⟩
    · exact ⟨_, w, run_append_nothing w _ _ ty _ i Try.underlying102 hi none 0 0 (Nat.le_refl _) x hsrc, .inl ⟨rfl, rfl⟩, ⟨rfl, rfl, rfl, Nat.le_refl _, fun _ _ _ => rfl⟩, .inl rfl⟩
    · exact ⟨_, w, run_append_nothing w _ _ ty _ i Try.underlying102 hi _ _ _ h2 x hsrc, .inr ⟨g, off, cap, rfl, h1, hg, h2, h3, h4, hc⟩, ⟨rfl, rfl, rfl, Nat.le_refl _, fun _ _ _ => rfl⟩, .inl rfl⟩
  · have hts : 0 < ts.length := List.length_pos_iff.2 h0
    have grow : ∀ (bs : Option Addr) (cap : Nat), cap < ss.length + ts.length → (Builtin.firstCells i.size ss.length (.slice bs ss.length cap)).run Try.prog w.drew = .ok (cells8 ss).toArray w.drew →
        ∃ v' w', (Builtin.append_ #[102, 102] ty #[.slice bs ss.length cap, x]).run Try.prog w = .ok v' w' ∧ QRow w' base v' (ss ++ ts) ∧ (∀ row, w.grownBy w' row) ∧ sBlk v' = some w.heap.size := by
      intro bs cap hlt hold
      have hr := run_append_grow_src w _ _ ty _ i _ Try.underlying102 hi hz0 bs ss.length cap (cells8 ss) hold x ts.length (cells8 ts) hsrc hlt (by omega) (by
        have := nextslicecap_le hlt
        rw [hz2]
        omega)
      rw [← cells8_append] at hr
      have hge := grownCap_ge w (ss.length + ts.length) cap 96
      have hmx := grownCap_le_maxLen w (ss.length + ts.length) cap 96 (by unfold maxLen; omega)
      have hfr := QRow.fresh w base (ss ++ ts) (grownCap w (ss.length + ts.length) cap 96) (Builtin.zeroCells (Value.agg #[.int .u8 0, .int .u8 0, .int .u8 0, .int .u8 0, .int .u8 0, .int .u8 0, .int .u8 0, .int .u8 0]).cells (grownCap w (ss.length + ts.length) cap 96 - (ss.length + ts.length))) hbase (by simpa using hge) hmx (by rw [size_zeroCells, List.length_append]; rfl)
      rw [List.length_append] at hfr
      exact ⟨_, _, hr, hfr, fun row => ⟨rfl, rfl, rfl, by simp, fun k hk _ => heap_alloc_old w.drew _ hk⟩, rfl⟩
    rcases hq with ⟨rfl, rfl⟩ | ⟨g, off, cap, rfl, h1, hg, h2, h3, h4, hc⟩
    · obtain ⟨v', w', hr, h5, h6, h7⟩ := grow none 0 (by simpa using hts) (run_firstCells_none w.drew _ _ _ _)
      exact ⟨v', w', hr, h5, h6 _, .inr h7⟩
    · by_cases hroom : ss.length + ts.length ≤ cap
      · have hl := cells8_len ts
        have hle : ∀ j, j < (cells8 ts).length → (ss.length * 8 + j) < cap * 8 := fun j hj => by omega
        have hr := run_append_room_src w _ _ ty _ i Try.underlying102 hi g off ss.length cap x ts.length (cells8 ts) hsrc hroom (fun j hj => by rw [hz1, Nat.add_assoc]; exact (h4 _ (hle j hj)).1) (fun j hj => by rw [hz1, Nat.add_assoc]; exact (h4 _ (hle j hj)).2)
        rw [hz1] at hr
        have hkb := World.keptBut_setCells g (may := fun _ => True) (cells8 ts) (off + ss.length * 8) w (fun _ _ => trivial)
        refine ⟨_, _, hr, .inr ⟨g, off, cap, by rw [List.length_append], h1, KBlk.setC _ _ _ hg, by rw [List.length_append]; exact hroom, h3, fun j hj => ⟨?_, ?_⟩, fun k s hs j hj => ?_⟩, ⟨World.os_setCells _ _ _ _, tape_setC _ _ _ _, World.output_setCells _ _ _ _, by rw [size_setC]; exact Nat.le_refl _, fun k hk hne => World.heap_setCells_other _ _ _ _ hk (fun e => hne (by rw [e]; rfl))⟩, .inl rfl⟩
        · exact isSome_setC _ _ _ _ _ (h4 j hj).1
        · rw [World.frozen?_setCells]; exact (h4 j hj).2
        · rcases Nat.lt_or_ge k ss.length with h' | h'
          · rw [List.getElem?_append_left h'] at hs
            rw [World.cell?_setCells_out _ _ _ _ _ (fun _ _ => .inl (by simp; omega))]
            exact hc k s hs j hj
          · rw [List.getElem?_append_right h'] at hs
            have hkt := (List.getElem?_eq_some_iff.1 hs).1
            have hin := World.cell?_setCells_in g (cells8 ts) (off + ss.length * 8) w (fun j hj => by rw [Nat.add_assoc]; exact (h4 _ (hle j hj)).1) ((k - ss.length) * 8 + j) (by omega)
            rw [show off + (k * 8 + j) = off + ss.length * 8 + ((k - ss.length) * 8 + j) by omega, hin]
            have := cells8_get hs hj
            rw [List.getElem?_eq_getElem (by omega)] at this
            exact this
      · obtain ⟨v', w', hr, h5, h6, h7⟩ := grow (some ⟨g, off, none⟩) cap (by omega) (run_firstCells_some w.drew _ _ _ _ _ _ (by rw [hz1]; exact cells8_len ss) (by simpa using R8.cells hc))
        exact ⟨v', w', hr, h5, h6 _, .inr h7⟩

theorem wpList_append_run {P : Program} {w : World} {ops : Array Oper} {rest : List Oper} {o : Oper} {a : Act} {Q : Exit → Act → World → Prop} (hgd : o.guard = none) (s x : Operand) (t u : TypeId)
    (ho : o.op = .call { callee := .builtin .append, args := #[s, x], argTypes := #[t, u] }) {v xv v' : Value} {w' : World} (hs : a.eval s = v) (hx : a.eval x = xv)
    (hr : (Builtin.append_ #[t, u] o.type #[v, xv]).run P w = .ok v' w') (h : wpList P ops Q rest (a.put o.dst v') w') : wpList P ops Q (o :: rest) a w := by
  refine wpList_plain hgd fun K hK => ?_
  unfold Oper.wp execOp
  simp only [ho, resolve, invoke, builtin, Sem.run_bind, Sem.run_pure, Result.andThen_ok, List.map_toArray, List.map_cons, List.map_nil, hs, hx, hr]
  exact hK _ _ h

theorem step_append_run {P : Program} {w : World} {ops : Array Oper} {o : Oper} {a : Act} {K : Act → World → Prop} {Q : Exit → Act → World → Prop} {E : Prop} (hgd : o.guard = none) (s x : Operand) (t u : TypeId)
    (ho : o.op = .call { callee := .builtin .append, args := #[s, x], argTypes := #[t, u] }) {v xv v' : Value} {w' : World} (hs : a.eval s = v) (hx : a.eval x = xv)
    (hr : (Builtin.append_ #[t, u] o.type #[v, xv]).run P w = .ok v' w') (h : K (a.put o.dst v') w') :
    if Region.wanted o (yielded ops a.tmps) = true then Oper.wp P o a w K Q else E := by
  have hw : Region.wanted o (yielded ops a.tmps) = true := by simp [Region.wanted, hgd]
  rw [if_pos hw]
  unfold Oper.wp execOp
  simp only [ho, resolve, invoke, builtin, Sem.run_bind, Sem.run_pure, Result.andThen_ok, List.map_toArray, List.map_cons, List.map_nil, hs, hx, hr]
  exact h

end Go.Proofs.Ytbelneejghdmoaa
