import Derived.Test.YthkmpihfhkmaoaaGreatU20
import Derived.Test.YthkmpihfhkmaoaaGreatU21
import Derived.Test.YthkmpihfhkmaoaaGreatU22
import Derived.Test.YthkmpihfhkmaoaaGreatU18
import Derived.Test.YthkmpihfhkmaoaaGreatU19
import Derived.Test.YthkmpihfhkmaoaaGreatU03
/-
  spec.l6Unit, all its units; copies of states, with where they lie.
-/
namespace Go.Proofs.YthkmpihfhkmaoaaGreat
open Go.ChangeShapes Go.WideShapes Go.ChangeAt Go.RowKit

/-- What l6Unit answers, by its things. -/
structure LV (w w' : World) (e : Ending) (wd now given births : Int) (P L : Value) (ks : List Kd) (ps : List Pd) (ls : List Ld) (ph top at_ ro : Int) (qs ms : List ByteArray) (b0 x0 y0 : Nat) (zs0 : List (Kd × Value)) (r : UR) (b c : Nat) (zs : List (Kd × Value)) (qa ma da : Option Addr) (qc mc dc : Nat) : Prop where
  e : e = .returned (.agg #[.int .i64 0, .int .i64 wd, .int .i64 now, .int .i64 given, .int .i64 births, .slice (some ⟨b, 0, none⟩) r.ks.length c, P, L, .int .i64 r.ph, .slice qa r.qs.length qc, .slice ma r.ms.length mc, .int .i64 r.top, .int .i64 r.at_, .int .i64 r.ro, .slice da r.ds.length dc])
  uto : UTo ks ps ls births ph top at_ ro qs ms r
  zk : zs.map (·.1) = r.ks
  z : ZRow w' b 0 zs
  lt : b < w'.heap.size
  q : SRow w' w'.heap.size qa r.qs
  m : SRow w' w'.heap.size ma r.ms
  d : SRow w' w'.heap.size da r.ds
  fb : Far b0 x0 y0 w.heap.size (some ⟨b, 0, none⟩)
  fq : Far b0 x0 y0 w.heap.size qa
  fm : Far b0 x0 y0 w.heap.size ma
  fd : Far b0 x0 y0 w.heap.size da
  sub : ∀ z ∈ zs, z ∈ zs0
  low : Below w.heap.size w w'

theorem LU.lv {w w' : World} {e : Ending} {wd now given births : Int} {P L : Value} {ks : List Kd} {ps : List Pd} {ls : List Ld} {ph top at_ ro : Int} {qs ms : List ByteArray} {b0 x0 y0 : Nat} {zs0 : List (Kd × Value)} (h : LU w w' e wd now given births P L ks ps ls ph top at_ ro qs ms b0 x0 y0 zs0) : ∃ r b c zs qa ma da qc mc dc, LV w w' e wd now given births P L ks ps ls ph top at_ ro qs ms b0 x0 y0 zs0 r b c zs qa ma da qc mc dc := by
  obtain ⟨⟨r, b, c, zs, qa, ma, da, qc, mc, dc, h0, h1, h2, h3, h4, h5, h6, h7, ⟨h8, h9, h10, h11⟩, h12⟩, h13⟩ := h
  refine ⟨r, b, c, zs, qa, ma, da, qc, mc, dc, ?_, h1, h2, h3, h4, h5, h6, h7, h8, h9, h10, h11, h12, h13⟩
  rw [h0, ← h2, List.length_map]

theorem l6Unit_any (wd now given births : Int) (b ac : Nat) (zs : List (Kd × Value)) (ks : List Kd) (ps : List Pd) (ls : List Ld) (pa la : Option Addr) (pc lc : Nat) (ph top at_ ro : Int) (x y cx cy : Nat) (qs ms : List ByteArray) (w : World) (hzk : zs.map (·.1) = ks) (hz : ZRow w b 0 zs) (hbl : b < w.heap.size) (hp : PRow w w.heap.size pa ps) (hl : LRow w w.heap.size la ls) (hq : SRow w w.heap.size (some ⟨x, 0, none⟩) qs) (hxl : x < w.heap.size) (hm : SRow w w.heap.size (some ⟨y, 0, none⟩) ms) (hcx : qs.length ≤ cx) (hok : UOk wd births ks ps ls ph ro qs ms) (hml : ms.length ≤ 100000) :
    Calls Tryz.prog 34 #[.agg #[.int .i64 wd, .int .i64 now, .int .i64 given, .int .i64 births, .slice (some ⟨b, 0, none⟩) ks.length ac, .slice pa ps.length pc, .slice la ls.length lc], .agg #[.int .i64 ph, .slice (some ⟨x, 0, none⟩) qs.length cx, .slice (some ⟨y, 0, none⟩) ms.length cy, .int .i64 top, .int .i64 at_, .int .i64 ro]] w fun e w' => ∃ r b' c zs' qa ma da qc mc dc, LV w w' e wd now given births (.slice pa ps.length pc) (.slice la ls.length lc) ks ps ls ph top at_ ro qs ms b x y zs r b' c zs' qa ma da qc mc dc := by
  refine Calls.mono (R := fun e w' => LU w w' e wd now given births (.slice pa ps.length pc) (.slice la ls.length lc) ks ps ls ph top at_ ro qs ms b x y zs) ?_ (fun e w' h => h.lv)
  subst hzk
  have hzl : zs.length ≤ 600 := by have := hok.ok.len; rw [List.length_map] at this; exact this
  have hr30 : ∀ z ∈ zs, z.1.refs.length ≤ 30 := fun z hz => (hok.refs z.1 (List.mem_map.2 ⟨z, hz, rfl⟩)).1
  rw [List.length_map]
  by_cases h0 : ph = 0
  · subst h0
    exact l6Unit_begin wd now given births b ac _ _ zs ps ls pa la pc lc rfl rfl top at_ ro x y cx cy qs ms w hz hbl hp hl hm hok.pl hok.ll hok.b0 hok.b1
  · cases qs with
    | nil => exact l6Unit_sweep wd now given births b ac zs ps ls pa la pc lc ph top at_ ro x y cx cy ms w h0 hz hbl hxl hp hl hm hzl hok.pl hok.ll hr30 hml hok.r0 hok.r1
    | cons s q0 => exact l6Unit_mark wd now given births b ac zs ps ls pa la pc lc ph top at_ ro x y cx cy s q0 ms w h0 hz hbl hq hm hcx hzl hr30 (by have := hok.ql; simp at this; omega) hml

theorem SRow.turn {w w' : World} {V : List Nat} {a : Option Addr} {ss : List ByteArray} (h : SRow w w.heap.size a ss) (ht : Tn V w w') (hV : ∀ p, a = some p → p.block < w.heap.size → p.block ∉ V) : SRow w' w'.heap.size a ss := by
  rcases h with h | ⟨b, off, rfl, hb, hc⟩
  · exact .inl h
  · exact .inr ⟨b, off, rfl, Nat.lt_of_lt_of_le hb ht.size, fun i s hs => (World.cell?_of_block (ht.block b hb (hV _ rfl hb))).trans (hc i s hs)⟩

theorem PRow.turn {w w' : World} {V : List Nat} {a : Option Addr} {ss : List Pd} (h : PRow w w.heap.size a ss) (ht : Tn V w w') (hV : ∀ p, a = some p → p.block < w.heap.size → p.block ∉ V) : PRow w' w'.heap.size a ss := by
  rcases h with h | ⟨b, off, rfl, hb, hc⟩
  · exact .inl h
  · have hk := ht.block b hb (hV _ rfl hb)
    exact .inr ⟨b, off, rfl, Nat.lt_of_lt_of_le hb ht.size, fun i s hs => ⟨(World.cell?_of_block hk).trans (hc i s hs).1, (World.cell?_of_block hk).trans (hc i s hs).2⟩⟩

theorem LRow.turn {w w' : World} {V : List Nat} {a : Option Addr} {ss : List Ld} (h : LRow w w.heap.size a ss) (ht : Tn V w w') (hV : ∀ p, a = some p → p.block < w.heap.size → p.block ∉ V) : LRow w' w'.heap.size a ss := by
  rcases h with h | ⟨b, off, rfl, hb, hc⟩
  · exact .inl h
  · have hk := ht.block b hb (hV _ rfl hb)
    exact .inr ⟨b, off, rfl, Nat.lt_of_lt_of_le hb ht.size, fun i s hs => ⟨(World.cell?_of_block hk).trans (hc i s hs).1, (World.cell?_of_block hk).trans (hc i s hs).2.1, (World.cell?_of_block hk).trans (hc i s hs).2.2⟩⟩

/-- A copy of a state: its rows lie from n on, below N. -/
structure CZ (n N : Nat) (w : World) (b p l : Nat) (zs : List (Kd × Value)) (ks : List Kd) (ps : List Pd) (ls : List Ld) : Prop where
  zk : zs.map (·.1) = ks
  z : ZRow w b 0 zs
  pr : PRow w w.heap.size (some ⟨p, 0, none⟩) ps
  lr : LRow w w.heap.size (some ⟨l, 0, none⟩) ls
  hb : n ≤ b ∧ b < N
  hp : n ≤ p ∧ p < N
  hl : n ≤ l ∧ l < N
  refs : ∀ z ∈ zs, ∃ ad rc, z.2 = .slice (some ad) z.1.refs.length rc ∧ n ≤ ad.block ∧ ad.block < N
  top : N ≤ w.heap.size

theorem CZ.turn {n N : Nat} {w w' : World} {b p l : Nat} {zs : List (Kd × Value)} {ks : List Kd} {ps : List Pd} {ls : List Ld} (h : CZ n N w b p l zs ks ps ls) {V : List Nat} (ht : Tn V w w') (hV : ∀ v ∈ V, v < n ∨ N ≤ v) : CZ n N w' b p l zs ks ps ls := by
  have hs := ht.size
  have htop := h.top
  have hno : ∀ v, n ≤ v ∧ v < N → v ∉ V := fun v hv e => by have := hV v e; omega
  refine ⟨h.zk, h.z.turn (ht.block b (by have := h.hb; omega) (hno _ h.hb)) (fun z hz => ?_), h.pr.turn ht (fun q e _ => by cases e; exact hno _ h.hp), h.lr.turn ht (fun q e _ => by cases e; exact hno _ h.hl), h.hb, h.hp, h.hl, h.refs, by omega⟩
  obtain ⟨ad, rc, h1, h2⟩ := h.refs z hz
  obtain ⟨i, hi⟩ := List.getElem?_of_mem hz
  obtain ⟨_, ad', rc', h4, h5⟩ := h.z i z hi
  rw [h1] at h4
  cases h4
  exact ⟨ad, rc, h1, h5.turn ht (fun q e _ => by cases e; exact hno _ h2)⟩

theorem CZ.below {n N : Nat} {w w' : World} {b p l : Nat} {zs : List (Kd × Value)} {ks : List Kd} {ps : List Pd} {ls : List Ld} (h : CZ n N w b p l zs ks ps ls) (hb : Below w.heap.size w w') : CZ n N w' b p l zs ks ps ls :=
  h.turn (V := []) (Tn.of hb) (by simp)

theorem CZ.rows {n N : Nat} {w : World} {b p l : Nat} {zs : List (Kd × Value)} {ks : List Kd} {ps : List Pd} {ls : List Ld} (h : CZ n N w b p l zs ks ps ls) : SRows w w.heap.size (some ⟨b, 0, none⟩) (some ⟨p, 0, none⟩) (some ⟨l, 0, none⟩) ks ps ls :=
  ⟨by have := h.z.krow (Nat.lt_of_lt_of_le h.hb.2 h.top); rw [h.zk] at this; exact this, h.pr, h.lr⟩

theorem l4CopyZ (wd now given births : Int) (ab ao pb po lb lo ac pc lc : Nat) (ks : List Kd) (ps : List Pd) (ls : List Ld) (w : World) (hrow : SRows w w.heap.size (some ⟨ab, ao, none⟩) (some ⟨pb, po, none⟩) (some ⟨lb, lo, none⟩) ks ps ls) (hsome : KSome w ⟨ab, ao, none⟩ ks) (hk : ks.length ≤ 600) (hp : ps.length ≤ 100) (hl : ls.length ≤ 200) (hr30 : ∀ k ∈ ks, k.refs.length ≤ 30) :
    Calls Tryz.prog 35 #[.agg #[.int .i64 wd, .int .i64 now, .int .i64 given, .int .i64 births, .slice (some ⟨ab, ao, none⟩) ks.length ac, .slice (some ⟨pb, po, none⟩) ps.length pc, .slice (some ⟨lb, lo, none⟩) ls.length lc]] w fun e w' => ∃ b p l tc pc' lc' zs, e = .returned (.agg #[.int .i64 wd, .int .i64 now, .int .i64 given, .int .i64 births, .slice (some ⟨b, 0, none⟩) ks.length tc, .slice (some ⟨p, 0, none⟩) ps.length pc', .slice (some ⟨l, 0, none⟩) ls.length lc']) ∧ CZ w.heap.size w'.heap.size w' b p l zs ks ps ls ∧ Below w.heap.size w w' := by
  refine (l4Copy_any wd now given births ab ao pb po lb lo ac pc lc ks ps ls w hrow hsome hk hp hl hr30).mono ?_
  rintro e w' ⟨T, P', L', rs, rfl, hS, hv, hb⟩
  obtain ⟨b, n1, tc, rfl⟩ := hv T (by simp)
  obtain ⟨p, n2, pc', rfl⟩ := hv P' (by simp)
  obtain ⟨l, n3, lc', rfl⟩ := hv L' (by simp)
  obtain ⟨_, _, e1⟩ := own_val hS.things
  obtain ⟨_, _, e2⟩ := own_val hS.pins
  obtain ⟨_, _, e3⟩ := own_val hS.leases
  cases e1
  cases e2
  cases e3
  have hlen := hS.len
  have hzl : (ks.zip rs).length = ks.length := by rw [List.length_zip]; omega
  have hzk : (ks.zip rs).map (·.1) = ks := by
    rw [List.map_fst_zip (by omega)]
  have hrefs : ∀ z ∈ ks.zip rs, ∃ g rc, z.2 = .slice (some ⟨g, 0, none⟩) z.1.refs.length rc ∧ w'.ownsRow w.heap.size 9 1 (.slice (some ⟨g, 0, none⟩) z.1.refs.length rc) z.1.refs.length (z.1.refs.map Value.string) := by
    intro z hz
    obtain ⟨i, hi⟩ := List.getElem?_of_mem hz
    obtain ⟨h1, h2⟩ := List.getElem?_zip_eq_some.1 hi
    have ho := hS.refs i _ _ h1 h2
    obtain ⟨g, n, c, hg⟩ := hv z.2 (by simp [List.mem_of_getElem? h2])
    rw [hg] at ho ⊢
    obtain ⟨_, _, e⟩ := own_val ho
    cases e
    exact ⟨g, c, rfl, ho⟩
  have hthings := hS.things
  rw [← hzl] at hthings
  refine ⟨b, p, l, tc, pc', lc', ks.zip rs, rfl, ⟨hzk, ZRow.own hthings (fun z hz => ?_), PRow.own hS.pins, LRow.own hS.leases, own_lt hS.things rfl, own_lt hS.pins rfl, own_lt hS.leases rfl, fun z hz => ?_, Nat.le_refl _⟩, hb⟩
  · obtain ⟨g, rc, h1, h2⟩ := hrefs z hz
    exact ⟨_, rc, h1, SRow.own h2⟩
  · obtain ⟨g, rc, h1, h2⟩ := hrefs z hz
    exact ⟨_, rc, h1, own_lt h2 rfl⟩

theorem CZ.ksome {n N : Nat} {w : World} {b p l : Nat} {zs : List (Kd × Value)} {ks : List Kd} {ps : List Pd} {ls : List Ld} (h : CZ n N w b p l zs ks ps ls) : KSome w ⟨b, 0, none⟩ ks := by
  intro i k hk
  rw [← h.zk, List.getElem?_map] at hk
  obtain ⟨z, hz, rfl⟩ := Option.map_eq_some_iff.1 hk
  obtain ⟨⟨_, _, _, h3⟩, ad, rc, h4, _⟩ := h.z i z hz
  exact ⟨ad, rc, by rw [← h4]; exact h3⟩

end Go.Proofs.YthkmpihfhkmaoaaGreat

/-
  spec.Unit.
-/
namespace Go.Proofs.YthkmpihfhkmaoaaGreat
open Go.ChangeShapes Go.WideShapes Go.ChangeAt Go.RowKit

/-- A Cleared that can be read. -/
structure CRd (w : World) (T P L Q M D : Value) (ks : List Kd) (ps : List Pd) (ls : List Ld) (qs ms ds : List ByteArray) : Prop where
  st : ∃ ta tc pa pc la lc, T = .slice ta ks.length tc ∧ P = .slice pa ps.length pc ∧ L = .slice la ls.length lc ∧ SRows w w.heap.size ta pa la ks ps ls
  q : ∃ a c, Q = .slice a qs.length c ∧ SRow w w.heap.size a qs
  m : ∃ a c, M = .slice a ms.length c ∧ SRow w w.heap.size a ms
  d : ∃ a c, D = .slice a ds.length c ∧ SRow w w.heap.size a ds

theorem CRd.below {w w' : World} {T P L Q M D : Value} {ks : List Kd} {ps : List Pd} {ls : List Ld} {qs ms ds : List ByteArray} (h : CRd w T P L Q M D ks ps ls qs ms ds) (hb : Below w.heap.size w w') : CRd w' T P L Q M D ks ps ls qs ms ds := by
  obtain ⟨⟨ta, tc, pa, pc, la, lc, h1, h2, h3, h4⟩, ⟨a, c, h5, h6⟩, ⟨a', c', h7, h8⟩, ⟨a2, c2, h9, h10⟩⟩ := h
  exact ⟨⟨ta, tc, pa, pc, la, lc, h1, h2, h3, h4.below' hb⟩, ⟨a, c, h5, h6.below' hb⟩, ⟨a', c', h7, h8.below' hb⟩, ⟨a2, c2, h9, h10.below' hb⟩⟩

/-- A Cleared that can be read, and whose rows lie from n on. -/
def CRdN (n : Nat) (w : World) (T P L Q M D : Value) (ks : List Kd) (ps : List Pd) (ls : List Ld) (qs ms ds : List ByteArray) : Prop := ∀ V w', (∀ v ∈ V, v < n) → Tn V w w' → CRd w' T P L Q M D ks ps ls qs ms ds

/-- A Cleared of l6Unit's in a box. -/
structure CU (w0 wx : World) (cb : Nat) (wd now given births : Int) (ks : List Kd) (ps : List Pd) (ls : List Ld) (ph top at_ ro : Int) (qs ms : List ByteArray) (r : UR) (b p l c pc lc : Nat) (qa ma da : Option Addr) (qc mc dc : Nat) : Prop where
  box : CellsAt wx cb [.int .i64 0, .int .i64 wd, .int .i64 now, .int .i64 given, .int .i64 births, .slice (some ⟨b, 0, none⟩) r.ks.length c, .slice (some ⟨p, 0, none⟩) ps.length pc, .slice (some ⟨l, 0, none⟩) ls.length lc, .int .i64 r.ph, .slice qa r.qs.length qc, .slice ma r.ms.length mc, .int .i64 r.top, .int .i64 r.at_, .int .i64 r.ro, .slice da r.ds.length dc]
  uto : UTo ks ps ls births ph top at_ ro qs ms r
  rows : SRows wx wx.heap.size (some ⟨b, 0, none⟩) (some ⟨p, 0, none⟩) (some ⟨l, 0, none⟩) r.ks ps ls
  ksome : KSome wx ⟨b, 0, none⟩ r.ks
  q : ∀ V w', (∀ v ∈ V, v < w0.heap.size ∨ v = cb) → Tn V wx w' → SRow w' w'.heap.size qa r.qs
  m : ∀ V w', (∀ v ∈ V, v < w0.heap.size ∨ v = cb) → Tn V wx w' → SRow w' w'.heap.size ma r.ms
  d : ∀ V w', (∀ v ∈ V, v < w0.heap.size ∨ v = cb) → Tn V wx w' → SRow w' w'.heap.size da r.ds
  low : Below w0.heap.size w0 wx
  cbl : w0.heap.size ≤ cb

theorem CU.made {w0 V w5 wx : World} {cb n N b0 p l x y : Nat} {wd now given births : Int} {ks : List Kd} {ps : List Pd} {ls : List Ld} {ph top at_ ro : Int} {qs ms : List ByteArray} {r : UR} {b c pc lc : Nat} {zs0 zs : List (Kd × Value)} {qa ma da : Option Addr} {qc mc dc : Nat} {e : Ending} (hC : CZ n N V b0 p l zs0 ks ps ls) (hn : w0.heap.size ≤ n) (hcz : cb < n ∨ N ≤ cb) (hx : w0.heap.size ≤ x) (hy : w0.heap.size ≤ y) (hcx : cb ≠ x) (hcy : cb ≠ y) (hcV : cb < V.heap.size ∨ w5.heap.size ≤ cb) (h0 : w0.heap.size ≤ cb) (hVl : w0.heap.size ≤ V.heap.size) (hL : LV V w5 e wd now given births (.slice (some ⟨p, 0, none⟩) ps.length pc) (.slice (some ⟨l, 0, none⟩) ls.length lc) ks ps ls ph top at_ ro qs ms b0 x y zs0 r b c zs qa ma da qc mc dc) (hlow : Below w0.heap.size w0 w5) (hT : Tn [cb] w5 wx) (hbox : CellsAt wx cb [.int .i64 0, .int .i64 wd, .int .i64 now, .int .i64 given, .int .i64 births, .slice (some ⟨b, 0, none⟩) r.ks.length c, .slice (some ⟨p, 0, none⟩) ps.length pc, .slice (some ⟨l, 0, none⟩) ls.length lc, .int .i64 r.ph, .slice qa r.qs.length qc, .slice ma r.ms.length mc, .int .i64 r.top, .int .i64 r.at_, .int .i64 r.ro, .slice da r.ds.length dc]) : CU w0 wx cb wd now given births ks ps ls ph top at_ ro qs ms r b p l c pc lc qa ma da qc mc dc := by
  have hb0 := hC.hb
  have hfar : ∀ (a : Option Addr), Far b0 x y V.heap.size a → ∀ q, a = some q → q.block < w5.heap.size → q.block ≠ cb ∧ w0.heap.size ≤ q.block := by
    intro a hf q hq hl
    have := hf q hq
    omega
  have hC5 := (hC.below hL.low).turn hT (by simpa using hcz)
  have hbf := hfar _ hL.fb ⟨b, 0, none⟩ rfl hL.lt
  have hZ : ZRow wx b 0 zs := hL.z.turn (hT.block b hL.lt (by simp; exact hbf.1)) (fun z hz => by
    obtain ⟨i, hi⟩ := List.getElem?_of_mem (hL.sub z hz)
    obtain ⟨_, ad, rc, h1, h2⟩ := hC5.z i z hi
    exact ⟨ad, rc, h1, h2⟩)
  have hlx : b < wx.heap.size := Nat.lt_of_lt_of_le hL.lt hT.size
  have hrow : ∀ (a : Option Addr) (ss : List ByteArray), SRow w5 w5.heap.size a ss → Far b0 x y V.heap.size a → ∀ V' w', (∀ v ∈ V', v < w0.heap.size ∨ v = cb) → Tn V' wx w' → SRow w' w'.heap.size a ss := fun a ss hs hf V' w' hV' ht =>
    hs.turn (V := cb :: V') ((hT.mono (by simp)).trans (ht.mono (fun b hb => List.mem_cons_of_mem _ hb))) (fun q hq hl e => by
      have h1 := hfar a hf q hq hl
      rcases List.mem_cons.1 e with e | e
      · exact h1.1 e
      · rcases hV' _ e with h2 | h2
        · omega
        · exact h1.1 h2)
  refine ⟨hbox, hL.uto, ⟨by have := hZ.krow hlx; rw [hL.zk] at this; exact this, hC5.pr, hC5.lr⟩, fun i k hk => ?_, hrow _ _ hL.q hL.fq, hrow _ _ hL.m hL.fm, hrow _ _ hL.d hL.fd, hlow.trans (hT.below hlow.size (by simpa using h0)), h0⟩
  rw [← hL.zk, List.getElem?_map] at hk
  obtain ⟨z, hz, rfl⟩ := Option.map_eq_some_iff.1 hk
  obtain ⟨⟨_, _, _, h3⟩, ad, rc, h4, _⟩ := hZ i z hz
  exact ⟨ad, rc, by rw [← h4]; exact h3⟩

theorem cell_lt {w : World} {g o : Nat} {v : Value} (h : w.cell? ⟨g, o, none⟩ = some v) : g < w.heap.size := World.block_lt_of_cell? w _ h

theorem KSome.below {w w' : World} {g : Nat} {ks : List Kd} (h : KSome w ⟨g, 0, none⟩ ks) (hb : Below w.heap.size w w') : KSome w' ⟨g, 0, none⟩ ks := by
  intro i k hk
  obtain ⟨ad, rc, h1⟩ := h i k hk
  exact ⟨ad, rc, (hb.cell (p := ⟨g, 0 + i * 4 + 3, none⟩) (cell_lt h1)).trans h1⟩

theorem own_cap {w : World} {base : Nat} {e : TypeId} {g n c : Nat} {xs : List Value} (h : w.ownsRow base e 1 (.slice (some ⟨g, 0, none⟩) n c) n xs) : n ≤ c := by
  rcases h.2 with ⟨e, _⟩ | ⟨g', cap, cur, he, _, _, hc, _⟩
  · cases e
  · cases he; exact hc

theorem sUnit_end {w X wf : World} {e : Ending} {wd now given births : Int} {ks : List Kd} {ps : List Pd} {ls : List Ld} {ph top at_ ro : Int} {qs ms : List ByteArray} (V : List Nat) (H : ∀ wf, Tn V X wf → ∃ o T P L Q M D, e = .returned (clV o T P L Q M D) ∧ UnitTo wd now given births ks ps ls ph top at_ ro qs ms o ∧ CRdN w.heap.size wf T P L Q M D o.r.ks o.ps o.ls o.r.qs o.r.ms o.r.ds ∧ Below w.heap.size w wf) (hT : Tn V X wf) : ∃ o T P L Q M D, e = .returned (clV o T P L Q M D) ∧ UnitTo wd now given births ks ps ls ph top at_ ro qs ms o ∧ CRdN w.heap.size wf T P L Q M D o.r.ks o.ps o.ls o.r.qs o.r.ms o.r.ds ∧ Below w.heap.size w wf := H wf hT

set_option maxRecDepth 20000 in
set_option maxHeartbeats 16000000 in
theorem sUnit_any (wd now given births : Int) (ga gp gl : Nat) (ac pc lc : Nat) (ks : List Kd) (ps : List Pd) (ls : List Ld) (ph top at_ ro : Int) (g h : Nat) (qac mac : Nat) (qs ms : List ByteArray) (w : World)
    (hrow : SRows w w.heap.size (some ⟨ga, 0, none⟩) (some ⟨gp, 0, none⟩) (some ⟨gl, 0, none⟩) ks ps ls) (hsome : KSome w ⟨ga, 0, none⟩ ks) (hk : KMem ks) (hp : PMem ps) (hf : SFit ks ps ls) (hq : SRow w w.heap.size (some ⟨g, 0, none⟩) qs) (hm : SRow w w.heap.size (some ⟨h, 0, none⟩) ms) (hrf : RFit qs ms) (hcap : ms.length ≤ mac) :
    Calls Tryz.prog 7 #[.agg #[.int .i64 wd, .int .i64 now, .int .i64 given, .int .i64 births, .slice (some ⟨ga, 0, none⟩) ks.length ac, .slice (some ⟨gp, 0, none⟩) ps.length pc, .slice (some ⟨gl, 0, none⟩) ls.length lc], .agg #[.int .i64 ph, .slice (some ⟨g, 0, none⟩) qs.length qac, .slice (some ⟨h, 0, none⟩) ms.length mac, .int .i64 top, .int .i64 at_, .int .i64 ro]] w fun e w' => ∃ o T P L Q M D, e = .returned (clV o T P L Q M D) ∧ UnitTo wd now given births ks ps ls ph top at_ ro qs ms o ∧ CRdN w.heap.size w' T P L Q M D o.r.ks o.ps o.ls o.r.qs o.r.ms o.r.ds ∧ Below w.heap.size w w' := by
  obtain ⟨W, hW⟩ : ∃ W, W = ((w.alloc (.cells #[.int .i64 wd, .int .i64 now, .int .i64 given, .int .i64 births, .slice (some ⟨ga, 0, none⟩) ks.length ac, .slice (some ⟨gp, 0, none⟩) ps.length pc, .slice (some ⟨gl, 0, none⟩) ls.length lc] 36)).alloc (.cells #[.int .i64 ph, .slice (some ⟨g, 0, none⟩) qs.length qac, .slice (some ⟨h, 0, none⟩) ms.length mac, .int .i64 top, .int .i64 at_, .int .i64 ro] 37)).alloc (.cells #[.int .i64 0, .int .i64 0, .int .i64 0, .int .i64 0, .int .i64 0, .slice none 0 0, .slice none 0 0, .slice none 0 0, .int .i64 0, .slice none 0 0, .slice none 0 0, .int .i64 0, .int .i64 0, .int .i64 0, .slice none 0 0] 39) := ⟨_, rfl⟩
  have hbW : Below w.heap.size w W := by rw [hW]; exact (((Below.refl _ _).alloc (Nat.le_refl _) _).alloc (by simp) _).alloc (by simp; omega) _
  have x2 : CellsAt W (w.heap.size + 2) z15 := by
    have h1 := CellsAt.new ((w.alloc (.cells #[.int .i64 wd, .int .i64 now, .int .i64 given, .int .i64 births, .slice (some ⟨ga, 0, none⟩) ks.length ac, .slice (some ⟨gp, 0, none⟩) ps.length pc, .slice (some ⟨gl, 0, none⟩) ls.length lc] 36)).alloc (.cells #[.int .i64 ph, .slice (some ⟨g, 0, none⟩) qs.length qac, .slice (some ⟨h, 0, none⟩) ms.length mac, .int .i64 top, .int .i64 at_, .int .i64 ro] 37)) z15 39
    rw [hW]
    simpa [z15] using h1
  have x1 : RBox W (w.heap.size + 1) ph (.slice (some ⟨g, 0, none⟩) qs.length qac) (.slice (some ⟨h, 0, none⟩) ms.length mac) top at_ ro := by
    rw [hW]; exact ⟨by simp [go_sem], by simp [go_sem], by simp [go_sem], by simp [go_sem], by simp [go_sem], by simp [go_sem], by simp <;> omega⟩
  have x0 : SBox W w.heap.size wd now given births (.slice (some ⟨ga, 0, none⟩) ks.length ac) (.slice (some ⟨gp, 0, none⟩) ps.length pc) (.slice (some ⟨gl, 0, none⟩) ls.length lc) := by
    rw [hW]; exact ⟨by simp [go_sem], by simp [go_sem], by simp [go_sem], by simp [go_sem], by simp [go_sem], by simp [go_sem], by simp [go_sem], by simp <;> omega⟩
  have hzW : W.heap.size = w.heap.size + 3 := by rw [hW]; simp
  have HW : Hid _ := hW
  clear hW
  go_enter Tryz.func7, Tryz.ntmps7
  go_wp2_with fail
  rw [← HW.out]
  refine (sValidRound_any wd now given births _ _ _ _ _ _ ks ps ls ph top at_ ro _ _ _ _ qs ms W (hrow.below' hbW) hk hp hf (hq.below' hbW) (hm.below' hbW) hrf hcap).mono ?_
  rintro e w2 ⟨b2, rfl, hs2, hb2⟩
  have hB2 := hbW.trans (hb2.mono hbW.size)
  have HX0 : Hid _ := x0.below hb2
  have HX1 : Hid _ := x1.below hb2
  have HX2 : Hid (CellsAt w2 (w.heap.size + 2) z15) := CellsAt.below (v := .int .i64 0) x2 hb2
  have hz2 : w.heap.size + 3 ≤ w2.heap.size := by have := hb2.size; omega
  have HS2 : Hid (b2 = true ↔ (StateOk wd now given births ks ps ls ∧ RoundOk wd births ph top at_ ro qs ms)) := hs2
  have HB2 : Hid (Below w.heap.size w w2) := hB2
  clear hb2 x0 x1 x2 HW hs2 hbW hzW
  by_cases hgood : b2 = true ∧ ro ≠ 1000000000
  · obtain ⟨rfl, hro⟩ := hgood
    have hP := HS2.out.1 rfl
    have HP : Hid ((StateOk wd now given births ks ps ls ∧ RoundOk wd births ph top at_ ro qs ms) ∧ ro ≠ 1000000000) := ⟨hP, hro⟩
    have hro' : ¬ (1000000000 ≤ ro) := by have := hP.2.ro2; omega
    have hU := uok_of hP.1 hP.2
    have HUO : Hid (UOk wd births ks ps ls ph ro qs ms) := hU
    have HML : Hid (ms.length ≤ 100000) := by show _ ≤ _; have := hP.2.sums.nm; omega
    have HSR : Hid (∀ X, Below w2.heap.size w2 X → X.cell? ⟨w.heap.size, 0, none⟩ = some (.int .i64 wd) ∧ X.cell? ⟨w.heap.size, 1, none⟩ = some (.int .i64 now) ∧ X.cell? ⟨w.heap.size, 2, none⟩ = some (.int .i64 given) ∧ X.cell? ⟨w.heap.size, 3, none⟩ = some (.int .i64 births) ∧ X.cell? ⟨w.heap.size, 4, none⟩ = some (.slice (some ⟨ga, 0, none⟩) ks.length ac) ∧ X.cell? ⟨w.heap.size, 5, none⟩ = some (.slice (some ⟨gp, 0, none⟩) ps.length pc) ∧ X.cell? ⟨w.heap.size, 6, none⟩ = some (.slice (some ⟨gl, 0, none⟩) ls.length lc) ∧ X.cell? ⟨w.heap.size + 1, 0, none⟩ = some (.int .i64 ph) ∧ X.cell? ⟨w.heap.size + 1, 1, none⟩ = some (.slice (some ⟨g, 0, none⟩) qs.length qac) ∧ X.cell? ⟨w.heap.size + 1, 2, none⟩ = some (.slice (some ⟨h, 0, none⟩) ms.length mac) ∧ X.cell? ⟨w.heap.size + 1, 3, none⟩ = some (.int .i64 top) ∧ X.cell? ⟨w.heap.size + 1, 4, none⟩ = some (.int .i64 at_) ∧ X.cell? ⟨w.heap.size + 1, 5, none⟩ = some (.int .i64 ro)) := fun X hX => by
      have h1 := sq7 (SBox.below HX0.out hX)
      have h2 := rq6 (RBox.below HX1.out hX)
      exact ⟨h1.1, h1.2.1, h1.2.2.1, h1.2.2.2.1, h1.2.2.2.2.1, h1.2.2.2.2.2.1, h1.2.2.2.2.2.2, h2⟩
    have HCopy : Hid (∀ X, Below w2.heap.size w2 X → Calls Tryz.prog 35 #[.agg #[.int .i64 wd, .int .i64 now, .int .i64 given, .int .i64 births, .slice (some ⟨ga, 0, none⟩) ks.length ac, .slice (some ⟨gp, 0, none⟩) ps.length pc, .slice (some ⟨gl, 0, none⟩) ls.length lc]] X fun e w' => ∃ b p l tc pc' lc' zs, e = .returned (.agg #[.int .i64 wd, .int .i64 now, .int .i64 given, .int .i64 births, .slice (some ⟨b, 0, none⟩) ks.length tc, .slice (some ⟨p, 0, none⟩) ps.length pc', .slice (some ⟨l, 0, none⟩) ls.length lc']) ∧ CZ X.heap.size w'.heap.size w' b p l zs ks ps ls ∧ Below X.heap.size X w') := fun X hX =>
      l4CopyZ wd now given births ga 0 gp 0 gl 0 ac pc lc ks ps ls X (hrow.below' (hB2.trans (hX.mono hB2.size))) (hsome.below (hB2.trans (hX.mono hB2.size))) hU.ok.len hU.pl hU.ll (fun k hk => (hU.refs k hk).1)
    have HRound : Hid (∀ X, Below w2.heap.size w2 X → Calls Tryz.prog 36 #[.agg #[.int .i64 ph, .slice (some ⟨g, 0, none⟩) qs.length qac, .slice (some ⟨h, 0, none⟩) ms.length mac, .int .i64 top, .int .i64 at_, .int .i64 ro]] X fun e w' => ∃ x cx y cy, e = .returned (.agg #[.int .i64 ph, .slice (some ⟨x, 0, none⟩) qs.length cx, .slice (some ⟨y, 0, none⟩) ms.length cy, .int .i64 top, .int .i64 at_, .int .i64 ro]) ∧
      w'.ownsRow X.heap.size 9 1 (.slice (some ⟨x, 0, none⟩) qs.length cx) qs.length (qs.map Value.string) ∧ w'.ownsRow X.heap.size 9 1 (.slice (some ⟨y, 0, none⟩) ms.length cy) ms.length (ms.map Value.string) ∧ x ≠ y ∧ Below X.heap.size X w') := fun X hX =>
      l6Round_any ph top at_ ro g h qac mac qs ms X (hq.below' (hB2.trans (hX.mono hB2.size))) (hm.below' (hB2.trans (hX.mono hB2.size))) hrf
    have HUnit : Hid (∀ (X : World) (n N nn b p l tc pc' lc' x cx y cy : Nat) zs, CZ n N X b p l zs ks ps ls → X.ownsRow nn 9 1 (.slice (some ⟨x, 0, none⟩) qs.length cx) qs.length (qs.map Value.string) → X.ownsRow nn 9 1 (.slice (some ⟨y, 0, none⟩) ms.length cy) ms.length (ms.map Value.string) → Calls Tryz.prog 34 #[.agg #[.int .i64 wd, .int .i64 now, .int .i64 given, .int .i64 births, .slice (some ⟨b, 0, none⟩) ks.length tc, .slice (some ⟨p, 0, none⟩) ps.length pc', .slice (some ⟨l, 0, none⟩) ls.length lc'], .agg #[.int .i64 ph, .slice (some ⟨x, 0, none⟩) qs.length cx, .slice (some ⟨y, 0, none⟩) ms.length cy, .int .i64 top, .int .i64 at_, .int .i64 ro]] X fun e w' => ∃ r b' c zs' qa ma da qc mc dc, LV X w' e wd now given births (.slice (some ⟨p, 0, none⟩) ps.length pc') (.slice (some ⟨l, 0, none⟩) ls.length lc') ks ps ls ph top at_ ro qs ms b x y zs r b' c zs' qa ma da qc mc dc) := fun X n N nn b p l tc pc' lc' x cx y cy zs hC hx hy =>
      l6Unit_any wd now given births b tc zs ks ps ls _ _ pc' lc' ph top at_ ro x y cx cy qs ms X hC.zk hC.z (Nat.lt_of_lt_of_le hC.hb.2 hC.top) hC.pr hC.lr (SRow.own hx) (own_lt hx rfl).2 (SRow.own hy) (own_cap hx) HUO.out HML.out
    have D0 : Below w2.heap.size w2 w2.drew := (Below.refl _ _).drew
    have D1 : ∀ o, Below w2.heap.size w2 (w2.alloc o).drew := fun o => ((Below.refl _ _).alloc (Nat.le_refl _) _).drew
    obtain ⟨p0, p1, p2, p3, p4, p5, p6⟩ := HX1.out
    clear hrow hk hp hf hq hm hB2 HS2 hP hU hsome
    go_upto_region 3 with fail
    clear p0 p1 p2 p3 p4 p5 p6
    go_cut [5] (fun v wx => ∃ (cb : Nat) (r : UR) (b p l c pc lc : Nat) (qa ma da : Option Addr) (qc mc dc : Nat), v = .pointer (some ⟨cb, 0, none⟩) ∧ Hid (CU w2 wx cb wd now given births ks ps ls ph top at_ ro qs ms r b p l c pc lc qa ma da qc mc dc))
    case first =>
      go_region_held3 (fun X => X.cell? ⟨w.heap.size, 0, none⟩ = some (.int .i64 wd) ∧ X.cell? ⟨w.heap.size, 1, none⟩ = some (.int .i64 now) ∧ X.cell? ⟨w.heap.size, 2, none⟩ = some (.int .i64 given) ∧ X.cell? ⟨w.heap.size, 3, none⟩ = some (.int .i64 births) ∧ X.cell? ⟨w.heap.size, 4, none⟩ = some (.slice (some ⟨ga, 0, none⟩) ks.length ac) ∧ X.cell? ⟨w.heap.size, 5, none⟩ = some (.slice (some ⟨gp, 0, none⟩) ps.length pc) ∧ X.cell? ⟨w.heap.size, 6, none⟩ = some (.slice (some ⟨gl, 0, none⟩) ls.length lc) ∧ X.cell? ⟨w.heap.size + 1, 0, none⟩ = some (.int .i64 ph) ∧ X.cell? ⟨w.heap.size + 1, 1, none⟩ = some (.slice (some ⟨g, 0, none⟩) qs.length qac) ∧ X.cell? ⟨w.heap.size + 1, 2, none⟩ = some (.slice (some ⟨h, 0, none⟩) ms.length mac) ∧ X.cell? ⟨w.heap.size + 1, 3, none⟩ = some (.int .i64 top) ∧ X.cell? ⟨w.heap.size + 1, 4, none⟩ = some (.int .i64 at_) ∧ X.cell? ⟨w.heap.size + 1, 5, none⟩ = some (.int .i64 ro))
        (first
          | with_reducible exact HSR.out _ D0
          | with_reducible exact HSR.out _ (D1 _)
          | with_reducible exact HSR.out _ B3
          | with_reducible exact HSR.out _ (B3.alloc B3.size _)
          | with_reducible exact HSR.out _ B4
          | with_reducible exact HSR.out _ (B4.alloc B4.size _)
          | with_reducible exact HSR.out _ B5
          | with_reducible exact HSR.out _ (B5.alloc B5.size _)
          | with_reducible exact HSR.out _ (B5.trans ((tn15 w5 _ _ _ _ _ _ _ _ _ _ _ _ _ _ _ _).below B5.size (by intro v hv; simp at hv; omega))))
        (first
          | (go_at_call 35; guard_target =~ Calls Tryz.prog 35 _ (World.drew (World.alloc w2 _)) _; refine Calls.mono (HCopy.out (w2.alloc (.cells #[.int .i64 0, .int .i64 0, .int .i64 0, .int .i64 0, .int .i64 0, .slice none 0 0, .slice none 0 0, .slice none 0 0, .int .i64 0, .slice none 0 0, .slice none 0 0, .int .i64 0, .int .i64 0, .int .i64 0, .slice none 0 0] 39)).drew (D1 _)) ?_; rintro e w3 ⟨b, p, l, tc, pc', lc', zs, rfl, hC3, hb3⟩; have B3 : Below w2.heap.size w2 w3 := (D1 _).trans (hb3.mono (by simp)); have zA : CellsAt w3 w2.heap.size z15 := CellsAt.below (v := .int .i64 0) (w := (w2.alloc (.cells #[.int .i64 0, .int .i64 0, .int .i64 0, .int .i64 0, .int .i64 0, .slice none 0 0, .slice none 0 0, .slice none 0 0, .int .i64 0, .slice none 0 0, .slice none 0 0, .int .i64 0, .int .i64 0, .int .i64 0, .slice none 0 0] 39))) (CellsAt.new w2 z15 39) (below_undrew hb3))
          | (go_at_call 35; guard_target =~ Calls Tryz.prog 35 _ (World.drew w2) _; refine Calls.mono (HCopy.out w2.drew D0) ?_; rintro e w3 ⟨b, p, l, tc, pc', lc', zs, rfl, hC3, hb3⟩; have B3 : Below w2.heap.size w2 w3 := D0.trans hb3)
          | (go_at_call 36; have tag := zA; refine Calls.mono (HRound.out w3 B3) ?_; rintro e w4 ⟨x, cx, y, cy, rfl, ox, oy, hxy, hb4⟩; have hwx : _ := own_lt ox rfl; have hwy : _ := own_lt oy rfl; have B4 : Below w2.heap.size w2 w4 := B3.trans (hb4.mono B3.size); have zA4 : CellsAt w4 w2.heap.size z15 := CellsAt.below (v := .int .i64 0) zA hb4; have hC4 := hC3.below hb4)
          | (go_at_call 36; guard_target =~ Calls Tryz.prog 36 _ (World.alloc w3 _) _; refine Calls.mono (HRound.out (w3.alloc (.cells #[.int .i64 0, .int .i64 0, .int .i64 0, .int .i64 0, .int .i64 0, .slice none 0 0, .slice none 0 0, .slice none 0 0, .int .i64 0, .slice none 0 0, .slice none 0 0, .int .i64 0, .int .i64 0, .int .i64 0, .slice none 0 0] 39)) (B3.alloc B3.size _)) ?_; rintro e w4 ⟨x, cx, y, cy, rfl, ox, oy, hxy, hb4⟩; have hwx : _ := own_lt ox rfl; have hwy : _ := own_lt oy rfl; have B4 : Below w2.heap.size w2 w4 := (B3.alloc B3.size _).trans (hb4.mono (by have := B3.size; simp; omega)); have zB4 : CellsAt w4 w3.heap.size z15 := CellsAt.below (v := .int .i64 0) (w := (w3.alloc (.cells #[.int .i64 0, .int .i64 0, .int .i64 0, .int .i64 0, .int .i64 0, .slice none 0 0, .slice none 0 0, .slice none 0 0, .int .i64 0, .slice none 0 0, .slice none 0 0, .int .i64 0, .int .i64 0, .int .i64 0, .slice none 0 0] 39))) (CellsAt.new w3 z15 39) hb4; have hC4 := (hC3.below ((Below.refl _ _).alloc (Nat.le_refl _) _)).below hb4)
          | (go_at_call 36; refine Calls.mono (HRound.out w3 B3) ?_; rintro e w4 ⟨x, cx, y, cy, rfl, ox, oy, hxy, hb4⟩; have hwx : _ := own_lt ox rfl; have hwy : _ := own_lt oy rfl; have B4 : Below w2.heap.size w2 w4 := B3.trans (hb4.mono B3.size); have hC4 := hC3.below hb4; have nAB := hb4)
          | (go_at_call 34; have tag := zA4; refine Calls.mono (HUnit.out w4 _ _ _ b p l tc pc' lc' x cx y cy zs hC4 ox oy) ?_; rintro e w5 ⟨r, b', c, zs', qa, ma, da, qc, mc, dc, hL⟩; have hee := hL.e; subst hee; have B5 : Below w2.heap.size w2 w5 := B4.trans (hL.low.mono B4.size); have zA5 : CellsAt w5 w2.heap.size z15 := CellsAt.below (v := .int .i64 0) zA4 hL.low; have hsb5 : w2.heap.size ≤ w2.heap.size := (by first | exact B3.size | exact Nat.le_refl _); obtain ⟨⟨y0, q0⟩, ⟨y1, q1⟩, ⟨y2, q2⟩, ⟨y3, q3⟩, ⟨y4, q4⟩, ⟨y5, q5⟩, ⟨y6, q6⟩, ⟨y7, q7⟩, ⟨y8, q8⟩, ⟨y9, q9⟩, ⟨y10, q10⟩, ⟨y11, q11⟩, ⟨y12, q12⟩, ⟨y13, q13⟩, y14, q14⟩ := c15 zA5)
          | (go_at_call 34; have tag := zB4; refine Calls.mono (HUnit.out w4 _ _ _ b p l tc pc' lc' x cx y cy zs hC4 ox oy) ?_; rintro e w5 ⟨r, b', c, zs', qa, ma, da, qc, mc, dc, hL⟩; have hee := hL.e; subst hee; have B5 : Below w2.heap.size w2 w5 := B4.trans (hL.low.mono B4.size); have zB5 : CellsAt w5 w3.heap.size z15 := CellsAt.below (v := .int .i64 0) zB4 hL.low; have hsb5 : w2.heap.size ≤ w3.heap.size := (by first | exact B3.size | exact Nat.le_refl _); obtain ⟨⟨y0, q0⟩, ⟨y1, q1⟩, ⟨y2, q2⟩, ⟨y3, q3⟩, ⟨y4, q4⟩, ⟨y5, q5⟩, ⟨y6, q6⟩, ⟨y7, q7⟩, ⟨y8, q8⟩, ⟨y9, q9⟩, ⟨y10, q10⟩, ⟨y11, q11⟩, ⟨y12, q12⟩, ⟨y13, q13⟩, y14, q14⟩ := c15 zB5)
          | (go_at_call 34; guard_target =~ Calls Tryz.prog 34 _ (World.alloc w4 _) _; refine Calls.mono (HUnit.out (w4.alloc (.cells #[.int .i64 0, .int .i64 0, .int .i64 0, .int .i64 0, .int .i64 0, .slice none 0 0, .slice none 0 0, .slice none 0 0, .int .i64 0, .slice none 0 0, .slice none 0 0, .int .i64 0, .int .i64 0, .int .i64 0, .slice none 0 0] 39)) _ _ _ b p l tc pc' lc' x cx y cy zs (hC4.below ((Below.refl _ _).alloc (Nat.le_refl _) _)) (own_below ox ((Below.refl _ _).alloc (Nat.le_refl _) _)) (own_below oy ((Below.refl _ _).alloc (Nat.le_refl _) _))) ?_; rintro e w5 ⟨r, b', c, zs', qa, ma, da, qc, mc, dc, hL⟩; have hee := hL.e; subst hee; have B5 : Below w2.heap.size w2 w5 := (B4.alloc B4.size _).trans (hL.low.mono (by have := B4.size; simp; omega)); have zC5 : CellsAt w5 w4.heap.size z15 := CellsAt.below (v := .int .i64 0) (w := (w4.alloc (.cells #[.int .i64 0, .int .i64 0, .int .i64 0, .int .i64 0, .int .i64 0, .slice none 0 0, .slice none 0 0, .slice none 0 0, .int .i64 0, .slice none 0 0, .slice none 0 0, .int .i64 0, .int .i64 0, .int .i64 0, .slice none 0 0] 39))) (CellsAt.new w4 z15 39) hL.low; have hsb5 : w2.heap.size ≤ w4.heap.size := B4.size; obtain ⟨⟨y0, q0⟩, ⟨y1, q1⟩, ⟨y2, q2⟩, ⟨y3, q3⟩, ⟨y4, q4⟩, ⟨y5, q5⟩, ⟨y6, q6⟩, ⟨y7, q7⟩, ⟨y8, q8⟩, ⟨y9, q9⟩, ⟨y10, q10⟩, ⟨y11, q11⟩, ⟨y12, q12⟩, ⟨y13, q13⟩, y14, q14⟩ := c15 zC5)
          | (go_at_call 34; have tag := nAB; refine Calls.mono (HUnit.out w4 _ _ _ b p l tc pc' lc' x cx y cy zs hC4 ox oy) ?_; rintro e w5 ⟨r, b', c, zs', qa, ma, da, qc, mc, dc, hL⟩; have hee := hL.e; subst hee; have B5 : Below w2.heap.size w2 w5 := B4.trans (hL.low.mono B4.size); have nD := nAB))
      all_goals (go_wp2_with fail; go_meet)
      all_goals first
        | (have tag := zA5
           exact ⟨_, r, b', p, l, c, pc', lc', qa, ma, da, qc, mc, dc, rfl, CU.made (V := w4) hC4 (by have h1 := hb3.size; have h2 := B3.size; have h3 := hb4.size; have h4 := hL.low.size; have h5 := own_lt ox rfl; have h6 := own_lt oy rfl; have h7 := B4.size; try simp only [World.size_alloc, World.size_drew] at h1 h2 h3 h4 h5 h6 h7 ⊢; omega) (by have h1 := hb3.size; have h2 := B3.size; have h3 := hb4.size; have h4 := hL.low.size; have h5 := own_lt ox rfl; have h6 := own_lt oy rfl; have h7 := B4.size; try simp only [World.size_alloc, World.size_drew] at h1 h2 h3 h4 h5 h6 h7 ⊢; omega) (by have h1 := hb3.size; have h2 := B3.size; have h3 := hb4.size; have h4 := hL.low.size; have h5 := own_lt ox rfl; have h6 := own_lt oy rfl; have h7 := B4.size; try simp only [World.size_alloc, World.size_drew] at h1 h2 h3 h4 h5 h6 h7 ⊢; omega) (by have h1 := hb3.size; have h2 := B3.size; have h3 := hb4.size; have h4 := hL.low.size; have h5 := own_lt ox rfl; have h6 := own_lt oy rfl; have h7 := B4.size; try simp only [World.size_alloc, World.size_drew] at h1 h2 h3 h4 h5 h6 h7 ⊢; omega) (by have h1 := hb3.size; have h2 := B3.size; have h3 := hb4.size; have h4 := hL.low.size; have h5 := own_lt ox rfl; have h6 := own_lt oy rfl; have h7 := B4.size; try simp only [World.size_alloc, World.size_drew] at h1 h2 h3 h4 h5 h6 h7 ⊢; omega) (by have h1 := hb3.size; have h2 := B3.size; have h3 := hb4.size; have h4 := hL.low.size; have h5 := own_lt ox rfl; have h6 := own_lt oy rfl; have h7 := B4.size; try simp only [World.size_alloc, World.size_drew] at h1 h2 h3 h4 h5 h6 h7 ⊢; omega) (by have h1 := hb3.size; have h2 := B3.size; have h3 := hb4.size; have h4 := hL.low.size; have h5 := own_lt ox rfl; have h6 := own_lt oy rfl; have h7 := B4.size; try simp only [World.size_alloc, World.size_drew] at h1 h2 h3 h4 h5 h6 h7 ⊢; omega) (by have h1 := hb3.size; have h2 := B3.size; have h3 := hb4.size; have h4 := hL.low.size; have h5 := own_lt ox rfl; have h6 := own_lt oy rfl; have h7 := B4.size; try simp only [World.size_alloc, World.size_drew] at h1 h2 h3 h4 h5 h6 h7 ⊢; omega) (by have h1 := hb3.size; have h2 := B3.size; have h3 := hb4.size; have h4 := hL.low.size; have h5 := own_lt ox rfl; have h6 := own_lt oy rfl; have h7 := B4.size; try simp only [World.size_alloc, World.size_drew] at h1 h2 h3 h4 h5 h6 h7 ⊢; omega) hL B5 (tn15 w5 _ _ _ _ _ _ _ _ _ _ _ _ _ _ _ _) (set15 zA5 _ _ _ _ _ _ _ _ _ _ _ _ _ _ _)⟩)
        | (have tag := zB5
           exact ⟨_, r, b', p, l, c, pc', lc', qa, ma, da, qc, mc, dc, rfl, CU.made (V := w4) hC4 (by have h1 := hb3.size; have h2 := B3.size; have h3 := hb4.size; have h4 := hL.low.size; have h5 := own_lt ox rfl; have h6 := own_lt oy rfl; have h7 := B4.size; try simp only [World.size_alloc, World.size_drew] at h1 h2 h3 h4 h5 h6 h7 ⊢; omega) (by have h1 := hb3.size; have h2 := B3.size; have h3 := hb4.size; have h4 := hL.low.size; have h5 := own_lt ox rfl; have h6 := own_lt oy rfl; have h7 := B4.size; try simp only [World.size_alloc, World.size_drew] at h1 h2 h3 h4 h5 h6 h7 ⊢; omega) (by have h1 := hb3.size; have h2 := B3.size; have h3 := hb4.size; have h4 := hL.low.size; have h5 := own_lt ox rfl; have h6 := own_lt oy rfl; have h7 := B4.size; try simp only [World.size_alloc, World.size_drew] at h1 h2 h3 h4 h5 h6 h7 ⊢; omega) (by have h1 := hb3.size; have h2 := B3.size; have h3 := hb4.size; have h4 := hL.low.size; have h5 := own_lt ox rfl; have h6 := own_lt oy rfl; have h7 := B4.size; try simp only [World.size_alloc, World.size_drew] at h1 h2 h3 h4 h5 h6 h7 ⊢; omega) (by have h1 := hb3.size; have h2 := B3.size; have h3 := hb4.size; have h4 := hL.low.size; have h5 := own_lt ox rfl; have h6 := own_lt oy rfl; have h7 := B4.size; try simp only [World.size_alloc, World.size_drew] at h1 h2 h3 h4 h5 h6 h7 ⊢; omega) (by have h1 := hb3.size; have h2 := B3.size; have h3 := hb4.size; have h4 := hL.low.size; have h5 := own_lt ox rfl; have h6 := own_lt oy rfl; have h7 := B4.size; try simp only [World.size_alloc, World.size_drew] at h1 h2 h3 h4 h5 h6 h7 ⊢; omega) (by have h1 := hb3.size; have h2 := B3.size; have h3 := hb4.size; have h4 := hL.low.size; have h5 := own_lt ox rfl; have h6 := own_lt oy rfl; have h7 := B4.size; try simp only [World.size_alloc, World.size_drew] at h1 h2 h3 h4 h5 h6 h7 ⊢; omega) (by have h1 := hb3.size; have h2 := B3.size; have h3 := hb4.size; have h4 := hL.low.size; have h5 := own_lt ox rfl; have h6 := own_lt oy rfl; have h7 := B4.size; try simp only [World.size_alloc, World.size_drew] at h1 h2 h3 h4 h5 h6 h7 ⊢; omega) (by have h1 := hb3.size; have h2 := B3.size; have h3 := hb4.size; have h4 := hL.low.size; have h5 := own_lt ox rfl; have h6 := own_lt oy rfl; have h7 := B4.size; try simp only [World.size_alloc, World.size_drew] at h1 h2 h3 h4 h5 h6 h7 ⊢; omega) hL B5 (tn15 w5 _ _ _ _ _ _ _ _ _ _ _ _ _ _ _ _) (set15 zB5 _ _ _ _ _ _ _ _ _ _ _ _ _ _ _)⟩)
        | (have tag := zC5
           exact ⟨_, r, b', p, l, c, pc', lc', qa, ma, da, qc, mc, dc, rfl, CU.made (V := (w4.alloc (.cells #[.int .i64 0, .int .i64 0, .int .i64 0, .int .i64 0, .int .i64 0, .slice none 0 0, .slice none 0 0, .slice none 0 0, .int .i64 0, .slice none 0 0, .slice none 0 0, .int .i64 0, .int .i64 0, .int .i64 0, .slice none 0 0] 39))) (hC4.below ((Below.refl _ _).alloc (Nat.le_refl _) _)) (by have h1 := hb3.size; have h2 := B3.size; have h3 := hb4.size; have h4 := hL.low.size; have h5 := own_lt ox rfl; have h6 := own_lt oy rfl; have h7 := B4.size; try simp only [World.size_alloc, World.size_drew] at h1 h2 h3 h4 h5 h6 h7 ⊢; omega) (by have h1 := hb3.size; have h2 := B3.size; have h3 := hb4.size; have h4 := hL.low.size; have h5 := own_lt ox rfl; have h6 := own_lt oy rfl; have h7 := B4.size; try simp only [World.size_alloc, World.size_drew] at h1 h2 h3 h4 h5 h6 h7 ⊢; omega) (by have h1 := hb3.size; have h2 := B3.size; have h3 := hb4.size; have h4 := hL.low.size; have h5 := own_lt ox rfl; have h6 := own_lt oy rfl; have h7 := B4.size; try simp only [World.size_alloc, World.size_drew] at h1 h2 h3 h4 h5 h6 h7 ⊢; omega) (by have h1 := hb3.size; have h2 := B3.size; have h3 := hb4.size; have h4 := hL.low.size; have h5 := own_lt ox rfl; have h6 := own_lt oy rfl; have h7 := B4.size; try simp only [World.size_alloc, World.size_drew] at h1 h2 h3 h4 h5 h6 h7 ⊢; omega) (by have h1 := hb3.size; have h2 := B3.size; have h3 := hb4.size; have h4 := hL.low.size; have h5 := own_lt ox rfl; have h6 := own_lt oy rfl; have h7 := B4.size; try simp only [World.size_alloc, World.size_drew] at h1 h2 h3 h4 h5 h6 h7 ⊢; omega) (by have h1 := hb3.size; have h2 := B3.size; have h3 := hb4.size; have h4 := hL.low.size; have h5 := own_lt ox rfl; have h6 := own_lt oy rfl; have h7 := B4.size; try simp only [World.size_alloc, World.size_drew] at h1 h2 h3 h4 h5 h6 h7 ⊢; omega) (by have h1 := hb3.size; have h2 := B3.size; have h3 := hb4.size; have h4 := hL.low.size; have h5 := own_lt ox rfl; have h6 := own_lt oy rfl; have h7 := B4.size; try simp only [World.size_alloc, World.size_drew] at h1 h2 h3 h4 h5 h6 h7 ⊢; omega) (by have h1 := hb3.size; have h2 := B3.size; have h3 := hb4.size; have h4 := hL.low.size; have h5 := own_lt ox rfl; have h6 := own_lt oy rfl; have h7 := B4.size; try simp only [World.size_alloc, World.size_drew] at h1 h2 h3 h4 h5 h6 h7 ⊢; omega) (by have h1 := hb3.size; have h2 := B3.size; have h3 := hb4.size; have h4 := hL.low.size; have h5 := own_lt ox rfl; have h6 := own_lt oy rfl; have h7 := B4.size; try simp only [World.size_alloc, World.size_drew] at h1 h2 h3 h4 h5 h6 h7 ⊢; omega) hL B5 (tn15 w5 _ _ _ _ _ _ _ _ _ _ _ _ _ _ _ _) (set15 zC5 _ _ _ _ _ _ _ _ _ _ _ _ _ _ _)⟩)
        | (have tag := nD
           exact ⟨_, r, b', p, l, c, pc', lc', qa, ma, da, qc, mc, dc, rfl, CU.made (V := w4) hC4 (by have h1 := hb3.size; have h2 := B3.size; have h3 := hb4.size; have h4 := hL.low.size; have h5 := own_lt ox rfl; have h6 := own_lt oy rfl; have h7 := B4.size; try simp only [World.size_drew] at h1 h2 h3 h4 h5 h6 h7 ⊢; omega) (by have h1 := hb3.size; have h2 := B3.size; have h3 := hb4.size; have h4 := hL.low.size; have h5 := own_lt ox rfl; have h6 := own_lt oy rfl; have h7 := B4.size; try simp only [World.size_drew] at h1 h2 h3 h4 h5 h6 h7 ⊢; omega) (by have h1 := hb3.size; have h2 := B3.size; have h3 := hb4.size; have h4 := hL.low.size; have h5 := own_lt ox rfl; have h6 := own_lt oy rfl; have h7 := B4.size; try simp only [World.size_drew] at h1 h2 h3 h4 h5 h6 h7 ⊢; omega) (by have h1 := hb3.size; have h2 := B3.size; have h3 := hb4.size; have h4 := hL.low.size; have h5 := own_lt ox rfl; have h6 := own_lt oy rfl; have h7 := B4.size; try simp only [World.size_drew] at h1 h2 h3 h4 h5 h6 h7 ⊢; omega) (by have h1 := hb3.size; have h2 := B3.size; have h3 := hb4.size; have h4 := hL.low.size; have h5 := own_lt ox rfl; have h6 := own_lt oy rfl; have h7 := B4.size; try simp only [World.size_drew] at h1 h2 h3 h4 h5 h6 h7 ⊢; omega) (by have h1 := hb3.size; have h2 := B3.size; have h3 := hb4.size; have h4 := hL.low.size; have h5 := own_lt ox rfl; have h6 := own_lt oy rfl; have h7 := B4.size; try simp only [World.size_drew] at h1 h2 h3 h4 h5 h6 h7 ⊢; omega) (by have h1 := hb3.size; have h2 := B3.size; have h3 := hb4.size; have h4 := hL.low.size; have h5 := own_lt ox rfl; have h6 := own_lt oy rfl; have h7 := B4.size; try simp only [World.size_drew] at h1 h2 h3 h4 h5 h6 h7 ⊢; omega) (by have h1 := hb3.size; have h2 := B3.size; have h3 := hb4.size; have h4 := hL.low.size; have h5 := own_lt ox rfl; have h6 := own_lt oy rfl; have h7 := B4.size; try simp only [World.size_drew] at h1 h2 h3 h4 h5 h6 h7 ⊢; omega) (by have h1 := hb3.size; have h2 := B3.size; have h3 := hb4.size; have h4 := hL.low.size; have h5 := own_lt ox rfl; have h6 := own_lt oy rfl; have h7 := B4.size; try simp only [World.size_drew] at h1 h2 h3 h4 h5 h6 h7 ⊢; omega) hL B5 (Tn.of ((Below.refl _ _).alloc (Nat.le_refl _) _)) (CellsAt.new w5 _ _)⟩)
    case rest =>
      revert wc
      intro w6 hcut
      obtain ⟨cb, r, b, p, l, c, pc1, lc1, qa, ma, da, qc, mc, dc, rfl, HC⟩ := hcut
      have hb6 := HC.out.low
      have hsub := HC.out.uto.sub
      have hcl := HC.out.cbl
      have hcb6 : cb < w6.heap.size := HC.out.box.lt
      have hcopy := l4CopyZ wd now given births b 0 p 0 l 0 c pc1 lc1 r.ks ps ls w6 HC.out.rows HC.out.ksome (Nat.le_trans hsub.length_le HUO.out.ok.len) HUO.out.pl HUO.out.ll (fun k hk => (HUO.out.refs k (hsub.subset hk)).1)
      have HCp : Hid _ := hcopy
      obtain ⟨⟨u0, j0⟩, ⟨u1, j1⟩, ⟨u2, j2⟩, ⟨u3, j3⟩, ⟨u4, j4⟩, ⟨u5, j5⟩, ⟨u6, j6⟩, ⟨u7, j7⟩, ⟨u8, j8⟩, ⟨u9, j9⟩, ⟨u10, j10⟩, ⟨u11, j11⟩, ⟨u12, j12⟩, ⟨u13, j13⟩, u14, j14⟩ := c15 HC.out.box
      clear hcopy HSR HCopy HRound HUnit D0 D1 HX0 HX1
      go_wp2_with fail
      refine Calls.mono HCp.out ?_
      rintro e w7 ⟨b7, p7, l7, tc7, pc7, lc7, zs7, rfl, hC7, hb7⟩
      have hB7 : Below w2.heap.size w2 w7 := hb6.trans (hb7.mono hb6.size)
      have hBox7 := CellsAt.below HC.out.box hb7
      have hZ7 : CellsAt w7 (w.heap.size + 1 + 1) z15 := CellsAt.below (v := .int .i64 0) HX2.out hB7
      have HC7 : Hid (CZ w6.heap.size w7.heap.size w7 b7 p7 l7 zs7 r.ks ps ls) := hC7
      have HB7 : Hid (Below w6.heap.size w6 w7) := hb7
      have hcb7 : cb < w7.heap.size := Nat.lt_of_lt_of_le hcb6 hb7.size
      clear u0 j0 u1 j1 u2 j2 u3 j3 u4 j4 u5 j5 u6 j6 u7 j7 u8 j8 u9 j9 u10 j10 u11 j11 u12 j12 u13 j13 u14 j14 hC7 hb7 HCp
      obtain ⟨⟨u0, j0⟩, ⟨u1, j1⟩, ⟨u2, j2⟩, ⟨u3, j3⟩, ⟨u4, j4⟩, ⟨u5, j5⟩, ⟨u6, j6⟩, ⟨u7, j7⟩, ⟨u8, j8⟩, ⟨u9, j9⟩, ⟨u10, j10⟩, ⟨u11, j11⟩, ⟨u12, j12⟩, ⟨u13, j13⟩, u14, j14⟩ := c15 hBox7
      obtain ⟨⟨y0, q0⟩, ⟨y1, q1⟩, ⟨y2, q2⟩, ⟨y3, q3⟩, ⟨y4, q4⟩, ⟨y5, q5⟩, ⟨y6, q6⟩, ⟨y7, q7⟩, ⟨y8, q8⟩, ⟨y9, q9⟩, ⟨y10, q10⟩, ⟨y11, q11⟩, ⟨y12, q12⟩, ⟨y13, q13⟩, y14, q14⟩ := c15 hZ7
      have hne : ¬ (cb = w.heap.size + 1 + 1) := by omega
      have hne' : ¬ (w.heap.size + 1 + 1 = cb) := by omega
      clear hBox7 hZ7
      go_wp2
      refine bodyPost_ret (v := clV ⟨0, wd, now, given, births, ps, ls, r⟩ (.slice (some ⟨b7, 0, none⟩) r.ks.length tc7) (.slice (some ⟨p7, 0, none⟩) ps.length pc7) (.slice (some ⟨l7, 0, none⟩) ls.length lc7) (.slice qa r.qs.length qc) (.slice ma r.ms.length mc) (.slice da r.ds.length dc)) (by simp [results, Tryz.results7, go_sem, y0, y1, y2, y3, y4, y5, y6, y7, y8, y9, y10, y11, y12, y13, y14, clV]) rfl ?_
      refine sUnit_end (X := w7) [cb, w.heap.size + 2] ?_ (((((((((tn1 w7 cb 1 _).trans (tn1 _ cb 2 _)).trans (tn1 _ cb 3 _)).trans (tn1 _ cb 4 _)).trans (tn1 _ cb 5 _)).trans (tn1 _ cb 6 _)).trans (tn1 _ cb 7 _)).mono (by simp)).trans ((tn15 _ (w.heap.size + 2) _ _ _ _ _ _ _ _ _ _ _ _ _ _ _).mono (by simp)))
      intro wf hT
      have hBf : Below w2.heap.size w2 w7 := hB7
      have h7s := HB7.out.size
      have hwf : Below w.heap.size w wf := (HB2.out.trans (hB7.mono HB2.out.size)).trans (hT.below (by have := hB7.size; omega) (by intro v hv; simp at hv; omega))
      refine ⟨_, _, _, _, _, _, _, rfl, .good HP.out r HC.out.uto, fun V w' hV ht => ?_, hwf⟩
      have hT6 : Tn (cb :: (w.heap.size + 2) :: V) w6 w' := (Tn.of HB7.out).trans ((hT.mono (by intro b hb; simp at hb ⊢; omega)).trans (ht.mono (fun b hb => List.mem_cons_of_mem _ (List.mem_cons_of_mem _ hb))))
      have hok : ∀ v ∈ cb :: (w.heap.size + 2) :: V, v < w2.heap.size ∨ v = cb := by
        intro v hv
        rcases List.mem_cons.1 hv with e | hv
        · exact .inr e
        · rcases List.mem_cons.1 hv with e | hv
          · exact .inl (by omega)
          · exact .inl (by have := hV v hv; omega)
      have hC' := HC7.out.turn ((hT.mono (V' := cb :: (w.heap.size + 2) :: V) (by intro b hb; simp at hb ⊢; omega)).trans (ht.mono (fun b hb => List.mem_cons_of_mem _ (List.mem_cons_of_mem _ hb)))) (fun v hv => by
        have := hok v hv
        have := hb6.size
        omega)
      exact ⟨⟨_, _, _, _, _, _, rfl, rfl, rfl, hC'.rows⟩, ⟨_, _, rfl, HC.out.q _ _ hok hT6⟩, ⟨_, _, rfl, HC.out.m _ _ hok hT6⟩, ⟨_, _, rfl, HC.out.d _ _ hok hT6⟩⟩
  · have HP : Hid (¬ ((StateOk wd now given births ks ps ls ∧ RoundOk wd births ph top at_ ro qs ms) ∧ ro ≠ 1000000000)) := fun hp => hgood ⟨HS2.out.2 hp.1, hp.2⟩
    obtain ⟨⟨y0, q0⟩, ⟨y1, q1⟩, ⟨y2, q2⟩, ⟨y3, q3⟩, ⟨y4, q4⟩, ⟨y5, q5⟩, ⟨y6, q6⟩, ⟨y7, q7⟩, ⟨y8, q8⟩, ⟨y9, q9⟩, ⟨y10, q10⟩, ⟨y11, q11⟩, ⟨y12, q12⟩, ⟨y13, q13⟩, y14, q14⟩ := c15 HX2.out
    obtain ⟨a0, a1, a2, a3, a4, a5, a6⟩ := HX1.out
    have hdec : b2 = false ∨ (b2 = true ∧ 1000000000 ≤ ro) := by
      cases b2 with
      | false => exact .inl rfl
      | true => exact .inr ⟨rfl, by have : ro = 1000000000 := Classical.byContradiction fun e => hgood ⟨rfl, e⟩; omega⟩
    clear hrow hk hp hf hq hm hB2 HX0 HX1 HX2 HS2 hgood hsome
    rcases hdec with rfl | ⟨rfl, hro⟩
    all_goals
      go_wp2
      refine bodyPost_ret (v := clV ⟨1, 0, 0, 0, 0, [], [], ⟨[], 0, 0, 0, 0, [], [], []⟩⟩ (.slice none 0 0) (.slice none 0 0) (.slice none 0 0) (.slice none 0 0) (.slice none 0 0) (.slice none 0 0)) (by simp [results, Tryz.results7, go_sem, y0, y1, y2, y3, y4, y5, y6, y7, y8, y9, y10, y11, y12, y13, y14, clV]) rfl ?_
      exact ⟨_, _, _, _, _, _, _, rfl, .bad HP.out, (fun _ _ _ _ => ⟨⟨none, 0, none, 0, none, 0, rfl, rfl, rfl, ⟨.inl rfl, .inl rfl, .inl rfl⟩⟩, ⟨none, 0, rfl, .inl rfl⟩, ⟨none, 0, rfl, .inl rfl⟩, ⟨none, 0, rfl, .inl rfl⟩⟩), HB2.out.trans ((tn15 w2 _ _ _ _ _ _ _ _ _ _ _ _ _ _ _ _).below (Nat.le_trans (Nat.le_add_right _ 3) hz2) (by intro b hb; simp at hb; omega))⟩

end Go.Proofs.YthkmpihfhkmaoaaGreat

/-
  laws.markCleared, heldCleared.
-/
namespace Go.Proofs.YthkmpihfhkmaoaaGreat
open Go.ChangeShapes Go.WideShapes Go.ChangeAt Go.RowKit

theorem ORow.set {w : World} {base g off n cap : Nat} {ss : List ByteArray} (h : ORow w base (.slice (some ⟨g, off, none⟩) n cap) ss) {j : Nat} (hj : j < ss.length) (t : ByteArray) : ORow (w.setCell ⟨g, off + j, none⟩ (.string t)) base (.slice (some ⟨g, off, none⟩) n cap) (ss.set j t) := by
  rcases h with ⟨e, _⟩ | ⟨g', off', cap', e, h1, h2, h3, h4, h5, h6⟩
  · cases e
  · cases e
    refine .inr ⟨g, off, cap, by rw [List.length_set], h1, by simpa using h2, by rw [List.length_set]; exact h3, h4, fun i hi => ⟨?_, ?_⟩, fun i s hs => ?_⟩
    · exact (Alive.setCell w g (off + j) (.string t) g (off + i) (h5 i hi).1).1
    · exact (Alive.setCell w g (off + j) (.string t) g (off + i) (h5 i hi).1).2 (h5 i hi).2
    · by_cases hij : i = j
      · subst hij
        rw [List.getElem?_set_self hj] at hs
        cases hs
        exact World.cell?_setCell_same' _ _ _ (h5 i (by omega)).1
      · rw [List.getElem?_set_ne (fun e => hij e.symm)] at hs
        exact (World.cell?_setCell_other w _ _ _ (by simp <;> omega)).trans (h6 i s hs)

theorem marks_setB (k i : Nat) (xs : List ByteArray) (h : i < xs.length) : (marks k i ++ xs.drop i).set i (mkT (k + i)) = marks k (i + 1) ++ xs.drop (i + 1) := by
  have hl : (marks k i).length = i := marks_length k i
  rw [List.set_append_right _ _ (by omega), hl, Nat.sub_self, List.drop_eq_getElem_cons h, List.set_cons_zero]
  simp [marks, List.range_succ]

set_option maxHeartbeats 1000000 in
theorem markO_any (base k : Nat) (V : Value) (ss : List ByteArray) (w : World) (h : ORow w base V ss) (hk : 1 ≤ k) (hkn : k + ss.length ≤ 100000000) :
    Calls Tryz.prog 53 #[V, .int .i64 k] w fun e w' => e = .returned (.int .i64 (k + ss.length : Nat)) ∧ ORow w' base V (marks k ss.length) ∧ w.grownBy w' (sBlk V) := by
  obtain ⟨a, cap, rfl, _⟩ := h.row
  have HO : Hid (ORow w base (.slice a ss.length cap) ss) := h
  obtain ⟨n, hn⟩ : ∃ n, n = ss.length := ⟨_, rfl⟩
  rw [← hn] at HO hkn ⊢
  have Hn : Hid (n = ss.length) := hn
  clear h hn
  go_enter Tryz.func53, Tryz.ntmps53
  go_wp2
  go_loopw [1, 5] (fun v i wr => ∃ (j : Nat), j ≤ n ∧ i = .int .i64 j ∧ v = .int .i64 (k + j) ∧ Hid (ORow wr base (.slice a n cap) (marks k j ++ ss.drop j) ∧ w.grownBy wr (sBlk (.slice a n cap)))) (fun _ i _ => n - (intOf i).toNat)
  case atStart => exact ⟨0, Nat.zero_le _, rfl, by simp, by simpa [marks] using HO.out, grown_refl _ _⟩
  case round =>
    obtain ⟨j, hj, rfl, rfl, HI⟩ := hrel
    by_cases hlt : j < n
    · have hll : (marks k j ++ ss.drop j).length = n := by rw [List.length_append, marks_length, List.length_drop]; have := Hn.out; omega
      obtain ⟨g, off, rfl, hsome, hfr⟩ : ∃ g off, a = some ⟨g, off, none⟩ ∧ (∀ X, Below wr.heap.size wr X → (X.cell? ⟨g, off + j, none⟩).isSome = true) ∧ (∀ X, Below wr.heap.size wr X → X.frozen? ⟨g, off + j, none⟩ = false) := by
        rcases HI.out.1 with ⟨e, e2⟩ | ⟨g, off, cap', e, h1, h2, h3, h4, h5, h6⟩
        · rw [e2] at hll; simp at hll; omega
        · cases e
          refine ⟨g, off, rfl, fun X hX => ?_, fun X hX => ?_⟩
          · rw [hX.cell (p := ⟨g, off + j, none⟩) h2]; exact (h5 j (by omega)).1
          · rw [hX.frozen (p := ⟨g, off + j, none⟩) h2]; exact (h5 j (by omega)).2
      have hcall := markText_any (k + j) wr (by omega) (by omega)
      rw [show ((k + j : Nat) : Int) = (k : Int) + j from by omega] at hcall
      have hlt' : (j : Int) < n := by omega
      have HS : Hid _ := And.intro hsome hfr
      clear hsome hfr
      go_wp2_with fail
      refine hcall.mono ?_
      rintro e w2 ⟨rfl, hb2⟩
      obtain ⟨v0, hcc⟩ := Option.isSome_iff_exists.1 (HS.out.1 w2 hb2)
      have hff := HS.out.2 w2 hb2
      have hst := (HI.out.1.below hb2).set (j := j) (by rw [hll]; exact hlt) (mkT (k + j))
      rw [marks_setB k j ss (by have := Hn.out; omega)] at hst
      have hg2 := grown_trans HI.out.2 (grown_trans (grown_below _ hb2) (grown_set w2 g (off + j) (.string (mkT (k + j)))))
      have HH : Hid _ := And.intro hst hg2
      clear hst hg2 HI hcall HS
      go_wp2
      exact ⟨⟨j + 1, by omega, by go_num, by go_num, HH.out.1, HH.out.2⟩, by simp [intOf]; omega⟩
    · obtain rfl : j = n := by omega
      have hE := HI.out.1
      rw [List.drop_of_length_le (by have := Hn.out; omega), List.append_nil] at hE
      have HE : Hid (ORow wr base (.slice a j cap) (marks k j)) := hE
      clear hE
      go_wp2
      go_ret
      exact ⟨by go_num, HE.out, HI.out.2⟩

/-- A round's marks. -/
theorem markRoundO (ph top at_ ro : Int) (base k : Nat) (Q M : Value) (qs ms : List ByteArray) (w : World) (h1 : ORow w base Q qs) (h2 : ORow w base M ms) (hne : ∀ g, sBlk Q = some g → sBlk M ≠ some g) (hk : 1 ≤ k) (hkn : k + qs.length + ms.length ≤ 100000000) :
    Calls Tryz.prog 15 #[.agg #[.int .i64 ph, Q, M, .int .i64 top, .int .i64 at_, .int .i64 ro], .int .i64 k] w fun e w' => e = .returned (.int .i64 (k + qs.length + ms.length : Nat)) ∧ ORow w' base Q (marks k qs.length) ∧ ORow w' base M (marks (k + qs.length) ms.length) ∧ Tn ((sBlk Q).toList ++ (sBlk M).toList) w w' := by
  obtain ⟨qa, qc, rfl, _⟩ := h1.row
  obtain ⟨ma, mc, rfl, _⟩ := h2.row
  have hb : Below w.heap.size w (w.alloc (.cells #[.int .i64 ph, .slice qa qs.length qc, .slice ma ms.length mc, .int .i64 top, .int .i64 at_, .int .i64 ro] 37)) := (Below.refl _ _).alloc (Nat.le_refl _) _
  have hz : CellsAt (w.alloc (.cells #[.int .i64 ph, .slice qa qs.length qc, .slice ma ms.length mc, .int .i64 top, .int .i64 at_, .int .i64 ro] 37)) w.heap.size [.int .i64 ph, .slice qa qs.length qc, .slice ma ms.length mc, .int .i64 top, .int .i64 at_, .int .i64 ro] := CellsAt.new w _ _
  obtain ⟨W, hW⟩ : ∃ W, W = w.alloc (.cells #[.int .i64 ph, .slice qa qs.length qc, .slice ma ms.length mc, .int .i64 top, .int .i64 at_, .int .i64 ro] 37) := ⟨_, rfl⟩
  rw [← hW] at hb hz
  have HZ : Hid (CellsAt W w.heap.size [.int .i64 ph, .slice qa qs.length qc, .slice ma ms.length mc, .int .i64 top, .int .i64 at_, .int .i64 ro]) := hz
  obtain ⟨z1, _⟩ := hz 1 _ rfl
  have HR : Hid (ORow W base (.slice qa qs.length qc) qs ∧ ORow W base (.slice ma ms.length mc) ms) := ⟨h1.below hb, h2.below hb⟩
  have hlt : Hid ((∀ g, sBlk (.slice qa qs.length qc) = some g → g < w.heap.size) ∧ (∀ g, sBlk (.slice ma ms.length mc) = some g → g < w.heap.size)) := ⟨fun g hg => (h1.blk hg).2, fun g hg => (h2.blk hg).2⟩
  have HN : Hid (∀ g, sBlk (.slice qa qs.length qc) = some g → sBlk (.slice ma ms.length mc) ≠ some g) := hne
  have HW : Hid _ := hW
  have HB : Hid (Below w.heap.size w W) := hb
  clear h1 h2 hne hW hz hb
  go_enter Tryz.func15, Tryz.ntmps15
  go_upto_region 1 with fail
  rw [← HW.out]
  clear HW
  go_wp2_with fail
  refine (markO_any base k _ qs W HR.out.1 hk (by omega)).mono ?_
  rintro e w1 ⟨rfl, ho1, hg1⟩
  have hwz : w.heap.size < W.heap.size := CellsAt.lt HZ.out
  have z1' : CellsAt w1 w.heap.size [.int .i64 ph, .slice qa qs.length qc, .slice ma ms.length mc, .int .i64 top, .int .i64 at_, .int .i64 ro] := CellsAt.same HZ.out (hg1.block _ hwz (fun e => by have := hlt.out.1 _ e.symm; omega))
  have hm1 : ORow w1 base (.slice ma ms.length mc) ms := HR.out.2.stays hg1.size (fun g hg => hg1.block g (HR.out.2.blk hg).2 (fun e => HN.out g e.symm hg))
  obtain ⟨y2, _⟩ := z1' 2 _ rfl
  have HM1 : Hid (ORow w1 base (.slice ma ms.length mc) ms) := hm1
  have HQ1 : Hid (ORow w1 base (.slice qa qs.length qc) (marks k qs.length) ∧ W.grownBy w1 (sBlk (.slice qa qs.length qc))) := ⟨ho1, hg1⟩
  clear z1 z1' hm1 ho1 hg1
  go_wp2_with fail
  refine (markO_any base (k + qs.length) _ ms w1 HM1.out (by omega) (by omega)).mono ?_
  rintro e w2 ⟨rfl, ho2, hg2⟩
  have HQ2 : Hid (ORow w2 base (.slice qa qs.length qc) (marks k qs.length)) := HQ1.out.1.stays hg2.size (fun g hg => hg2.block g (HQ1.out.1.blk hg).2 (fun e => HN.out g hg e.symm))
  have HT : Hid (Tn ((sBlk (.slice qa qs.length qc)).toList ++ (sBlk (.slice ma ms.length mc)).toList) w w2) := ((Tn.of HB.out).trans ((tn_grown HQ1.out.2).mono (by simp; exact fun b h => .inl h))).trans ((tn_grown hg2).mono (by simp; exact fun b h => .inr h))
  have HM2 : Hid (ORow w2 base (.slice ma ms.length mc) (marks (k + qs.length) ms.length)) := ho2
  clear y2 ho2 hg2
  go_wp2
  go_ret
  exact ⟨rfl, HQ2.out, HM2.out, HT.out⟩

end Go.Proofs.YthkmpihfhkmaoaaGreat
