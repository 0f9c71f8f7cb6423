/-
  Laws at a step of a region that draws: append of a row of strings.
-/
import Derived.Test.YtbelneejghdmoaaThingH
import Derived.Maps.AppendAt
import Derived.Lib.SmallJoins
import Derived.Deep.RegionLaw
import Derived.Laws.OwnMore
namespace Go.Proofs.Ytbelneejghdmoaa
open Go.ChangeShapes Go.WideShapes Go.ChangeAt Go.RowKit

/-- append(a, b...), a owned; where the row lies. -/
theorem step_append_row2 {P : Program} (w : World) {ops : Array Oper} {o : Oper} {a : Act} {K : Act → World → Prop} {Q : Exit → Act → World → Prop} {E : Prop} (hgd : o.guard = none) (sl x : Operand) (t : TypeId)
    (ho : o.op = .call { callee := .builtin .append, args := #[sl, x], argTypes := #[t, t] })
    (base : Nat) (e : TypeId) (i : TypeInfo) (z : Value) (bytes : Nat) (ht : P.underlying t = some (.slice e)) (hi : P.info? e = some i) (hz : i.zero = some z)
    (hsize : i.size = 1) (hby : i.bytes = bytes) (hzs : z.cells.size = 1)
    (q n c0 : Nat) (ss : List ByteArray) (hs : a.eval sl = .slice (some ⟨q, 0, none⟩) n c0) (hown : w.ownsRow base e 1 (.slice (some ⟨q, 0, none⟩) n c0) n (ss.map Value.string))
    (ad : Addr) (m c : Nat) (tt : List ByteArray) (hx : a.eval x = .slice (some ad) m c) (hl : tt.length = m) (hnews : ∀ j s, tt[j]? = some s → w.cell? (ad.add j) = some (.string s))
    (h63 : n + m ≤ maxLen) (hbytes : (n + m) * bytes ≤ 140737488355328) (hbase : base ≤ w.heap.size)
    (h : ∀ g cap w', w'.ownsRow base e 1 (.slice (some ⟨g, 0, none⟩) (n + m) cap) (n + m) ((ss ++ tt).map Value.string) → w.grownBy w' (some q) → (g = q ∨ g = w.heap.size) → g < w'.heap.size → K (a.put o.dst (.slice (some ⟨g, 0, none⟩) (n + m) cap)) w') :
    if Region.wanted o (yielded ops a.tmps) = true then Oper.wp P o a w K Q else E := by
  have hw : Region.wanted o (yielded ops a.tmps) = true := by simp [Region.wanted, hgd]
  rw [if_pos hw]
  obtain ⟨v', w', hr, h2, h3, h4, h5⟩ := run_append_own_at (P := P) w base t o.type e i z 1 bytes ht hi hz hsize hby hzs (by decide) _ n _ hown ad m c (tt.map Value.string) (by simp [hl])
    (fun j u hu => by
      rw [List.getElem?_map] at hu
      cases hs : tt[j]? with
      | none => rw [hs] at hu; cases hu
      | some s => rw [hs] at hu; cases hu; exact hnews j s hs)
    (fun u hu => by obtain ⟨s, _, rfl⟩ := List.mem_map.1 hu; rfl) h63 hbytes hbase
  have hform : ∃ g cap, v' = .slice (some ⟨g, 0, none⟩) (n + m) cap := by
    rcases Joins.ownsRow_forms h2 with ⟨e1, _⟩ | hf
    · have := (h4.1 e1).1
      cases this
    · exact hf
  obtain ⟨g, cap, rfl⟩ := hform
  unfold Oper.wp execOp
  simp only [ho, resolve, invoke, builtin, Sem.run_bind, Sem.run_pure, Result.andThen_ok, List.map_toArray, List.map_cons, List.map_nil, hs, hx, hr]
  refine h g cap w' (by rw [List.map_append]; exact h2) h3 ?_ (h2.lt g rfl).2
  rcases h5 with h5 | h5
  · left; simpa [Value.ownBlock] using h5
  · right; simpa [Value.ownBlock] using h5

/-- As step_append_row2; the row that is put behind may be nil. -/
theorem step_append_rowO {P : Program} (w : World) {ops : Array Oper} {o : Oper} {a : Act} {K : Act → World → Prop} {Q : Exit → Act → World → Prop} {E : Prop} (hgd : o.guard = none) (sl x : Operand) (t : TypeId)
    (ho : o.op = .call { callee := .builtin .append, args := #[sl, x], argTypes := #[t, t] })
    (base : Nat) (e : TypeId) (i : TypeInfo) (z : Value) (bytes : Nat) (ht : P.underlying t = some (.slice e)) (hi : P.info? e = some i) (hz : i.zero = some z)
    (hsize : i.size = 1) (hby : i.bytes = bytes) (hzs : z.cells.size = 1)
    (q n c0 : Nat) (ss : List ByteArray) (hs : a.eval sl = .slice (some ⟨q, 0, none⟩) n c0) (hown : w.ownsRow base e 1 (.slice (some ⟨q, 0, none⟩) n c0) n (ss.map Value.string))
    (ad : Option Addr) (m c : Nat) (tt : List ByteArray) (hx : a.eval x = .slice ad m c) (hl : tt.length = m) (hnil : ad = none → m = 0 ∧ c = 0) (hnews : ∀ A, ad = some A → ∀ j s, tt[j]? = some s → w.cell? (A.add j) = some (.string s))
    (h63 : n + m ≤ maxLen) (hbytes : (n + m) * bytes ≤ 140737488355328) (hbase : base ≤ w.heap.size)
    (h : ∀ g cap w', w'.ownsRow base e 1 (.slice (some ⟨g, 0, none⟩) (n + m) cap) (n + m) ((ss ++ tt).map Value.string) → w.grownBy w' (some q) → (g = q ∨ g = w.heap.size) → g < w'.heap.size → K (a.put o.dst (.slice (some ⟨g, 0, none⟩) (n + m) cap)) w') :
    if Region.wanted o (yielded ops a.tmps) = true then Oper.wp P o a w K Q else E := by
  cases ad with
  | some A => exact step_append_row2 w hgd sl x t ho base e i z bytes ht hi hz hsize hby hzs q n c0 ss hs hown A m c tt hx hl (hnews A rfl) h63 hbytes hbase h
  | none =>
    obtain ⟨rfl, rfl⟩ := hnil rfl
    have htt : tt = [] := List.eq_nil_of_length_eq_zero hl
    subst htt
    have hw : Region.wanted o (yielded ops a.tmps) = true := by simp [Region.wanted, hgd]
    rw [if_pos hw]
    have hr : (Builtin.append_ #[t, t] o.type #[.slice (some ⟨q, 0, none⟩) n c0, .slice none 0 0]).run P w = .ok (.slice (some ⟨q, 0, none⟩) n c0) w := run_append_owned_none (P := P) w base t o.type e i 1 ht hi _ n _ hown
    unfold Oper.wp execOp
    simp only [ho, resolve, invoke, builtin, Sem.run_bind, Sem.run_pure, Result.andThen_ok, List.map_toArray, List.map_cons, List.map_nil, hs, hx, hr]
    exact h q c0 w (by simpa using hown) ⟨rfl, rfl, rfl, Nat.le_refl _, fun _ _ _ => rfl⟩ (.inl rfl) (hown.lt q rfl).2

theorem SRow.cellsO {w : World} {B : Nat} {a : Option Addr} {ss : List ByteArray} (h : SRow w B a ss) : ∀ A, a = some A → ∀ j s, ss[j]? = some s → w.cell? (A.add j) = some (.string s) := by
  rintro A rfl j s hs
  rcases h with h | ⟨b, off, h1, _, h3⟩
  · subst h; simp at hs
  · cases h1
    have := h3 j s hs
    rw [Go.WideShapes.add_plain]
    exact this

end Go.Proofs.Ytbelneejghdmoaa
