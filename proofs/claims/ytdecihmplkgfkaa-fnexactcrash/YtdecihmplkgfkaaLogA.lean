/-
  append of a row of strings, at a step of a region that draws its order.
-/
import Derived.Test.YtdecihmplkgfkaaThingH
import Derived.Lib.SmallJoins
namespace Go.Proofs.Ytdecihmplkgfkaa
open Go.ChangeShapes Go.WideShapes Go.ChangeAt Go.RowKit

theorem step_append_row {P : Program} (w : World) {ops : Array Oper} {o : Oper} {a : Act} {K : Act → World → Prop} {Q : Exit → Act → World → Prop} {E : Prop} (hgd : o.guard = none) (sl x : Operand) (t : TypeId)
    (ho : o.op = .call { callee := .builtin .append, args := #[sl, x], argTypes := #[t, t] })
    (base : Nat) (e : TypeId) (i : TypeInfo) (z : Value) (bytes : Nat) (ht : P.underlying t = some (.slice e)) (hi : P.info? e = some i) (hz : i.zero = some z)
    (hsize : i.size = 1) (hby : i.bytes = bytes) (hzs : z.cells.size = 1)
    (q n c0 : Nat) (ss : List ByteArray) (hs : a.eval sl = .slice (some ⟨q, 0, none⟩) n c0) (hown : w.ownsRow base e 1 (.slice (some ⟨q, 0, none⟩) n c0) n (ss.map Value.string))
    (ad : Addr) (m c : Nat) (tt : List ByteArray) (hx : a.eval x = .slice (some ad) m c) (hl : tt.length = m) (hnews : ∀ j s, tt[j]? = some s → w.cell? (ad.add j) = some (.string s))
    (h63 : n + m ≤ maxLen) (hbytes : (n + m) * bytes ≤ 140737488355328) (hbase : base ≤ w.heap.size)
    (h : ∀ g cap w', w'.ownsRow base e 1 (.slice (some ⟨g, 0, none⟩) (n + m) cap) (n + m) ((ss ++ tt).map Value.string) → w.grownBy w' (some q) → K (a.put o.dst (.slice (some ⟨g, 0, none⟩) (n + m) cap)) w') :
    if Region.wanted o (yielded ops a.tmps) = true then Oper.wp P o a w K Q else E := by
  have hw : Region.wanted o (yielded ops a.tmps) = true := by simp [Region.wanted, hgd]
  rw [if_pos hw]
  obtain ⟨v', w', hr, h2, h3, h4⟩ := run_append_own (P := P) w base t o.type e i z 1 bytes ht hi hz hsize hby hzs (by decide) _ n _ hown ad m c (tt.map Value.string) (by simp [hl])
    (fun j u hu => by
      rw [List.getElem?_map] at hu
      cases hs : tt[j]? with
      | none => rw [hs] at hu; cases hu
      | some s => rw [hs] at hu; cases hu; exact hnews j s hs)
    (fun u hu => by obtain ⟨s, _, rfl⟩ := List.mem_map.1 hu; rfl) h63 hbytes hbase
  have hform : ∃ g cap, v' = .slice (some ⟨g, 0, none⟩) (n + m) cap := by
    rcases Joins.ownsRow_forms h2 with ⟨e1, _⟩ | hf
    · have := (h4.1 e1).1
      cases this
    · exact hf
  obtain ⟨g, cap, rfl⟩ := hform
  unfold Oper.wp execOp
  simp only [ho, resolve, invoke, builtin, Sem.run_bind, Sem.run_pure, Result.andThen_ok, List.map_toArray, List.map_cons, List.map_nil, hs, hx, hr]
  exact h g cap w' (by rw [List.map_append]; exact h2) h3

theorem SRow.cells {w : World} {B g : Nat} {ss : List ByteArray} (h : SRow w B (some ⟨g, 0, none⟩) ss) : ∀ j s, ss[j]? = some s → w.cell? ((⟨g, 0, none⟩ : Addr).add j) = some (.string s) := by
  intro j s hs
  rcases h with h | ⟨b, off, h1, _, h3⟩
  · subst h; simp at hs
  · cases h1
    have := h3 j s hs
    rw [Go.WideShapes.add_plain]
    simpa using this

theorem SRow.take {w : World} {B : Nat} {a : Option Addr} {tt : List ByteArray} (h : SRow w B a tt) (K : Nat) : SRow w B a (tt.take K) := by
  rcases h with h | ⟨q, off, h1, h2, h3⟩
  · exact .inl (by simp [h])
  · refine .inr ⟨q, off, h1, h2, fun i s his => h3 i s ?_⟩
    have hi := (List.getElem?_eq_some_iff.1 his).1
    simp at hi
    rw [List.getElem?_take_of_lt (by omega)] at his
    exact his

end Go.Proofs.Ytdecihmplkgfkaa
