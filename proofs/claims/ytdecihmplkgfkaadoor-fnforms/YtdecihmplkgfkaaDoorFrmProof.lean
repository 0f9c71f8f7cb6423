/-
  laws.FnForms, at every input: the tied card.
-/
import Derived.Test.YtdecihmplkgfkaaDoorCards
import Derived.Test.YtdecihmplkgfkaaDoorTie
import Derived.Test.YtdecihmplkgfkaaDoorFrmY
import Derived.Test.YtdecihmplkgfkaaDoorRead
import Derived.Deep.Slices
import Derived.Test.YtdecihmplkgfkaaDoorEntE
import Derived.OpenVars
import Derived.Deep.DeepHandedRow
namespace Go.Proofs.YtdecihmplkgfkaaDoor
open Go.ChangeShapes Go.WideShapes Go.ChangeAt Go.RowKit
open Go.ChangeMaps (open_string shut_string)

/-- What a world's block of cells is set to. -/
def putCells (cs : Array Value) : Obj → Obj
  | .cells _ t frozen => .cells cs t frozen
  | o => o

/-- The values of errors that a world holds from block n on. -/
def errAt (n : Nat) : Value := .iface 141 (.pointer (some ⟨n, 0, none⟩))

/-- A world that holds what the rows list. -/
noncomputable def envWorld (os : Os) : World :=
  let w0 := World.holding Tryd.prog os ⟨#[], #[], []⟩
  { w0 with heap := (((((((((((((w0.heap.modify 5 (putCells #[.bool false, .bool false, .bool false, .int .i64 0, .bool false, .bool false, .bool true, .int .i64 100000, .bool true, .bool true, .bool false, .int .i64 0, .bool true, .bool false, .bool false, .int .i64 0, .bool false, .bool true, .bool false, .int .i64 100000, .bool false, .bool false, .bool false, .int .i64 1000000000, .bool false, .bool false, .bool false, .int .i64 100000, .bool false, .bool true, .bool false, .int .i64 0])).modify 4 (putCells #[.iface 127 (.agg #[.pointer (some ⟨8, 58, none⟩)])])).modify 0 (putCells #[errAt w0.heap.size])).modify 1 (putCells #[errAt (w0.heap.size + 1)])).modify 6 (putCells #[errAt (w0.heap.size + 2)])).modify 7 (putCells #[errAt (w0.heap.size + 3)])).modify 2 (putCells #[errAt (w0.heap.size + 4)])).modify 3 (putCells #[errAt (w0.heap.size + 5)])).push (.cells #[.string ⟨#[110, 111, 32, 119, 105, 100, 116, 104]⟩] 161)).push (.cells #[.string ⟨#[110, 111, 32, 107, 105, 110, 100, 32, 111, 102, 32, 101, 110, 116, 114, 121]⟩] 161)).push (.cells #[.string ⟨#[105, 116, 32, 101, 110, 100, 115, 32, 116, 111, 111, 32, 101, 97, 114, 108, 121]⟩] 161)).push (.cells #[.string ⟨#[105, 116, 115, 32, 116, 104, 105, 110, 103, 32, 105, 115, 32, 110, 111, 110, 101]⟩] 161)).push (.cells #[.string ⟨#[105, 116, 32, 103, 111, 101, 115, 32, 111, 110, 32, 98, 101, 104, 105, 110, 100, 32, 105, 116, 115, 32, 101, 110, 100]⟩] 161)).push (.cells #[.string ⟨#[97, 32, 112, 97, 114, 116, 32, 105, 115, 32, 110, 111, 116, 32, 97, 115, 32, 105, 116, 115, 32, 107, 105, 110, 100, 32, 97, 115, 107, 115]⟩] 161) }

theorem vars_cons {H : Type} {enc : TypeId × Value → H} {P : Program} {w : World} {sp : Nat → Bool} {n : String} {ns : List String} {gs : List (DataW H)} {ps : List MemPlace} (h : DataW.TrodVars enc P w sp (n :: ns) gs ps) : ∃ d ds q, gs = d :: ds ∧ DataW.TrodVars enc P w sp ns ds q := by
  cases gs with
  | nil => exact h.elim
  | cons d ds =>
    obtain ⟨g, t, cs, fuel, p, q, _, _, _, _, hs, _⟩ := h
    exact ⟨d, ds, q, rfl, hs⟩

namespace FormsLaw

theorem cellsB : Tryd.prog.cellsOf 5 = 1 := by kernel_rfl

theorem read_bytes {H : Type} {enc : TypeId × Value → H} {W : World} {base : Nat} {spare : Nat → Bool} {held : Bool} {fuel : Nat} {v : Value} {y : DataW H × List MemPlace}
    (h : DataW.trod enc Tryd.prog W base spare held fuel 39 [v] = some y) :
    ∃ a n cap, v = .slice a n cap ∧ BRowF W a n ∧ n ≤ cap ∧ n ≤ maxLen := by
  rcases Go.Deep.open_slice1 Tryd.underlying39 cellsB h with ⟨hcs, _⟩ | ⟨a, len, cap, m, n, V, D, Pl, hcs, _, hl, hm, hmm, _, hx⟩
  · simp at hcs
    subst hcs
    exact ⟨none, 0, 0, rfl, .inl rfl, Nat.le_refl _, Nat.zero_le _⟩
  · simp at hcs
    subst hcs
    refine ⟨some a, len, cap, rfl, ?_, hl, by omega⟩
    have hlm : len ≤ m := by rw [hmm]; split <;> omega
    by_cases h0 : len = 0
    · exact .inl h0
    · obtain ⟨b, off, spot⟩ := a
      have hspot : spot = none := by simpa [Addr.add] using World.cell?_spot (hx 0 (by omega)).1
      subst hspot
      refine .inr ⟨b, off, rfl, ?_, fun j hj => ?_⟩
      · exact World.block_lt_of_cell? W ⟨b, off + 0, none⟩ (by rw [← Go.WideShapes.add_plain]; exact (hx 0 (by omega)).1)
      · obtain ⟨h1, h2⟩ := hx j (by omega)
        obtain ⟨z, hz, _, hw⟩ := DataW.trod_int Tryd.underlying5 h2
        simp at hz
        rw [Go.WideShapes.add_plain, hz] at h1
        refine ⟨z, h1, ?_⟩
        have h8 := range_u8 (zs := [z]) (by intro n hn; simp at hn; subst hn; exact hw) 0
        simp at h8
        omega

set_option maxRecDepth 100000 in
theorem contract (H : Type) (enc : TypeId × Value → H) (W : World) (base : Nat) (args : Array Value) (ds gs : List (DataW H)) (before : List MemPlace)
    (hval0 : ∀ (j : Nat) t v, Tryd.f5.params[j]? = some t → args[j]? = some v → Value.okWide Tryd.prog W .any base t v)
    (hW : DataW.Whole enc Tryd.prog Tryd.f5.params.toList Rows.fnFormsSpec.vars false W args.toList ds gs before) (hL : laidMetH Tryd.prog Rows.fnFormsRow.laid W) :
    Calls Tryd.prog 5 args W fun e W' => ∃ v, e = .returned v ∧ Rows.fnFormsSpec.post enc Tryd.prog Tryd.f5 false true false false W args v W' := by
  have hval := hval0
  have hW' := hW
  have hL' : laidMet Tryd.prog laidE W ∧ handlesMet Tryd.prog [("errors.errorType", Rows.laid_errors_errorType)] W := hL
  have hE := env_of hL'.1 hL'.2
  obtain ⟨p, q, hA0, hV, rfl, hfz, hnd⟩ := hW
  have hA : DataW.TrodAll enc Tryd.prog W 0 (fun _ => true) true Tryd.f5.params.toList args.toList ds p := hA0
  rw [Tryd.params5] at hA hval
  obtain ⟨v0, vs0, d0, ds0, p0, q0, hargs, rfl, rfl, h0, r0⟩ := trodAll_cons hA
  obtain ⟨rfl, rfl, rfl⟩ := trodAll_nil r0
  obtain rfl : args = #[v0] := by cases args; simp_all
  have hV0 := hV
  obtain ⟨g1, gs1, _, rfl, hV1⟩ := vars_cons hV0
  obtain ⟨g2, gs2, _, rfl, hV2⟩ := vars_cons hV1
  obtain ⟨g3, gs3, _, rfl, hV3⟩ := vars_cons hV2
  obtain ⟨g4, gs4, _, rfl, hV4⟩ := vars_cons hV3
  obtain ⟨g5, gs5, _, rfl, hV5⟩ := vars_cons hV4
  obtain ⟨g6, gs6, _, rfl, hV6⟩ := vars_cons hV5
  obtain ⟨g7, gs7, _, rfl, hV7⟩ := vars_cons hV6
  obtain ⟨rfl, _⟩ := trodVars_none hV7
  have k0 := h0
  have lt0 : ∀ x ∈ p0, x.block < W.heap.size := by obtain ⟨m, hm⟩ := k0; exact DataW.trod_lt m _ _ _ hm
  obtain ⟨a1, len1, cap1, hv0⟩ := okWide_slice Tryd.underlying39 (hval 0 39 v0 rfl rfl)
  subst hv0
  obtain ⟨fuel, hf⟩ := h0
  obtain ⟨a, n, c, hv1, hb, hc, hn⟩ := read_bytes hf
  injection hv1 with e1 e2 e3
  subst e1 e2 e3
  clear hA0 hval0
  refine (fnForms_walk a1 len1 cap1 W hn hb hc hE).mono fun e W' ⟨he, bel⟩ => ?_
  subst he
  exact ⟨_, rfl, _, _, _, [], _, _, hW', trodAll_mk1 (shut_bool Tryd.underlying4 _), (trodAll_cons_mk (Below.trod laidOut (by kernel_rfl) (of_decide_eq_true (by kernel_rfl)) k0 bel lt0) trodAll_mk0), Below.trodVars laidOut bel (by kernel_rfl) hV, bel.frame _, fun h => by cases h⟩

theorem laid_met (os : Os) : laidMetH Tryd.prog Rows.fnFormsRow.laid (World.forCall (envWorld os) (fun _ _ => 0) ⟨#[], #[.slice none 0 0], []⟩).memory :=
  laidMetH_of_parts (laidMet_of_run' 8 (by kernel_rfl) (by kernel_rfl)) (by kernel_rfl)

/-- What the error at place i reads as. -/
noncomputable def heldErr {H : Type} (enc : TypeId × Value → H) (os : Os) (i : Nat) : DataW H := .held (enc (141, .pointer (some ⟨(World.holding Tryd.prog os ⟨#[], #[], []⟩).heap.size + i, 0, none⟩)))

theorem reads (os : Os) {H : Type} (enc : TypeId × Value → H) : ∃ places, DataW.whole enc Tryd.prog (World.forCall (envWorld os) (fun _ _ => 0) ⟨#[], #[.slice none 0 0], []⟩).memory Tryd.f5.params.toList Rows.fnFormsSpec.vars false (#[.slice none 0 0] : Array Value).toList 8 = some ([.nil], [Rows.laid_loop_example_kilnvault_impl_kindParts, heldErr enc os 0, heldErr enc os 1, heldErr enc os 4, heldErr enc os 5, heldErr enc os 2, heldErr enc os 3], places) :=
  ⟨MemPlace.row ⟨5, 0, none⟩ 32 ++ (MemPlace.row ⟨0, 0, none⟩ 1 ++ (MemPlace.row ⟨1, 0, none⟩ 1 ++ (MemPlace.row ⟨2, 0, none⟩ 1 ++ (MemPlace.row ⟨3, 0, none⟩ 1 ++ (MemPlace.row ⟨6, 0, none⟩ 1 ++ MemPlace.row ⟨7, 0, none⟩ 1))))), by kernel_rfl⟩

set_option maxRecDepth 100000 in
theorem lifted (os : Os) (started : os.Started) (H : Type) (enc : TypeId × Value → H) (F : Stop.Interp) :
    ReturnsInHanded {} Tryd.checked os 5 .any ((OpenSpec.ofChange Rows.fnFormsSpec).preRow enc Tryd.prog Tryd.f5 Rows.fnFormsRow.domain false Rows.fnFormsRow.laid) (((OpenSpec.ofChange Rows.fnFormsSpec).at F).post enc Tryd.prog Tryd.f5 false true false false) := by
  obtain ⟨places, hx⟩ := reads os enc
  refine returnsInHanded_of_row (C := Tryd.checked) (s := OpenSpec.ofChange Rows.fnFormsSpec) own started (by kernel_rfl) Tryd.func5
    (witness_row_at (enc := enc) (C := Tryd.checked) false (envWorld os) #[.slice none 0 0] rfl (by kernel_rfl) (by kernel_rfl) (by kernel_rfl)
      (OpenSpec.preRow_of_cond 8 hx (by kernel_rfl) (fun k hk => by cases hk) (by kernel_rfl) (laid_met os))) ?_
  intro W base args ds gs before hval hW _ _ _ hL _ _
  exact contract H enc W base args ds gs before hval hW hL

theorem said : Rows.FnFormsSaid :=
  OpenClaim.holds_of_cond 5 Tryd.f5 rfl rfl rfl rfl rfl rfl rfl ⟨rfl, rfl, rfl, rfl, rfl⟩ rfl rfl rfl rfl rfl (by kernel_rfl) Tryd.func5 (by kernel_rfl)
    (of_decide_eq_true (by kernel_rfl)) (by unfold Func.isWrapper; first | (rw [if_pos (by decide +kernel)]; kernel_rfl) | (rw [if_neg (by decide +kernel)]; exact ⟨rfl, rfl⟩))
    (fun os started H enc _ F => by rw [OpenClaim.pre_eq_preRow]; exact lifted os started H enc F)

theorem plain (f : FuncId) (fn : Func) (hf : Tryd.pinned.checked.prog.funcNamed "loop.example/kilnvault/laws.FnForms" = some f) (hfn : Tryd.pinned.checked.prog.funcs[f]? = some fn) :
    true = Tryd.pinned.checked.prog.looks [] ∧ ∀ (j : Nat) t, fn.params[j]? = some t → Tryd.pinned.checked.prog.wantsStandIn t = false := by
  obtain rfl : f = 5 := Option.some.inj ((show Tryd.prog.funcNamed "loop.example/kilnvault/laws.FnForms" = some 5 by kernel_rfl).symm.trans hf) |>.symm
  obtain rfl : fn = Tryd.f5 := (Option.some.inj (Tryd.func5.symm.trans hfn)).symm
  refine ⟨by kernel_rfl, fun j t ht => ?_⟩
  rw [Tryd.params5] at ht
  have hm := Array.mem_of_getElem? ht
  simp at hm
  subst hm
  exact (show Tryd.prog.wantsStandIn 39 = false by kernel_rfl)

end FormsLaw

theorem fnForms_holds : Rows.FnFormsCardSaid :=
  Claim7.holds_tied_plain_at .later [] _ _ _ _ FormsLaw.said (fun _ h => by cases h) (by kernel_rfl) (fun _ h => by cases h) fnForms_row_tie rfl ⟨rfl, rfl⟩ (by kernel_rfl) rfl FormsLaw.plain (by kernel_rfl)
#print axioms fnForms_holds
end Go.Proofs.YtdecihmplkgfkaaDoor
