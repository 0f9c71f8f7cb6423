/-
  laws.FnExactReadEntry, at every input: the tied card.
-/
import Derived.Test.YtdecihmplkgfkaaDoorCards
import Derived.Test.YtdecihmplkgfkaaDoorTie
import Derived.Test.YtdecihmplkgfkaaDoorEntZ
import Derived.Test.YtdecihmplkgfkaaDoorEntE
import Derived.OpenVars
import Derived.Deep.DeepHandedRow
namespace Go.Proofs.YtdecihmplkgfkaaDoor
open Go.ChangeShapes Go.WideShapes Go.ChangeAt Go.RowKit
open Go.ChangeMaps (open_string shut_string)

/-- What a world's block of cells is set to. -/
def putCells (cs : Array Value) : Obj → Obj
  | .cells _ t frozen => .cells cs t frozen
  | o => o

/-- The values of errors that a world holds from block n on. -/
def errAt (n : Nat) : Value := .iface 141 (.pointer (some ⟨n, 0, none⟩))

/-- A world that holds what the rows list. -/
noncomputable def envWorld (os : Os) : World :=
  let w0 := World.holding Tryd.prog os ⟨#[], #[], []⟩
  { w0 with heap := (((((((((((((w0.heap.modify 5 (putCells #[.bool false, .bool false, .bool false, .int .i64 0, .bool false, .bool false, .bool true, .int .i64 100000, .bool true, .bool true, .bool false, .int .i64 0, .bool true, .bool false, .bool false, .int .i64 0, .bool false, .bool true, .bool false, .int .i64 100000, .bool false, .bool false, .bool false, .int .i64 1000000000, .bool false, .bool false, .bool false, .int .i64 100000, .bool false, .bool true, .bool false, .int .i64 0])).modify 4 (putCells #[.iface 127 (.agg #[.pointer (some ⟨8, 58, none⟩)])])).modify 0 (putCells #[errAt w0.heap.size])).modify 1 (putCells #[errAt (w0.heap.size + 1)])).modify 6 (putCells #[errAt (w0.heap.size + 2)])).modify 7 (putCells #[errAt (w0.heap.size + 3)])).modify 2 (putCells #[errAt (w0.heap.size + 4)])).modify 3 (putCells #[errAt (w0.heap.size + 5)])).push (.cells #[.string ⟨#[110, 111, 32, 119, 105, 100, 116, 104]⟩] 161)).push (.cells #[.string ⟨#[110, 111, 32, 107, 105, 110, 100, 32, 111, 102, 32, 101, 110, 116, 114, 121]⟩] 161)).push (.cells #[.string ⟨#[105, 116, 32, 101, 110, 100, 115, 32, 116, 111, 111, 32, 101, 97, 114, 108, 121]⟩] 161)).push (.cells #[.string ⟨#[105, 116, 115, 32, 116, 104, 105, 110, 103, 32, 105, 115, 32, 110, 111, 110, 101]⟩] 161)).push (.cells #[.string ⟨#[105, 116, 32, 103, 111, 101, 115, 32, 111, 110, 32, 98, 101, 104, 105, 110, 100, 32, 105, 116, 115, 32, 101, 110, 100]⟩] 161)).push (.cells #[.string ⟨#[97, 32, 112, 97, 114, 116, 32, 105, 115, 32, 110, 111, 116, 32, 97, 115, 32, 105, 116, 115, 32, 107, 105, 110, 100, 32, 97, 115, 107, 115]⟩] 161) }

theorem vars_cons {H : Type} {enc : TypeId × Value → H} {P : Program} {w : World} {sp : Nat → Bool} {n : String} {ns : List String} {gs : List (DataW H)} {ps : List MemPlace} (h : DataW.TrodVars enc P w sp (n :: ns) gs ps) : ∃ d ds q, gs = d :: ds ∧ DataW.TrodVars enc P w sp ns ds q := by
  cases gs with
  | nil => exact h.elim
  | cons d ds =>
    obtain ⟨g, t, cs, fuel, p, q, _, _, _, _, hs, _⟩ := h
    exact ⟨d, ds, q, rfl, hs⟩

namespace ExactReadEntry

set_option maxRecDepth 100000 in
theorem contract (H : Type) (enc : TypeId × Value → H) (W : World) (base : Nat) (args : Array Value) (ds gs : List (DataW H)) (before : List MemPlace)
    (hval0 : ∀ (j : Nat) t v, Tryd.f4.params[j]? = some t → args[j]? = some v → Value.okWide Tryd.prog W .any base t v)
    (hW : DataW.Whole enc Tryd.prog Tryd.f4.params.toList Rows.fnExactReadEntrySpec.vars false W args.toList ds gs before) (hL : laidMetH Tryd.prog Rows.fnExactReadEntryRow.laid W) :
    Calls Tryd.prog 4 args W fun e W' => ∃ v, e = .returned v ∧ Rows.fnExactReadEntrySpec.post enc Tryd.prog Tryd.f4 false true false false W args v W' := by
  have hval := hval0
  have hW' := hW
  have hL' : laidMet Tryd.prog laidE W ∧ handlesMet Tryd.prog [("errors.errorType", Rows.laid_errors_errorType)] W := hL
  have hE := env_of hL'.1 hL'.2
  obtain ⟨p, q, hA0, hV, rfl, hfz, hnd⟩ := hW
  have hA : DataW.TrodAll enc Tryd.prog W 0 (fun _ => true) true Tryd.f4.params.toList args.toList ds p := hA0
  rw [Tryd.params4] at hA hval
  obtain ⟨v0, vs0, d0, ds0, p0, q0, hargs, rfl, rfl, h0, r0⟩ := trodAll_cons hA
  obtain ⟨v1, vs1, d1, ds1, p1, q1, rfl, rfl, rfl, h1, r1⟩ := trodAll_cons r0
  obtain ⟨rfl, rfl, rfl⟩ := trodAll_nil r1
  obtain rfl : args = #[v0, v1] := by cases args; simp_all
  have hV0 := hV
  obtain ⟨g1, gs1, _, rfl, hV1⟩ := vars_cons hV0
  obtain ⟨g2, gs2, _, rfl, hV2⟩ := vars_cons hV1
  obtain ⟨g3, gs3, _, rfl, hV3⟩ := vars_cons hV2
  obtain ⟨g4, gs4, _, rfl, hV4⟩ := vars_cons hV3
  obtain ⟨g5, gs5, _, rfl, hV5⟩ := vars_cons hV4
  obtain ⟨g6, gs6, _, rfl, hV6⟩ := vars_cons hV5
  obtain ⟨g7, gs7, _, rfl, hV7⟩ := vars_cons hV6
  obtain ⟨rfl, _⟩ := trodVars_none hV7
  obtain ⟨a0, rfl, rfl, rfl, w0⟩ := open_string Tryd.underlying9 (hval 0 9 v0 rfl rfl) h0
  obtain ⟨a1, rfl, rfl, rfl, w1⟩ := open_int Tryd.underlying3 (hval 1 3 v1 rfl rfl) h1
  clear hA0 hval0
  refine (walk a0 a1 W w0 hE).mono fun e W' ⟨he, bel⟩ => ?_
  subst he
  exact ⟨_, rfl, _, _, _, [], _, _, hW', trodAll_mk1 (shut_bool Tryd.underlying4 _), (trodAll_cons_mk (shut_string Tryd.underlying9 w0) (trodAll_cons_mk (shut_int Tryd.underlying3 w1) trodAll_mk0)), Below.trodVars laidOut bel (by kernel_rfl) hV, bel.frame _, fun h => by cases h⟩

theorem laid_met (os : Os) : laidMetH Tryd.prog Rows.fnExactReadEntryRow.laid (World.forCall (envWorld os) (fun _ _ => 0) ⟨#[], #[.string ByteArray.empty, .int .i64 0], []⟩).memory :=
  laidMetH_of_parts (laidMet_of_run' 8 (by kernel_rfl) (by kernel_rfl)) (by kernel_rfl)

/-- What the error at place i reads as. -/
noncomputable def heldErr {H : Type} (enc : TypeId × Value → H) (os : Os) (i : Nat) : DataW H := .held (enc (141, .pointer (some ⟨(World.holding Tryd.prog os ⟨#[], #[], []⟩).heap.size + i, 0, none⟩)))

theorem reads (os : Os) {H : Type} (enc : TypeId × Value → H) : ∃ places, DataW.whole enc Tryd.prog (World.forCall (envWorld os) (fun _ _ => 0) ⟨#[], #[.string ByteArray.empty, .int .i64 0], []⟩).memory Tryd.f4.params.toList Rows.fnExactReadEntrySpec.vars false (#[.string ByteArray.empty, .int .i64 0] : Array Value).toList 8 = some ([.lit (.string []), .lit (.int .i64 0)], [heldErr enc os 0, heldErr enc os 1, heldErr enc os 4, heldErr enc os 5, heldErr enc os 2, Rows.laid_loop_example_kilnvault_impl_kindParts, heldErr enc os 3], places) :=
  ⟨MemPlace.row ⟨0, 0, none⟩ 1 ++ (MemPlace.row ⟨1, 0, none⟩ 1 ++ (MemPlace.row ⟨2, 0, none⟩ 1 ++ (MemPlace.row ⟨3, 0, none⟩ 1 ++ (MemPlace.row ⟨6, 0, none⟩ 1 ++ (MemPlace.row ⟨5, 0, none⟩ 32 ++ MemPlace.row ⟨7, 0, none⟩ 1))))), by kernel_rfl⟩

set_option maxRecDepth 100000 in
theorem lifted (os : Os) (started : os.Started) (H : Type) (enc : TypeId × Value → H) (F : Stop.Interp) :
    ReturnsInHanded {} Tryd.checked os 4 .any ((OpenSpec.ofChange Rows.fnExactReadEntrySpec).preRow enc Tryd.prog Tryd.f4 Rows.fnExactReadEntryRow.domain false Rows.fnExactReadEntryRow.laid) (((OpenSpec.ofChange Rows.fnExactReadEntrySpec).at F).post enc Tryd.prog Tryd.f4 false true false false) := by
  obtain ⟨places, hx⟩ := reads os enc
  refine returnsInHanded_of_row (C := Tryd.checked) (s := OpenSpec.ofChange Rows.fnExactReadEntrySpec) own started (by kernel_rfl) Tryd.func4
    (witness_row_at (enc := enc) (C := Tryd.checked) false (envWorld os) #[.string ByteArray.empty, .int .i64 0] rfl (by kernel_rfl) (by kernel_rfl) (by kernel_rfl)
      (OpenSpec.preRow_of_cond 8 hx (by kernel_rfl) (fun k hk => by cases hk) (by kernel_rfl) (laid_met os))) ?_
  intro W base args ds gs before hval hW _ _ _ hL _ _
  exact contract H enc W base args ds gs before hval hW hL

theorem said : Rows.FnExactReadEntrySaid :=
  OpenClaim.holds_of_cond 4 Tryd.f4 rfl rfl rfl rfl rfl rfl rfl ⟨rfl, rfl, rfl, rfl, rfl⟩ rfl rfl rfl rfl rfl (by kernel_rfl) Tryd.func4 (by kernel_rfl)
    (of_decide_eq_true (by kernel_rfl)) (by unfold Func.isWrapper; first | (rw [if_pos (by decide +kernel)]; kernel_rfl) | (rw [if_neg (by decide +kernel)]; exact ⟨rfl, rfl⟩))
    (fun os started H enc _ F => by rw [OpenClaim.pre_eq_preRow]; exact lifted os started H enc F)

theorem plain (f : FuncId) (fn : Func) (hf : Tryd.pinned.checked.prog.funcNamed "loop.example/kilnvault/laws.FnExactReadEntry" = some f) (hfn : Tryd.pinned.checked.prog.funcs[f]? = some fn) :
    true = Tryd.pinned.checked.prog.looks [] ∧ ∀ (j : Nat) t, fn.params[j]? = some t → Tryd.pinned.checked.prog.wantsStandIn t = false := by
  obtain rfl : f = 4 := Option.some.inj ((show Tryd.prog.funcNamed "loop.example/kilnvault/laws.FnExactReadEntry" = some 4 by kernel_rfl).symm.trans hf) |>.symm
  obtain rfl : fn = Tryd.f4 := (Option.some.inj (Tryd.func4.symm.trans hfn)).symm
  refine ⟨by kernel_rfl, fun j t ht => ?_⟩
  rw [Tryd.params4] at ht
  have hm := Array.mem_of_getElem? ht
  simp at hm
  rcases hm with rfl | rfl
  · exact (show Tryd.prog.wantsStandIn 9 = false by kernel_rfl)
  · exact (show Tryd.prog.wantsStandIn 3 = false by kernel_rfl)

end ExactReadEntry

theorem fnExactReadEntry_holds : Rows.FnExactReadEntryCardSaid :=
  Claim7.holds_tied_plain_at .later [] _ _ _ _ ExactReadEntry.said (fun _ h => by cases h) (by kernel_rfl) (fun _ h => by cases h) fnExactReadEntry_row_tie rfl ⟨rfl, rfl⟩ (by kernel_rfl) rfl ExactReadEntry.plain (by kernel_rfl)
#print axioms fnExactReadEntry_holds
end Go.Proofs.YtdecihmplkgfkaaDoor
