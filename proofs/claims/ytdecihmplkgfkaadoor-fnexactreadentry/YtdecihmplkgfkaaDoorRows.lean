/-
  NARROWER THAN 'FOR EVERY INPUT', by the rows' own cells (each row's printed sentence says how): FnExactFormEntry: laid · FnExactReadEntry: ifaces, laid · FnForms: ifaces, laid.
  DERIVED. THE GIVEN ROWS OF THIS SEAT. 3 by the template 'for every input the law returns true; each argument reads behind the call as it read before'; 0 by the template 'total and deterministic' (their statements: YtdecihmplkgfkaaDoorTotals.lean).
  GIVEN WITH THE SEED: the statements are not yours to turn. If you find one false, say at which input.
  Laid BY PROGRAM, IN A SANDBOX (cutbox-rows.mjs): the forced cells as the released guide's own fill.sh prints them over the translation 556f86d8484ae27b… (all of the seat's roots in one cut). By AI agents, Wed Nov 11 2026. No macro, syntax, notation, axiom, sorry.
-/
import Derived.Test.YtdecihmplkgfkaaDoorChecked
import GoSem.Claim
import GoSem.ClaimJoined
import GoSem.ClaimMapViews
import Derived.JoinedTies
import Derived.KernelRfl
namespace Go.Proofs.YtdecihmplkgfkaaDoor
/- THE CELL 'sum', in the pinned program and in every row, IS THE sha256 OF THE DUMP (.gsa) THAT YtdecihmplkgfkaaDoorProg.lean LOADS. Nothing in Lean hashes anything: it is a label: what it is worth is what the hold of that sum in a sandbox is worth. -/
noncomputable def Tryd.pinned : Pinned := { name := "ytdecihmplkgfkaadoor", sum := "556f86d8484ae27bdf826245c894325fee46d2afbfc3000796671bafd4ce91c0", checked := Tryd.checked }
namespace Rows
def none {H : Type} : Left H := { results := [], args := [] }

/- WHAT THE LISTED PACKAGE-LEVEL VARIABLES READ AS WHEN THE CALL BEGINS. Each datum BY PROGRAM (the guide's laid-datum.mjs) off the statement by which the dump's own 'gosem.cut.vars' lays the variable. In a bare row this is a premise. The card (YtdecihmplkgfkaaDoorCards.lean) ties it to the program's text. -/
def laid_loop_example_kilnvault_impl_kindParts {H : Type} : DataW H := .agg [.agg [.lit (.bool false), .lit (.bool false), .lit (.bool false), .lit (.int .i64 0)], .agg [.lit (.bool false), .lit (.bool false), .lit (.bool true), .lit (.int .i64 100000)], .agg [.lit (.bool true), .lit (.bool true), .lit (.bool false), .lit (.int .i64 0)], .agg [.lit (.bool true), .lit (.bool false), .lit (.bool false), .lit (.int .i64 0)], .agg [.lit (.bool false), .lit (.bool true), .lit (.bool false), .lit (.int .i64 100000)], .agg [.lit (.bool false), .lit (.bool false), .lit (.bool false), .lit (.int .i64 1000000000)], .agg [.lit (.bool false), .lit (.bool false), .lit (.bool false), .lit (.int .i64 100000)], .agg [.lit (.bool false), .lit (.bool true), .lit (.bool false), .lit (.int .i64 0)]]
def laid_errors_errorType {H : Type} : DataW H := .iface "internal/reflectlite.rtype" (.agg [.ptr (.lit (.string [101, 114, 114, 111, 114]))])
def laid_loop_example_kilnvault_impl_errWidth {H : Type} : DataW H := .iface "*errors.errorString" (.ptr (.agg [.lit (.string [110, 111, 32, 119, 105, 100, 116, 104])]))
def laid_loop_example_kilnvault_impl_errKind {H : Type} : DataW H := .iface "*errors.errorString" (.ptr (.agg [.lit (.string [110, 111, 32, 107, 105, 110, 100, 32, 111, 102, 32, 101, 110, 116, 114, 121])]))
def laid_loop_example_kilnvault_impl_errShort {H : Type} : DataW H := .iface "*errors.errorString" (.ptr (.agg [.lit (.string [105, 116, 32, 101, 110, 100, 115, 32, 116, 111, 111, 32, 101, 97, 114, 108, 121])]))
def laid_loop_example_kilnvault_impl_errThing {H : Type} : DataW H := .iface "*errors.errorString" (.ptr (.agg [.lit (.string [105, 116, 115, 32, 116, 104, 105, 110, 103, 32, 105, 115, 32, 110, 111, 110, 101])]))
def laid_loop_example_kilnvault_impl_errLong {H : Type} : DataW H := .iface "*errors.errorString" (.ptr (.agg [.lit (.string [105, 116, 32, 103, 111, 101, 115, 32, 111, 110, 32, 98, 101, 104, 105, 110, 100, 32, 105, 116, 115, 32, 101, 110, 100])]))
def laid_loop_example_kilnvault_impl_errParts {H : Type} : DataW H := .iface "*errors.errorString" (.ptr (.agg [.lit (.string [97, 32, 112, 97, 114, 116, 32, 105, 115, 32, 110, 111, 116, 32, 97, 115, 32, 105, 116, 115, 32, 107, 105, 110, 100, 32, 97, 115, 107, 115])]))

/-- 'laws.FnExactFormEntry': WHATEVER THE INPUT: true; the input reads as it did. -/
def fnExactFormEntrySpec : ChangeSpec := { name := "fnExactFormEntry", vars := ["loop.example/kilnvault/impl.kindParts"], fn := fun _ => fun
  | [d1, d2, g1] => { results := [.lit (.bool true)], args := [d1, d2], vars := [g1] }
  | _ => none }
def fnExactFormEntryRow : OpenClaim := { program := "ytdecihmplkgfkaadoor", sum := "556f86d8484ae27bdf826245c894325fee46d2afbfc3000796671bafd4ce91c0", func := "loop.example/kilnvault/laws.FnExactFormEntry", spec := "fnExactFormEntry", inPlace := ["internal/abi.NoEscape"], named := ["loop.example/kilnvault/impl.kindParts"], apart := false, laid := [("loop.example/kilnvault/impl.kindParts", laid_loop_example_kilnvault_impl_kindParts)] }
def FnExactFormEntrySaid : Prop := fnExactFormEntryRow.holds Tryd.pinned (OpenSpec.ofChange fnExactFormEntrySpec)

/-- ITS FALSE NEIGHBOUR: 'it returns false'. Refute it at one input. -/
def fnExactFormEntryWrong : ChangeSpec := { name := "fnExactFormEntry", vars := ["loop.example/kilnvault/impl.kindParts"], fn := fun _ => fun
  | [d1, d2, g1] => { results := [.lit (.bool false)], args := [d1, d2], vars := [g1] }
  | _ => none }
def FnExactFormEntryWrongFalsely : Prop := fnExactFormEntryRow.holds Tryd.pinned (OpenSpec.ofChange fnExactFormEntryWrong)

/-- 'laws.FnExactReadEntry': WHATEVER THE INPUT: true; the input reads as it did. -/
def fnExactReadEntrySpec : ChangeSpec := { name := "fnExactReadEntry", vars := ["loop.example/kilnvault/impl.errWidth", "loop.example/kilnvault/impl.errKind", "loop.example/kilnvault/impl.errLong", "loop.example/kilnvault/impl.errParts", "loop.example/kilnvault/impl.errShort", "loop.example/kilnvault/impl.kindParts", "loop.example/kilnvault/impl.errThing"], fn := fun _ => fun
  | [d1, d2, g1, g2, g3, g4, g5, g6, g7] => { results := [.lit (.bool true)], args := [d1, d2], vars := [g1, g2, g3, g4, g5, g6, g7] }
  | _ => none }
def fnExactReadEntryRow : OpenClaim := { program := "ytdecihmplkgfkaadoor", sum := "556f86d8484ae27bdf826245c894325fee46d2afbfc3000796671bafd4ce91c0", func := "loop.example/kilnvault/laws.FnExactReadEntry", spec := "fnExactReadEntry", inPlace := ["internal/reflectlite.ValueOf", "(internal/reflectlite.Value).Type", "(internal/reflectlite.Value).IsNil", "internal/reflectlite.TypeOf", "(internal/reflectlite.Value).Elem", "(internal/reflectlite.Value).Set"], unfollowed := true, recurses := true, named := ["loop.example/kilnvault/impl.errWidth", "loop.example/kilnvault/impl.errKind", "loop.example/kilnvault/impl.errLong", "loop.example/kilnvault/impl.errParts", "loop.example/kilnvault/impl.errShort", "loop.example/kilnvault/impl.kindParts", "loop.example/kilnvault/impl.errThing", "errors.errorType"], ifaces := true, apart := false, laid := [("errors.errorType", laid_errors_errorType), ("loop.example/kilnvault/impl.kindParts", laid_loop_example_kilnvault_impl_kindParts), ("loop.example/kilnvault/impl.errWidth", laid_loop_example_kilnvault_impl_errWidth), ("loop.example/kilnvault/impl.errKind", laid_loop_example_kilnvault_impl_errKind), ("loop.example/kilnvault/impl.errShort", laid_loop_example_kilnvault_impl_errShort), ("loop.example/kilnvault/impl.errThing", laid_loop_example_kilnvault_impl_errThing), ("loop.example/kilnvault/impl.errLong", laid_loop_example_kilnvault_impl_errLong), ("loop.example/kilnvault/impl.errParts", laid_loop_example_kilnvault_impl_errParts)] }
def FnExactReadEntrySaid : Prop := fnExactReadEntryRow.holds Tryd.pinned (OpenSpec.ofChange fnExactReadEntrySpec)

/-- ITS FALSE NEIGHBOUR: 'it returns false'. Refute it at one input. -/
def fnExactReadEntryWrong : ChangeSpec := { name := "fnExactReadEntry", vars := ["loop.example/kilnvault/impl.errWidth", "loop.example/kilnvault/impl.errKind", "loop.example/kilnvault/impl.errLong", "loop.example/kilnvault/impl.errParts", "loop.example/kilnvault/impl.errShort", "loop.example/kilnvault/impl.kindParts", "loop.example/kilnvault/impl.errThing"], fn := fun _ => fun
  | [d1, d2, g1, g2, g3, g4, g5, g6, g7] => { results := [.lit (.bool false)], args := [d1, d2], vars := [g1, g2, g3, g4, g5, g6, g7] }
  | _ => none }
def FnExactReadEntryWrongFalsely : Prop := fnExactReadEntryRow.holds Tryd.pinned (OpenSpec.ofChange fnExactReadEntryWrong)

/-- 'laws.FnForms': WHATEVER THE INPUT: true; the input reads as it did. -/
def fnFormsSpec : ChangeSpec := { name := "fnForms", vars := ["loop.example/kilnvault/impl.kindParts", "loop.example/kilnvault/impl.errWidth", "loop.example/kilnvault/impl.errKind", "loop.example/kilnvault/impl.errLong", "loop.example/kilnvault/impl.errParts", "loop.example/kilnvault/impl.errShort", "loop.example/kilnvault/impl.errThing"], fn := fun _ => fun
  | [d, g1, g2, g3, g4, g5, g6, g7] => { results := [.lit (.bool true)], args := [d], vars := [g1, g2, g3, g4, g5, g6, g7] }
  | _ => none }
def fnFormsRow : OpenClaim := { program := "ytdecihmplkgfkaadoor", sum := "556f86d8484ae27bdf826245c894325fee46d2afbfc3000796671bafd4ce91c0", func := "loop.example/kilnvault/laws.FnForms", spec := "fnForms", inPlace := ["internal/abi.NoEscape", "internal/reflectlite.ValueOf", "(internal/reflectlite.Value).Type", "(internal/reflectlite.Value).IsNil", "internal/reflectlite.TypeOf", "(internal/reflectlite.Value).Elem", "(internal/reflectlite.Value).Set"], unfollowed := true, recurses := true, named := ["loop.example/kilnvault/impl.kindParts", "loop.example/kilnvault/impl.errWidth", "loop.example/kilnvault/impl.errKind", "loop.example/kilnvault/impl.errLong", "loop.example/kilnvault/impl.errParts", "loop.example/kilnvault/impl.errShort", "loop.example/kilnvault/impl.errThing", "errors.errorType"], ifaces := true, apart := false, laid := [("errors.errorType", laid_errors_errorType), ("loop.example/kilnvault/impl.kindParts", laid_loop_example_kilnvault_impl_kindParts), ("loop.example/kilnvault/impl.errWidth", laid_loop_example_kilnvault_impl_errWidth), ("loop.example/kilnvault/impl.errKind", laid_loop_example_kilnvault_impl_errKind), ("loop.example/kilnvault/impl.errShort", laid_loop_example_kilnvault_impl_errShort), ("loop.example/kilnvault/impl.errThing", laid_loop_example_kilnvault_impl_errThing), ("loop.example/kilnvault/impl.errLong", laid_loop_example_kilnvault_impl_errLong), ("loop.example/kilnvault/impl.errParts", laid_loop_example_kilnvault_impl_errParts)] }
def FnFormsSaid : Prop := fnFormsRow.holds Tryd.pinned (OpenSpec.ofChange fnFormsSpec)

/-- ITS FALSE NEIGHBOUR: 'it returns false'. Refute it at one input. -/
def fnFormsWrong : ChangeSpec := { name := "fnForms", vars := ["loop.example/kilnvault/impl.kindParts", "loop.example/kilnvault/impl.errWidth", "loop.example/kilnvault/impl.errKind", "loop.example/kilnvault/impl.errLong", "loop.example/kilnvault/impl.errParts", "loop.example/kilnvault/impl.errShort", "loop.example/kilnvault/impl.errThing"], fn := fun _ => fun
  | [d, g1, g2, g3, g4, g5, g6, g7] => { results := [.lit (.bool false)], args := [d], vars := [g1, g2, g3, g4, g5, g6, g7] }
  | _ => none }
def FnFormsWrongFalsely : Prop := fnFormsRow.holds Tryd.pinned (OpenSpec.ofChange fnFormsWrong)

/- THE SECOND FORM. 'bulk': how many values and letters a reading holds, each counted each time it is reached (what is shared counts as often as it is met; a slice's spare places count too). A statement '..UptoSaid' is the law's where the arguments, and the package variables that the reading takes, are together of bulk at most 1048576: NARROWER than '..Said'. Prove '..Said' where nothing that the law and all that it calls make is longer than what came in: it says more and counts as full. Else prove '..UptoSaid'. A law counts once. -/
mutual
def uptoBulk {H : Type} : DataW H → Nat
  | .lit (.string bytes) => bytes.length + 1
  | .lit _ => 1
  | .nil => 1
  | .ptr d => uptoBulk d + 1
  | .slice elems spare => uptoBulkAll elems + uptoBulkAll spare + 1
  | .agg parts => uptoBulkAll parts + 1
  | .iface _ d => uptoBulk d + 1
  | .map entries => uptoBulkEntries entries + 1
  | .held _ => 1
def uptoBulkAll {H : Type} : List (DataW H) → Nat
  | [] => 0
  | d :: r => uptoBulk d + uptoBulkAll r
def uptoBulkEntries {H : Type} : List (Lit × DataW H) → Nat
  | [] => 0
  | x :: r => uptoBulkEntry x + uptoBulkEntries r
def uptoBulkEntry {H : Type} : Lit × DataW H → Nat
  | (.string bytes, d) => bytes.length + uptoBulk d + 1
  | (_, d) => uptoBulk d + 1
 end
def uptoSmall : (H : Type) → List (DataW H) → Bool := fun _ ds => decide (uptoBulkAll ds ≤ 1048576)
def OpenSpec.upto (s : _root_.Go.ChangeSpec) : _root_.Go.OpenSpec := { _root_.Go.OpenSpec.ofChange s with cond := some uptoSmall }

/-- 'laws.FnExactFormEntry', WHERE WHAT IT READS IS OF BULK AT MOST 1048576: true; the input reads as it did. -/
def fnExactFormEntryUptoRow : OpenClaim := { program := "ytdecihmplkgfkaadoor", sum := "556f86d8484ae27bdf826245c894325fee46d2afbfc3000796671bafd4ce91c0", func := "loop.example/kilnvault/laws.FnExactFormEntry", spec := "fnExactFormEntry", inPlace := ["internal/abi.NoEscape"], named := ["loop.example/kilnvault/impl.kindParts"], apart := false, laid := [("loop.example/kilnvault/impl.kindParts", laid_loop_example_kilnvault_impl_kindParts)], narrowed := true }
def FnExactFormEntryUptoSaid : Prop := fnExactFormEntryUptoRow.holds Tryd.pinned (OpenSpec.upto fnExactFormEntrySpec)

/-- 'laws.FnExactReadEntry', WHERE WHAT IT READS IS OF BULK AT MOST 1048576: true; the input reads as it did. -/
def fnExactReadEntryUptoRow : OpenClaim := { program := "ytdecihmplkgfkaadoor", sum := "556f86d8484ae27bdf826245c894325fee46d2afbfc3000796671bafd4ce91c0", func := "loop.example/kilnvault/laws.FnExactReadEntry", spec := "fnExactReadEntry", inPlace := ["internal/reflectlite.ValueOf", "(internal/reflectlite.Value).Type", "(internal/reflectlite.Value).IsNil", "internal/reflectlite.TypeOf", "(internal/reflectlite.Value).Elem", "(internal/reflectlite.Value).Set"], unfollowed := true, recurses := true, named := ["loop.example/kilnvault/impl.errWidth", "loop.example/kilnvault/impl.errKind", "loop.example/kilnvault/impl.errLong", "loop.example/kilnvault/impl.errParts", "loop.example/kilnvault/impl.errShort", "loop.example/kilnvault/impl.kindParts", "loop.example/kilnvault/impl.errThing", "errors.errorType"], ifaces := true, apart := false, laid := [("errors.errorType", laid_errors_errorType), ("loop.example/kilnvault/impl.kindParts", laid_loop_example_kilnvault_impl_kindParts), ("loop.example/kilnvault/impl.errWidth", laid_loop_example_kilnvault_impl_errWidth), ("loop.example/kilnvault/impl.errKind", laid_loop_example_kilnvault_impl_errKind), ("loop.example/kilnvault/impl.errShort", laid_loop_example_kilnvault_impl_errShort), ("loop.example/kilnvault/impl.errThing", laid_loop_example_kilnvault_impl_errThing), ("loop.example/kilnvault/impl.errLong", laid_loop_example_kilnvault_impl_errLong), ("loop.example/kilnvault/impl.errParts", laid_loop_example_kilnvault_impl_errParts)], narrowed := true }
def FnExactReadEntryUptoSaid : Prop := fnExactReadEntryUptoRow.holds Tryd.pinned (OpenSpec.upto fnExactReadEntrySpec)

/-- 'laws.FnForms', WHERE WHAT IT READS IS OF BULK AT MOST 1048576: true; the input reads as it did. -/
def fnFormsUptoRow : OpenClaim := { program := "ytdecihmplkgfkaadoor", sum := "556f86d8484ae27bdf826245c894325fee46d2afbfc3000796671bafd4ce91c0", func := "loop.example/kilnvault/laws.FnForms", spec := "fnForms", inPlace := ["internal/abi.NoEscape", "internal/reflectlite.ValueOf", "(internal/reflectlite.Value).Type", "(internal/reflectlite.Value).IsNil", "internal/reflectlite.TypeOf", "(internal/reflectlite.Value).Elem", "(internal/reflectlite.Value).Set"], unfollowed := true, recurses := true, named := ["loop.example/kilnvault/impl.kindParts", "loop.example/kilnvault/impl.errWidth", "loop.example/kilnvault/impl.errKind", "loop.example/kilnvault/impl.errLong", "loop.example/kilnvault/impl.errParts", "loop.example/kilnvault/impl.errShort", "loop.example/kilnvault/impl.errThing", "errors.errorType"], ifaces := true, apart := false, laid := [("errors.errorType", laid_errors_errorType), ("loop.example/kilnvault/impl.kindParts", laid_loop_example_kilnvault_impl_kindParts), ("loop.example/kilnvault/impl.errWidth", laid_loop_example_kilnvault_impl_errWidth), ("loop.example/kilnvault/impl.errKind", laid_loop_example_kilnvault_impl_errKind), ("loop.example/kilnvault/impl.errShort", laid_loop_example_kilnvault_impl_errShort), ("loop.example/kilnvault/impl.errThing", laid_loop_example_kilnvault_impl_errThing), ("loop.example/kilnvault/impl.errLong", laid_loop_example_kilnvault_impl_errLong), ("loop.example/kilnvault/impl.errParts", laid_loop_example_kilnvault_impl_errParts)], narrowed := true }
def FnFormsUptoSaid : Prop := fnFormsUptoRow.holds Tryd.pinned (OpenSpec.upto fnFormsSpec)

end Rows
end Go.Proofs.YtdecihmplkgfkaaDoor
