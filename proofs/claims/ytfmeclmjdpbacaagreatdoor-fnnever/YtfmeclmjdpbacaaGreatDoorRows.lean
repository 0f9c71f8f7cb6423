/-
  NARROWER THAN 'FOR EVERY INPUT', by the rows' own cells (each row's printed sentence says how): FnNever: ifaces, laid.
  DERIVED. THE GIVEN ROWS OF THIS SEAT. 1 by the template 'for every input the law returns true; each argument reads behind the call as it read before'; 0 by the template 'total and deterministic' (their statements: YtfmeclmjdpbacaaGreatDoorTotals.lean).
  GIVEN WITH THE SEED: the statements are not yours to turn. If you find one false, say at which input.
  Laid BY PROGRAM, IN A SANDBOX (cutbox-rows.mjs): the forced cells as the released guide's own fill.sh prints them over the translation 22d88c6677d9705d… (all of the seat's roots in one cut). By AI agents, Wed Nov 11 2026. No macro, syntax, notation, axiom, sorry.
-/
import Derived.Test.YtfmeclmjdpbacaaGreatDoorChecked
import GoSem.Claim
import GoSem.ClaimJoined
import GoSem.ClaimMapViews
import Derived.JoinedTies
import Derived.KernelRfl
namespace Go.Proofs.YtfmeclmjdpbacaaGreatDoor
/- THE CELL 'sum', in the pinned program and in every row, IS THE sha256 OF THE DUMP (.gsa) THAT YtfmeclmjdpbacaaGreatDoorProg.lean LOADS. Nothing in Lean hashes anything: it is a label: what it is worth is what the hold of that sum in a sandbox is worth. -/
noncomputable def Tryz.pinned : Pinned := { name := "ytfmeclmjdpbacaagreatdoor", sum := "22d88c6677d9705d65399edebf6833a5804159d42bcc3f5ffd5984c2e003182d", checked := Tryz.checked }
namespace Rows
def none {H : Type} : Left H := { results := [], args := [] }

/- WHAT THE LISTED PACKAGE-LEVEL VARIABLES READ AS WHEN THE CALL BEGINS. Each datum BY PROGRAM (the guide's laid-datum.mjs) off the statement by which the dump's own 'gosem.cut.vars' lays the variable. In a bare row this is a premise. The card (YtfmeclmjdpbacaaGreatDoorCards.lean) ties it to the program's text. -/
def laid_errors_errorType {H : Type} : DataW H := .iface "internal/reflectlite.rtype" (.agg [.ptr (.lit (.string [101, 114, 114, 111, 114]))])
def laid_loop_example_kilnvault_impl_kindParts {H : Type} : DataW H := .agg [.agg [.lit (.bool false), .lit (.bool false), .lit (.bool false), .lit (.int .i64 0)], .agg [.lit (.bool false), .lit (.bool false), .lit (.bool true), .lit (.int .i64 100000)], .agg [.lit (.bool true), .lit (.bool true), .lit (.bool false), .lit (.int .i64 0)], .agg [.lit (.bool true), .lit (.bool false), .lit (.bool false), .lit (.int .i64 0)], .agg [.lit (.bool false), .lit (.bool true), .lit (.bool false), .lit (.int .i64 100000)], .agg [.lit (.bool false), .lit (.bool false), .lit (.bool false), .lit (.int .i64 1000000000)], .agg [.lit (.bool false), .lit (.bool false), .lit (.bool false), .lit (.int .i64 100000)], .agg [.lit (.bool false), .lit (.bool true), .lit (.bool false), .lit (.int .i64 0)]]
def laid_loop_example_kilnvault_impl_errWidth {H : Type} : DataW H := .iface "*errors.errorString" (.ptr (.agg [.lit (.string [110, 111, 32, 119, 105, 100, 116, 104])]))
def laid_loop_example_kilnvault_impl_errKind {H : Type} : DataW H := .iface "*errors.errorString" (.ptr (.agg [.lit (.string [110, 111, 32, 107, 105, 110, 100, 32, 111, 102, 32, 101, 110, 116, 114, 121])]))
def laid_loop_example_kilnvault_impl_errShort {H : Type} : DataW H := .iface "*errors.errorString" (.ptr (.agg [.lit (.string [105, 116, 32, 101, 110, 100, 115, 32, 116, 111, 111, 32, 101, 97, 114, 108, 121])]))
def laid_loop_example_kilnvault_impl_errThing {H : Type} : DataW H := .iface "*errors.errorString" (.ptr (.agg [.lit (.string [105, 116, 115, 32, 116, 104, 105, 110, 103, 32, 105, 115, 32, 110, 111, 110, 101])]))
def laid_loop_example_kilnvault_impl_errLong {H : Type} : DataW H := .iface "*errors.errorString" (.ptr (.agg [.lit (.string [105, 116, 32, 103, 111, 101, 115, 32, 111, 110, 32, 98, 101, 104, 105, 110, 100, 32, 105, 116, 115, 32, 101, 110, 100])]))
def laid_loop_example_kilnvault_impl_errParts {H : Type} : DataW H := .iface "*errors.errorString" (.ptr (.agg [.lit (.string [97, 32, 112, 97, 114, 116, 32, 105, 115, 32, 110, 111, 116, 32, 97, 115, 32, 105, 116, 115, 32, 107, 105, 110, 100, 32, 97, 115, 107, 115])]))

/-- 'laws.FnNever': WHATEVER THE INPUT: true; the input reads as it did. -/
def fnNeverSpec : ChangeSpec := { name := "fnNever", vars := ["loop.example/kilnvault/impl.errWidth", "loop.example/kilnvault/impl.errKind", "loop.example/kilnvault/impl.errLong", "loop.example/kilnvault/impl.errParts", "loop.example/kilnvault/impl.errShort", "loop.example/kilnvault/impl.kindParts", "loop.example/kilnvault/impl.errThing"], fn := fun _ => fun
  | [d, g1, g2, g3, g4, g5, g6, g7] => { results := [.lit (.bool true)], args := [d], vars := [g1, g2, g3, g4, g5, g6, g7] }
  | _ => none }
def fnNeverRow : OpenClaim := { program := "ytfmeclmjdpbacaagreatdoor", sum := "22d88c6677d9705d65399edebf6833a5804159d42bcc3f5ffd5984c2e003182d", func := "loop.example/kilnvault/laws.FnNever", spec := "fnNever", inPlace := ["internal/reflectlite.ValueOf", "(internal/reflectlite.Value).Type", "(internal/reflectlite.Value).IsNil", "internal/reflectlite.TypeOf", "(internal/reflectlite.Value).Elem", "(internal/reflectlite.Value).Set", "internal/abi.NoEscape", "internal/bytealg.Compare", "slices.overlaps[loop.example/kilnvault/impl.sumBytes]", "slices.overlaps[loop.example/kilnvault/impl.Pin]", "(*internal/sync.Mutex).Lock", "internal/race.Disable", "sync/atomic.CompareAndSwapInt32", "internal/race.Enable", "internal/race.Acquire", "(*internal/sync.Mutex).lockSlow", "internal/sync.runtime_canSpin", "internal/sync.runtime_doSpin", "internal/sync.throw", "internal/sync.runtime_nanotime", "internal/sync.runtime_SemacquireMutex", "sync/atomic.AddInt32", "(*internal/sync.Mutex).Unlock", "internal/race.ReleaseMerge", "(*internal/sync.Mutex).unlockSlow", "internal/sync.fatal", "internal/sync.runtime_Semrelease"], unfollowed := true, recurses := true, named := ["loop.example/kilnvault/impl.errWidth", "loop.example/kilnvault/impl.errKind", "loop.example/kilnvault/impl.errLong", "loop.example/kilnvault/impl.errParts", "loop.example/kilnvault/impl.errShort", "loop.example/kilnvault/impl.kindParts", "loop.example/kilnvault/impl.errThing", "errors.errorType"], ifaces := true, plainKeys := false, apart := false, laid := [("errors.errorType", laid_errors_errorType), ("loop.example/kilnvault/impl.kindParts", laid_loop_example_kilnvault_impl_kindParts), ("loop.example/kilnvault/impl.errWidth", laid_loop_example_kilnvault_impl_errWidth), ("loop.example/kilnvault/impl.errKind", laid_loop_example_kilnvault_impl_errKind), ("loop.example/kilnvault/impl.errShort", laid_loop_example_kilnvault_impl_errShort), ("loop.example/kilnvault/impl.errThing", laid_loop_example_kilnvault_impl_errThing), ("loop.example/kilnvault/impl.errLong", laid_loop_example_kilnvault_impl_errLong), ("loop.example/kilnvault/impl.errParts", laid_loop_example_kilnvault_impl_errParts)] }
def FnNeverSaid : Prop := fnNeverRow.holds Tryz.pinned (OpenSpec.ofChange fnNeverSpec)

/-- ITS FALSE NEIGHBOUR: 'it returns false'. Refute it at one input. -/
def fnNeverWrong : ChangeSpec := { name := "fnNever", vars := ["loop.example/kilnvault/impl.errWidth", "loop.example/kilnvault/impl.errKind", "loop.example/kilnvault/impl.errLong", "loop.example/kilnvault/impl.errParts", "loop.example/kilnvault/impl.errShort", "loop.example/kilnvault/impl.kindParts", "loop.example/kilnvault/impl.errThing"], fn := fun _ => fun
  | [d, g1, g2, g3, g4, g5, g6, g7] => { results := [.lit (.bool false)], args := [d], vars := [g1, g2, g3, g4, g5, g6, g7] }
  | _ => none }
def FnNeverWrongFalsely : Prop := fnNeverRow.holds Tryz.pinned (OpenSpec.ofChange fnNeverWrong)

/- THE SECOND FORM. 'bulk': how many values and letters a reading holds, each counted each time it is reached (what is shared counts as often as it is met; a slice's spare places count too). A statement '..UptoSaid' is the law's where the arguments, and the package variables that the reading takes, are together of bulk at most 1048576: NARROWER than '..Said'. Prove '..Said' where nothing that the law and all that it calls make is longer than what came in: it says more and counts as full. Else prove '..UptoSaid'. A law counts once. -/
mutual
def uptoBulk {H : Type} : DataW H → Nat
  | .lit (.string bytes) => bytes.length + 1
  | .lit _ => 1
  | .nil => 1
  | .ptr d => uptoBulk d + 1
  | .slice elems spare => uptoBulkAll elems + uptoBulkAll spare + 1
  | .agg parts => uptoBulkAll parts + 1
  | .iface _ d => uptoBulk d + 1
  | .map entries => uptoBulkEntries entries + 1
  | .held _ => 1
def uptoBulkAll {H : Type} : List (DataW H) → Nat
  | [] => 0
  | d :: r => uptoBulk d + uptoBulkAll r
def uptoBulkEntries {H : Type} : List (Lit × DataW H) → Nat
  | [] => 0
  | x :: r => uptoBulkEntry x + uptoBulkEntries r
def uptoBulkEntry {H : Type} : Lit × DataW H → Nat
  | (.string bytes, d) => bytes.length + uptoBulk d + 1
  | (_, d) => uptoBulk d + 1
 end
def uptoSmall : (H : Type) → List (DataW H) → Bool := fun _ ds => decide (uptoBulkAll ds ≤ 1048576)
def OpenSpec.upto (s : _root_.Go.ChangeSpec) : _root_.Go.OpenSpec := { _root_.Go.OpenSpec.ofChange s with cond := some uptoSmall }

/-- 'laws.FnNever', WHERE WHAT IT READS IS OF BULK AT MOST 1048576: true; the input reads as it did. -/
def fnNeverUptoRow : OpenClaim := { program := "ytfmeclmjdpbacaagreatdoor", sum := "22d88c6677d9705d65399edebf6833a5804159d42bcc3f5ffd5984c2e003182d", func := "loop.example/kilnvault/laws.FnNever", spec := "fnNever", inPlace := ["internal/reflectlite.ValueOf", "(internal/reflectlite.Value).Type", "(internal/reflectlite.Value).IsNil", "internal/reflectlite.TypeOf", "(internal/reflectlite.Value).Elem", "(internal/reflectlite.Value).Set", "internal/abi.NoEscape", "internal/bytealg.Compare", "slices.overlaps[loop.example/kilnvault/impl.sumBytes]", "slices.overlaps[loop.example/kilnvault/impl.Pin]", "(*internal/sync.Mutex).Lock", "internal/race.Disable", "sync/atomic.CompareAndSwapInt32", "internal/race.Enable", "internal/race.Acquire", "(*internal/sync.Mutex).lockSlow", "internal/sync.runtime_canSpin", "internal/sync.runtime_doSpin", "internal/sync.throw", "internal/sync.runtime_nanotime", "internal/sync.runtime_SemacquireMutex", "sync/atomic.AddInt32", "(*internal/sync.Mutex).Unlock", "internal/race.ReleaseMerge", "(*internal/sync.Mutex).unlockSlow", "internal/sync.fatal", "internal/sync.runtime_Semrelease"], unfollowed := true, recurses := true, named := ["loop.example/kilnvault/impl.errWidth", "loop.example/kilnvault/impl.errKind", "loop.example/kilnvault/impl.errLong", "loop.example/kilnvault/impl.errParts", "loop.example/kilnvault/impl.errShort", "loop.example/kilnvault/impl.kindParts", "loop.example/kilnvault/impl.errThing", "errors.errorType"], ifaces := true, plainKeys := false, apart := false, laid := [("errors.errorType", laid_errors_errorType), ("loop.example/kilnvault/impl.kindParts", laid_loop_example_kilnvault_impl_kindParts), ("loop.example/kilnvault/impl.errWidth", laid_loop_example_kilnvault_impl_errWidth), ("loop.example/kilnvault/impl.errKind", laid_loop_example_kilnvault_impl_errKind), ("loop.example/kilnvault/impl.errShort", laid_loop_example_kilnvault_impl_errShort), ("loop.example/kilnvault/impl.errThing", laid_loop_example_kilnvault_impl_errThing), ("loop.example/kilnvault/impl.errLong", laid_loop_example_kilnvault_impl_errLong), ("loop.example/kilnvault/impl.errParts", laid_loop_example_kilnvault_impl_errParts)], narrowed := true }
def FnNeverUptoSaid : Prop := fnNeverUptoRow.holds Tryz.pinned (OpenSpec.upto fnNeverSpec)

end Rows
end Go.Proofs.YtfmeclmjdpbacaaGreatDoor
