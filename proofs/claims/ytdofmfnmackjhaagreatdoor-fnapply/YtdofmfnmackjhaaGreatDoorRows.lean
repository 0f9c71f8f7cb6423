/-
  NARROWER THAN 'FOR EVERY INPUT', by the rows' own cells (each row's printed sentence says how): FnApply: laid.
  DERIVED. THE GIVEN ROWS OF THIS SEAT. 1 by the template 'for every input the law returns true; each argument reads behind the call as it read before'; 0 by the template 'total and deterministic' (their statements: YtdofmfnmackjhaaGreatDoorTotals.lean).
  GIVEN WITH THE SEED: the statements are not yours to turn. If you find one false, say at which input.
  Laid BY PROGRAM, IN A SANDBOX (cutbox-rows.mjs): the forced cells as the released guide's own fill.sh prints them over the translation 4cf27e2f6c38f3e7… (all of the seat's roots in one cut). By AI agents, Wed Nov 11 2026. No macro, syntax, notation, axiom, sorry.
-/
import Derived.Test.YtdofmfnmackjhaaGreatDoorChecked
import GoSem.Claim
import GoSem.ClaimJoined
import GoSem.ClaimMapViews
import Derived.JoinedTies
import Derived.KernelRfl
namespace Go.Proofs.YtdofmfnmackjhaaGreatDoor
/- THE CELL 'sum', in the pinned program and in every row, IS THE sha256 OF THE DUMP (.gsa) THAT YtdofmfnmackjhaaGreatDoorProg.lean LOADS. Nothing in Lean hashes anything: it is a label: what it is worth is what the hold of that sum in a sandbox is worth. -/
noncomputable def Tryz.pinned : Pinned := { name := "ytdofmfnmackjhaagreatdoor", sum := "4cf27e2f6c38f3e7c679de97d4db0b5d788887fdce588ed9d5abf0f78bcc1ba0", checked := Tryz.checked }
namespace Rows
def none {H : Type} : Left H := { results := [], args := [] }

/- WHAT THE LISTED PACKAGE-LEVEL VARIABLES READ AS WHEN THE CALL BEGINS. Each datum BY PROGRAM (the guide's laid-datum.mjs) off the statement by which the dump's own 'gosem.cut.vars' lays the variable. In a bare row this is a premise. The card (YtdofmfnmackjhaaGreatDoorCards.lean) ties it to the program's text. -/
def laid_loop_example_kilnvault_impl_kindParts {H : Type} : DataW H := .agg [.agg [.lit (.bool false), .lit (.bool false), .lit (.bool false), .lit (.int .i64 0)], .agg [.lit (.bool false), .lit (.bool false), .lit (.bool true), .lit (.int .i64 100000)], .agg [.lit (.bool true), .lit (.bool true), .lit (.bool false), .lit (.int .i64 0)], .agg [.lit (.bool true), .lit (.bool false), .lit (.bool false), .lit (.int .i64 0)], .agg [.lit (.bool false), .lit (.bool true), .lit (.bool false), .lit (.int .i64 100000)], .agg [.lit (.bool false), .lit (.bool false), .lit (.bool false), .lit (.int .i64 1000000000)], .agg [.lit (.bool false), .lit (.bool false), .lit (.bool false), .lit (.int .i64 100000)], .agg [.lit (.bool false), .lit (.bool true), .lit (.bool false), .lit (.int .i64 0)]]

/-- 'laws.FnApply': WHATEVER THE INPUT: true; the input reads as it did. -/
def fnApplySpec : ChangeSpec := { name := "fnApply", vars := ["loop.example/kilnvault/impl.kindParts"], fn := fun _ => fun
  | [d, g1] => { results := [.lit (.bool true)], args := [d], vars := [g1] }
  | _ => none }
def fnApplyRow : OpenClaim := { program := "ytdofmfnmackjhaagreatdoor", sum := "4cf27e2f6c38f3e7c679de97d4db0b5d788887fdce588ed9d5abf0f78bcc1ba0", func := "loop.example/kilnvault/laws.FnApply", spec := "fnApply", inPlace := ["internal/abi.NoEscape", "internal/bytealg.Compare", "slices.overlaps[loop.example/kilnvault/impl.sumBytes]", "slices.overlaps[loop.example/kilnvault/impl.Pin]"], unfollowed := true, recurses := true, named := ["loop.example/kilnvault/impl.kindParts"], plainKeys := false, apart := false, laid := [("loop.example/kilnvault/impl.kindParts", laid_loop_example_kilnvault_impl_kindParts)] }
def FnApplySaid : Prop := fnApplyRow.holds Tryz.pinned (OpenSpec.ofChange fnApplySpec)

/-- ITS FALSE NEIGHBOUR: 'it returns false'. Refute it at one input. -/
def fnApplyWrong : ChangeSpec := { name := "fnApply", vars := ["loop.example/kilnvault/impl.kindParts"], fn := fun _ => fun
  | [d, g1] => { results := [.lit (.bool false)], args := [d], vars := [g1] }
  | _ => none }
def FnApplyWrongFalsely : Prop := fnApplyRow.holds Tryz.pinned (OpenSpec.ofChange fnApplyWrong)

/- THE SECOND FORM. 'bulk': how many values and letters a reading holds, each counted each time it is reached (what is shared counts as often as it is met; a slice's spare places count too). A statement '..UptoSaid' is the law's where the arguments, and the package variables that the reading takes, are together of bulk at most 1048576: NARROWER than '..Said'. Prove '..Said' where nothing that the law and all that it calls make is longer than what came in: it says more and counts as full. Else prove '..UptoSaid'. A law counts once. -/
mutual
def uptoBulk {H : Type} : DataW H → Nat
  | .lit (.string bytes) => bytes.length + 1
  | .lit _ => 1
  | .nil => 1
  | .ptr d => uptoBulk d + 1
  | .slice elems spare => uptoBulkAll elems + uptoBulkAll spare + 1
  | .agg parts => uptoBulkAll parts + 1
  | .iface _ d => uptoBulk d + 1
  | .map entries => uptoBulkEntries entries + 1
  | .held _ => 1
def uptoBulkAll {H : Type} : List (DataW H) → Nat
  | [] => 0
  | d :: r => uptoBulk d + uptoBulkAll r
def uptoBulkEntries {H : Type} : List (Lit × DataW H) → Nat
  | [] => 0
  | x :: r => uptoBulkEntry x + uptoBulkEntries r
def uptoBulkEntry {H : Type} : Lit × DataW H → Nat
  | (.string bytes, d) => bytes.length + uptoBulk d + 1
  | (_, d) => uptoBulk d + 1
 end
def uptoSmall : (H : Type) → List (DataW H) → Bool := fun _ ds => decide (uptoBulkAll ds ≤ 1048576)
def OpenSpec.upto (s : _root_.Go.ChangeSpec) : _root_.Go.OpenSpec := { _root_.Go.OpenSpec.ofChange s with cond := some uptoSmall }

/-- 'laws.FnApply', WHERE WHAT IT READS IS OF BULK AT MOST 1048576: true; the input reads as it did. -/
def fnApplyUptoRow : OpenClaim := { program := "ytdofmfnmackjhaagreatdoor", sum := "4cf27e2f6c38f3e7c679de97d4db0b5d788887fdce588ed9d5abf0f78bcc1ba0", func := "loop.example/kilnvault/laws.FnApply", spec := "fnApply", inPlace := ["internal/abi.NoEscape", "internal/bytealg.Compare", "slices.overlaps[loop.example/kilnvault/impl.sumBytes]", "slices.overlaps[loop.example/kilnvault/impl.Pin]"], unfollowed := true, recurses := true, named := ["loop.example/kilnvault/impl.kindParts"], plainKeys := false, apart := false, laid := [("loop.example/kilnvault/impl.kindParts", laid_loop_example_kilnvault_impl_kindParts)], narrowed := true }
def FnApplyUptoSaid : Prop := fnApplyUptoRow.holds Tryz.pinned (OpenSpec.upto fnApplySpec)

end Rows
end Go.Proofs.YtdofmfnmackjhaaGreatDoor
