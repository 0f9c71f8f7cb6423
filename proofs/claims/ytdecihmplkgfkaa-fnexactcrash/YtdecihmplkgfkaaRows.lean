/-
  No cell of these rows narrows 'for every input' (looked for: loops, veiled, ifaces, maps, wideKeys, modest, calm, conditions, laid).
  DERIVED. THE GIVEN ROWS OF THIS SEAT. 14 by the template 'for every input the law returns true; each argument reads behind the call as it read before'; 0 by the template 'total and deterministic' (their statements: YtdecihmplkgfkaaTotals.lean).
  GIVEN WITH THE SEED: the statements are not yours to turn. If you find one false, say at which input.
  Laid BY PROGRAM, IN A SANDBOX (cutbox-rows.mjs): the forced cells as the released guide's own fill.sh prints them over the translation a56b727f5d21c7f5… (all of the seat's roots in one cut). By AI agents, Wed Nov 11 2026. No macro, syntax, notation, axiom, sorry.
-/
import Derived.Test.YtdecihmplkgfkaaChecked
import GoSem.Claim
import GoSem.ClaimJoined
import GoSem.ClaimMapViews
import Derived.JoinedTies
import Derived.KernelRfl
namespace Go.Proofs.Ytdecihmplkgfkaa
/- THE CELL 'sum', in the pinned program and in every row, IS THE sha256 OF THE DUMP (.gsa) THAT YtdecihmplkgfkaaProg.lean LOADS. Nothing in Lean hashes anything: it is a label: what it is worth is what the hold of that sum in a sandbox is worth. -/
noncomputable def Try.pinned : Pinned := { name := "ytdecihmplkgfkaa", sum := "a56b727f5d21c7f5ea8297d9afc3e6ad65309816201a74945b9ccd683c240215", checked := Try.checked }
namespace Rows
def none {H : Type} : Left H := { results := [], args := [] }

/-- 'laws.FnExactSum': WHATEVER THE INPUT: true; the input reads as it did. -/
def fnExactSumSpec : ChangeSpec := { name := "fnExactSum", fn := fun _ => fun
  | [d1, d2] => { results := [.lit (.bool true)], args := [d1, d2] }
  | _ => none }
def fnExactSumRow : OpenClaim := { program := "ytdecihmplkgfkaa", sum := "a56b727f5d21c7f5ea8297d9afc3e6ad65309816201a74945b9ccd683c240215", func := "loop.example/kilnvault/laws.FnExactSum", spec := "fnExactSum", plainKeys := false, apart := false }
def FnExactSumSaid : Prop := fnExactSumRow.holds Try.pinned (OpenSpec.ofChange fnExactSumSpec)

/-- ITS FALSE NEIGHBOUR: 'it returns false'. Refute it at one input. -/
def fnExactSumWrong : ChangeSpec := { name := "fnExactSum", fn := fun _ => fun
  | [d1, d2] => { results := [.lit (.bool false)], args := [d1, d2] }
  | _ => none }
def FnExactSumWrongFalsely : Prop := fnExactSumRow.holds Try.pinned (OpenSpec.ofChange fnExactSumWrong)

/-- 'laws.FnExactFormThing': WHATEVER THE INPUT: true; the input reads as it did. -/
def fnExactFormThingSpec : ChangeSpec := { name := "fnExactFormThing", fn := fun _ => fun
  | [d1, d2] => { results := [.lit (.bool true)], args := [d1, d2] }
  | _ => none }
def fnExactFormThingRow : OpenClaim := { program := "ytdecihmplkgfkaa", sum := "a56b727f5d21c7f5ea8297d9afc3e6ad65309816201a74945b9ccd683c240215", func := "loop.example/kilnvault/laws.FnExactFormThing", spec := "fnExactFormThing", inPlace := ["internal/abi.NoEscape"], plainKeys := false, apart := false }
def FnExactFormThingSaid : Prop := fnExactFormThingRow.holds Try.pinned (OpenSpec.ofChange fnExactFormThingSpec)

/-- ITS FALSE NEIGHBOUR: 'it returns false'. Refute it at one input. -/
def fnExactFormThingWrong : ChangeSpec := { name := "fnExactFormThing", fn := fun _ => fun
  | [d1, d2] => { results := [.lit (.bool false)], args := [d1, d2] }
  | _ => none }
def FnExactFormThingWrongFalsely : Prop := fnExactFormThingRow.holds Try.pinned (OpenSpec.ofChange fnExactFormThingWrong)

/-- 'laws.FnExactReadThing': WHATEVER THE INPUT: true; the input reads as it did. -/
def fnExactReadThingSpec : ChangeSpec := { name := "fnExactReadThing", fn := fun _ => fun
  | [d1, d2] => { results := [.lit (.bool true)], args := [d1, d2] }
  | _ => none }
def fnExactReadThingRow : OpenClaim := { program := "ytdecihmplkgfkaa", sum := "a56b727f5d21c7f5ea8297d9afc3e6ad65309816201a74945b9ccd683c240215", func := "loop.example/kilnvault/laws.FnExactReadThing", spec := "fnExactReadThing", plainKeys := false, apart := false }
def FnExactReadThingSaid : Prop := fnExactReadThingRow.holds Try.pinned (OpenSpec.ofChange fnExactReadThingSpec)

/-- ITS FALSE NEIGHBOUR: 'it returns false'. Refute it at one input. -/
def fnExactReadThingWrong : ChangeSpec := { name := "fnExactReadThing", fn := fun _ => fun
  | [d1, d2] => { results := [.lit (.bool false)], args := [d1, d2] }
  | _ => none }
def FnExactReadThingWrongFalsely : Prop := fnExactReadThingRow.holds Try.pinned (OpenSpec.ofChange fnExactReadThingWrong)

/-- 'laws.FnExactValidLog': WHATEVER THE INPUT: true; the input reads as it did. -/
def fnExactValidLogSpec : ChangeSpec := { name := "fnExactValidLog", fn := fun _ => fun
  | [d] => { results := [.lit (.bool true)], args := [d] }
  | _ => none }
def fnExactValidLogRow : OpenClaim := { program := "ytdecihmplkgfkaa", sum := "a56b727f5d21c7f5ea8297d9afc3e6ad65309816201a74945b9ccd683c240215", func := "loop.example/kilnvault/laws.FnExactValidLog", spec := "fnExactValidLog", unfollowed := true, recurses := true, plainKeys := false, apart := false }
def FnExactValidLogSaid : Prop := fnExactValidLogRow.holds Try.pinned (OpenSpec.ofChange fnExactValidLogSpec)

/-- ITS FALSE NEIGHBOUR: 'it returns false'. Refute it at one input. -/
def fnExactValidLogWrong : ChangeSpec := { name := "fnExactValidLog", fn := fun _ => fun
  | [d] => { results := [.lit (.bool false)], args := [d] }
  | _ => none }
def FnExactValidLogWrongFalsely : Prop := fnExactValidLogRow.holds Try.pinned (OpenSpec.ofChange fnExactValidLogWrong)

/-- 'laws.FnExactSync': WHATEVER THE INPUT: true; the input reads as it did. -/
def fnExactSyncSpec : ChangeSpec := { name := "fnExactSync", fn := fun _ => fun
  | [d] => { results := [.lit (.bool true)], args := [d] }
  | _ => none }
def fnExactSyncRow : OpenClaim := { program := "ytdecihmplkgfkaa", sum := "a56b727f5d21c7f5ea8297d9afc3e6ad65309816201a74945b9ccd683c240215", func := "loop.example/kilnvault/laws.FnExactSync", spec := "fnExactSync", unfollowed := true, recurses := true, plainKeys := false, apart := false }
def FnExactSyncSaid : Prop := fnExactSyncRow.holds Try.pinned (OpenSpec.ofChange fnExactSyncSpec)

/-- ITS FALSE NEIGHBOUR: 'it returns false'. Refute it at one input. -/
def fnExactSyncWrong : ChangeSpec := { name := "fnExactSync", fn := fun _ => fun
  | [d] => { results := [.lit (.bool false)], args := [d] }
  | _ => none }
def FnExactSyncWrongFalsely : Prop := fnExactSyncRow.holds Try.pinned (OpenSpec.ofChange fnExactSyncWrong)

/-- 'laws.FnExactCrash': WHATEVER THE INPUT: true; the input reads as it did. -/
def fnExactCrashSpec : ChangeSpec := { name := "fnExactCrash", fn := fun _ => fun
  | [d1, d2] => { results := [.lit (.bool true)], args := [d1, d2] }
  | _ => none }
def fnExactCrashRow : OpenClaim := { program := "ytdecihmplkgfkaa", sum := "a56b727f5d21c7f5ea8297d9afc3e6ad65309816201a74945b9ccd683c240215", func := "loop.example/kilnvault/laws.FnExactCrash", spec := "fnExactCrash", unfollowed := true, recurses := true, plainKeys := false, apart := false }
def FnExactCrashSaid : Prop := fnExactCrashRow.holds Try.pinned (OpenSpec.ofChange fnExactCrashSpec)

/-- ITS FALSE NEIGHBOUR: 'it returns false'. Refute it at one input. -/
def fnExactCrashWrong : ChangeSpec := { name := "fnExactCrash", fn := fun _ => fun
  | [d1, d2] => { results := [.lit (.bool false)], args := [d1, d2] }
  | _ => none }
def FnExactCrashWrongFalsely : Prop := fnExactCrashRow.holds Try.pinned (OpenSpec.ofChange fnExactCrashWrong)

/-- 'laws.FnExactAppend': WHATEVER THE INPUT: true; the input reads as it did. -/
def fnExactAppendSpec : ChangeSpec := { name := "fnExactAppend", fn := fun _ => fun
  | [d1, d2] => { results := [.lit (.bool true)], args := [d1, d2] }
  | _ => none }
def fnExactAppendRow : OpenClaim := { program := "ytdecihmplkgfkaa", sum := "a56b727f5d21c7f5ea8297d9afc3e6ad65309816201a74945b9ccd683c240215", func := "loop.example/kilnvault/laws.FnExactAppend", spec := "fnExactAppend", unfollowed := true, recurses := true, plainKeys := false, apart := false }
def FnExactAppendSaid : Prop := fnExactAppendRow.holds Try.pinned (OpenSpec.ofChange fnExactAppendSpec)

/-- ITS FALSE NEIGHBOUR: 'it returns false'. Refute it at one input. -/
def fnExactAppendWrong : ChangeSpec := { name := "fnExactAppend", fn := fun _ => fun
  | [d1, d2] => { results := [.lit (.bool false)], args := [d1, d2] }
  | _ => none }
def FnExactAppendWrongFalsely : Prop := fnExactAppendRow.holds Try.pinned (OpenSpec.ofChange fnExactAppendWrong)

/-- 'laws.FnLog': WHATEVER THE INPUT: true; the input reads as it did. -/
def fnLogSpec : ChangeSpec := { name := "fnLog", fn := fun _ => fun
  | [d] => { results := [.lit (.bool true)], args := [d] }
  | _ => none }
def fnLogRow : OpenClaim := { program := "ytdecihmplkgfkaa", sum := "a56b727f5d21c7f5ea8297d9afc3e6ad65309816201a74945b9ccd683c240215", func := "loop.example/kilnvault/laws.FnLog", spec := "fnLog", unfollowed := true, recurses := true, plainKeys := false, apart := false }
def FnLogSaid : Prop := fnLogRow.holds Try.pinned (OpenSpec.ofChange fnLogSpec)

/-- ITS FALSE NEIGHBOUR: 'it returns false'. Refute it at one input. -/
def fnLogWrong : ChangeSpec := { name := "fnLog", fn := fun _ => fun
  | [d] => { results := [.lit (.bool false)], args := [d] }
  | _ => none }
def FnLogWrongFalsely : Prop := fnLogRow.holds Try.pinned (OpenSpec.ofChange fnLogWrong)

/-- 'laws.FnExactValidState': WHATEVER THE INPUT: true; the input reads as it did. -/
def fnExactValidStateSpec : ChangeSpec := { name := "fnExactValidState", fn := fun _ => fun
  | [d] => { results := [.lit (.bool true)], args := [d] }
  | _ => none }
def fnExactValidStateRow : OpenClaim := { program := "ytdecihmplkgfkaa", sum := "a56b727f5d21c7f5ea8297d9afc3e6ad65309816201a74945b9ccd683c240215", func := "loop.example/kilnvault/laws.FnExactValidState", spec := "fnExactValidState", inPlace := ["internal/abi.NoEscape"], plainKeys := false, apart := false }
def FnExactValidStateSaid : Prop := fnExactValidStateRow.holds Try.pinned (OpenSpec.ofChange fnExactValidStateSpec)

/-- ITS FALSE NEIGHBOUR: 'it returns false'. Refute it at one input. -/
def fnExactValidStateWrong : ChangeSpec := { name := "fnExactValidState", fn := fun _ => fun
  | [d] => { results := [.lit (.bool false)], args := [d] }
  | _ => none }
def FnExactValidStateWrongFalsely : Prop := fnExactValidStateRow.holds Try.pinned (OpenSpec.ofChange fnExactValidStateWrong)

/-- 'laws.FnExactRoom': WHATEVER THE INPUT: true; the input reads as it did. -/
def fnExactRoomSpec : ChangeSpec := { name := "fnExactRoom", fn := fun _ => fun
  | [d] => { results := [.lit (.bool true)], args := [d] }
  | _ => none }
def fnExactRoomRow : OpenClaim := { program := "ytdecihmplkgfkaa", sum := "a56b727f5d21c7f5ea8297d9afc3e6ad65309816201a74945b9ccd683c240215", func := "loop.example/kilnvault/laws.FnExactRoom", spec := "fnExactRoom", inPlace := ["internal/abi.NoEscape"], plainKeys := false, apart := false }
def FnExactRoomSaid : Prop := fnExactRoomRow.holds Try.pinned (OpenSpec.ofChange fnExactRoomSpec)

/-- ITS FALSE NEIGHBOUR: 'it returns false'. Refute it at one input. -/
def fnExactRoomWrong : ChangeSpec := { name := "fnExactRoom", fn := fun _ => fun
  | [d] => { results := [.lit (.bool false)], args := [d] }
  | _ => none }
def FnExactRoomWrongFalsely : Prop := fnExactRoomRow.holds Try.pinned (OpenSpec.ofChange fnExactRoomWrong)

/-- 'laws.FnExactValidRound': WHATEVER THE INPUT: true; the input reads as it did. -/
def fnExactValidRoundSpec : ChangeSpec := { name := "fnExactValidRound", fn := fun _ => fun
  | [d1, d2] => { results := [.lit (.bool true)], args := [d1, d2] }
  | _ => none }
def fnExactValidRoundRow : OpenClaim := { program := "ytdecihmplkgfkaa", sum := "a56b727f5d21c7f5ea8297d9afc3e6ad65309816201a74945b9ccd683c240215", func := "loop.example/kilnvault/laws.FnExactValidRound", spec := "fnExactValidRound", inPlace := ["internal/abi.NoEscape"], unfollowed := true, recurses := true, plainKeys := false, apart := false }
def FnExactValidRoundSaid : Prop := fnExactValidRoundRow.holds Try.pinned (OpenSpec.ofChange fnExactValidRoundSpec)

/-- ITS FALSE NEIGHBOUR: 'it returns false'. Refute it at one input. -/
def fnExactValidRoundWrong : ChangeSpec := { name := "fnExactValidRound", fn := fun _ => fun
  | [d1, d2] => { results := [.lit (.bool false)], args := [d1, d2] }
  | _ => none }
def FnExactValidRoundWrongFalsely : Prop := fnExactValidRoundRow.holds Try.pinned (OpenSpec.ofChange fnExactValidRoundWrong)

/-- 'laws.FnExactShade': WHATEVER THE INPUT: true; the input reads as it did. -/
def fnExactShadeSpec : ChangeSpec := { name := "fnExactShade", fn := fun _ => fun
  | [d1, d2, d3] => { results := [.lit (.bool true)], args := [d1, d2, d3] }
  | _ => none }
def fnExactShadeRow : OpenClaim := { program := "ytdecihmplkgfkaa", sum := "a56b727f5d21c7f5ea8297d9afc3e6ad65309816201a74945b9ccd683c240215", func := "loop.example/kilnvault/laws.FnExactShade", spec := "fnExactShade", inPlace := ["internal/abi.NoEscape"], unfollowed := true, recurses := true, plainKeys := false, apart := false }
def FnExactShadeSaid : Prop := fnExactShadeRow.holds Try.pinned (OpenSpec.ofChange fnExactShadeSpec)

/-- ITS FALSE NEIGHBOUR: 'it returns false'. Refute it at one input. -/
def fnExactShadeWrong : ChangeSpec := { name := "fnExactShade", fn := fun _ => fun
  | [d1, d2, d3] => { results := [.lit (.bool false)], args := [d1, d2, d3] }
  | _ => none }
def FnExactShadeWrongFalsely : Prop := fnExactShadeRow.holds Try.pinned (OpenSpec.ofChange fnExactShadeWrong)

/-- 'laws.FnExactWaste': WHATEVER THE INPUT: true; the input reads as it did. -/
def fnExactWasteSpec : ChangeSpec := { name := "fnExactWaste", fn := fun _ => fun
  | [d] => { results := [.lit (.bool true)], args := [d] }
  | _ => none }
def fnExactWasteRow : OpenClaim := { program := "ytdecihmplkgfkaa", sum := "a56b727f5d21c7f5ea8297d9afc3e6ad65309816201a74945b9ccd683c240215", func := "loop.example/kilnvault/laws.FnExactWaste", spec := "fnExactWaste", inPlace := ["internal/abi.NoEscape"], unfollowed := true, recurses := true, plainKeys := false, apart := false }
def FnExactWasteSaid : Prop := fnExactWasteRow.holds Try.pinned (OpenSpec.ofChange fnExactWasteSpec)

/-- ITS FALSE NEIGHBOUR: 'it returns false'. Refute it at one input. -/
def fnExactWasteWrong : ChangeSpec := { name := "fnExactWaste", fn := fun _ => fun
  | [d] => { results := [.lit (.bool false)], args := [d] }
  | _ => none }
def FnExactWasteWrongFalsely : Prop := fnExactWasteRow.holds Try.pinned (OpenSpec.ofChange fnExactWasteWrong)

/-- 'laws.FnExactHolders': WHATEVER THE INPUT: true; the input reads as it did. -/
def fnExactHoldersSpec : ChangeSpec := { name := "fnExactHolders", fn := fun _ => fun
  | [d1, d2] => { results := [.lit (.bool true)], args := [d1, d2] }
  | _ => none }
def fnExactHoldersRow : OpenClaim := { program := "ytdecihmplkgfkaa", sum := "a56b727f5d21c7f5ea8297d9afc3e6ad65309816201a74945b9ccd683c240215", func := "loop.example/kilnvault/laws.FnExactHolders", spec := "fnExactHolders", inPlace := ["internal/abi.NoEscape"], unfollowed := true, recurses := true, plainKeys := false, apart := false }
def FnExactHoldersSaid : Prop := fnExactHoldersRow.holds Try.pinned (OpenSpec.ofChange fnExactHoldersSpec)

/-- ITS FALSE NEIGHBOUR: 'it returns false'. Refute it at one input. -/
def fnExactHoldersWrong : ChangeSpec := { name := "fnExactHolders", fn := fun _ => fun
  | [d1, d2] => { results := [.lit (.bool false)], args := [d1, d2] }
  | _ => none }
def FnExactHoldersWrongFalsely : Prop := fnExactHoldersRow.holds Try.pinned (OpenSpec.ofChange fnExactHoldersWrong)

/- THE SECOND FORM. 'bulk': how many values and letters a reading holds, each counted each time it is reached (what is shared counts as often as it is met; a slice's spare places count too). A statement '..UptoSaid' is the law's where the arguments, and the package variables that the reading takes, are together of bulk at most 1048576: NARROWER than '..Said'. Prove '..Said' where nothing that the law and all that it calls make is longer than what came in: it says more and counts as full. Else prove '..UptoSaid'. A law counts once. -/
mutual
def uptoBulk {H : Type} : DataW H → Nat
  | .lit (.string bytes) => bytes.length + 1
  | .lit _ => 1
  | .nil => 1
  | .ptr d => uptoBulk d + 1
  | .slice elems spare => uptoBulkAll elems + uptoBulkAll spare + 1
  | .agg parts => uptoBulkAll parts + 1
  | .iface _ d => uptoBulk d + 1
  | .map entries => uptoBulkEntries entries + 1
  | .held _ => 1
def uptoBulkAll {H : Type} : List (DataW H) → Nat
  | [] => 0
  | d :: r => uptoBulk d + uptoBulkAll r
def uptoBulkEntries {H : Type} : List (Lit × DataW H) → Nat
  | [] => 0
  | x :: r => uptoBulkEntry x + uptoBulkEntries r
def uptoBulkEntry {H : Type} : Lit × DataW H → Nat
  | (.string bytes, d) => bytes.length + uptoBulk d + 1
  | (_, d) => uptoBulk d + 1
 end
def uptoSmall : (H : Type) → List (DataW H) → Bool := fun _ ds => decide (uptoBulkAll ds ≤ 1048576)
def OpenSpec.upto (s : _root_.Go.ChangeSpec) : _root_.Go.OpenSpec := { _root_.Go.OpenSpec.ofChange s with cond := some uptoSmall }

/-- 'laws.FnExactSum', WHERE WHAT IT READS IS OF BULK AT MOST 1048576: true; the input reads as it did. -/
def fnExactSumUptoRow : OpenClaim := { program := "ytdecihmplkgfkaa", sum := "a56b727f5d21c7f5ea8297d9afc3e6ad65309816201a74945b9ccd683c240215", func := "loop.example/kilnvault/laws.FnExactSum", spec := "fnExactSum", plainKeys := false, apart := false, narrowed := true }
def FnExactSumUptoSaid : Prop := fnExactSumUptoRow.holds Try.pinned (OpenSpec.upto fnExactSumSpec)

/-- 'laws.FnExactFormThing', WHERE WHAT IT READS IS OF BULK AT MOST 1048576: true; the input reads as it did. -/
def fnExactFormThingUptoRow : OpenClaim := { program := "ytdecihmplkgfkaa", sum := "a56b727f5d21c7f5ea8297d9afc3e6ad65309816201a74945b9ccd683c240215", func := "loop.example/kilnvault/laws.FnExactFormThing", spec := "fnExactFormThing", inPlace := ["internal/abi.NoEscape"], plainKeys := false, apart := false, narrowed := true }
def FnExactFormThingUptoSaid : Prop := fnExactFormThingUptoRow.holds Try.pinned (OpenSpec.upto fnExactFormThingSpec)

/-- 'laws.FnExactReadThing', WHERE WHAT IT READS IS OF BULK AT MOST 1048576: true; the input reads as it did. -/
def fnExactReadThingUptoRow : OpenClaim := { program := "ytdecihmplkgfkaa", sum := "a56b727f5d21c7f5ea8297d9afc3e6ad65309816201a74945b9ccd683c240215", func := "loop.example/kilnvault/laws.FnExactReadThing", spec := "fnExactReadThing", plainKeys := false, apart := false, narrowed := true }
def FnExactReadThingUptoSaid : Prop := fnExactReadThingUptoRow.holds Try.pinned (OpenSpec.upto fnExactReadThingSpec)

/-- 'laws.FnExactValidLog', WHERE WHAT IT READS IS OF BULK AT MOST 1048576: true; the input reads as it did. -/
def fnExactValidLogUptoRow : OpenClaim := { program := "ytdecihmplkgfkaa", sum := "a56b727f5d21c7f5ea8297d9afc3e6ad65309816201a74945b9ccd683c240215", func := "loop.example/kilnvault/laws.FnExactValidLog", spec := "fnExactValidLog", unfollowed := true, recurses := true, plainKeys := false, apart := false, narrowed := true }
def FnExactValidLogUptoSaid : Prop := fnExactValidLogUptoRow.holds Try.pinned (OpenSpec.upto fnExactValidLogSpec)

/-- 'laws.FnExactSync', WHERE WHAT IT READS IS OF BULK AT MOST 1048576: true; the input reads as it did. -/
def fnExactSyncUptoRow : OpenClaim := { program := "ytdecihmplkgfkaa", sum := "a56b727f5d21c7f5ea8297d9afc3e6ad65309816201a74945b9ccd683c240215", func := "loop.example/kilnvault/laws.FnExactSync", spec := "fnExactSync", unfollowed := true, recurses := true, plainKeys := false, apart := false, narrowed := true }
def FnExactSyncUptoSaid : Prop := fnExactSyncUptoRow.holds Try.pinned (OpenSpec.upto fnExactSyncSpec)

/-- 'laws.FnExactCrash', WHERE WHAT IT READS IS OF BULK AT MOST 1048576: true; the input reads as it did. -/
def fnExactCrashUptoRow : OpenClaim := { program := "ytdecihmplkgfkaa", sum := "a56b727f5d21c7f5ea8297d9afc3e6ad65309816201a74945b9ccd683c240215", func := "loop.example/kilnvault/laws.FnExactCrash", spec := "fnExactCrash", unfollowed := true, recurses := true, plainKeys := false, apart := false, narrowed := true }
def FnExactCrashUptoSaid : Prop := fnExactCrashUptoRow.holds Try.pinned (OpenSpec.upto fnExactCrashSpec)

/-- 'laws.FnExactAppend', WHERE WHAT IT READS IS OF BULK AT MOST 1048576: true; the input reads as it did. -/
def fnExactAppendUptoRow : OpenClaim := { program := "ytdecihmplkgfkaa", sum := "a56b727f5d21c7f5ea8297d9afc3e6ad65309816201a74945b9ccd683c240215", func := "loop.example/kilnvault/laws.FnExactAppend", spec := "fnExactAppend", unfollowed := true, recurses := true, plainKeys := false, apart := false, narrowed := true }
def FnExactAppendUptoSaid : Prop := fnExactAppendUptoRow.holds Try.pinned (OpenSpec.upto fnExactAppendSpec)

/-- 'laws.FnLog', WHERE WHAT IT READS IS OF BULK AT MOST 1048576: true; the input reads as it did. -/
def fnLogUptoRow : OpenClaim := { program := "ytdecihmplkgfkaa", sum := "a56b727f5d21c7f5ea8297d9afc3e6ad65309816201a74945b9ccd683c240215", func := "loop.example/kilnvault/laws.FnLog", spec := "fnLog", unfollowed := true, recurses := true, plainKeys := false, apart := false, narrowed := true }
def FnLogUptoSaid : Prop := fnLogUptoRow.holds Try.pinned (OpenSpec.upto fnLogSpec)

/-- 'laws.FnExactValidState', WHERE WHAT IT READS IS OF BULK AT MOST 1048576: true; the input reads as it did. -/
def fnExactValidStateUptoRow : OpenClaim := { program := "ytdecihmplkgfkaa", sum := "a56b727f5d21c7f5ea8297d9afc3e6ad65309816201a74945b9ccd683c240215", func := "loop.example/kilnvault/laws.FnExactValidState", spec := "fnExactValidState", inPlace := ["internal/abi.NoEscape"], plainKeys := false, apart := false, narrowed := true }
def FnExactValidStateUptoSaid : Prop := fnExactValidStateUptoRow.holds Try.pinned (OpenSpec.upto fnExactValidStateSpec)

/-- 'laws.FnExactRoom', WHERE WHAT IT READS IS OF BULK AT MOST 1048576: true; the input reads as it did. -/
def fnExactRoomUptoRow : OpenClaim := { program := "ytdecihmplkgfkaa", sum := "a56b727f5d21c7f5ea8297d9afc3e6ad65309816201a74945b9ccd683c240215", func := "loop.example/kilnvault/laws.FnExactRoom", spec := "fnExactRoom", inPlace := ["internal/abi.NoEscape"], plainKeys := false, apart := false, narrowed := true }
def FnExactRoomUptoSaid : Prop := fnExactRoomUptoRow.holds Try.pinned (OpenSpec.upto fnExactRoomSpec)

/-- 'laws.FnExactValidRound', WHERE WHAT IT READS IS OF BULK AT MOST 1048576: true; the input reads as it did. -/
def fnExactValidRoundUptoRow : OpenClaim := { program := "ytdecihmplkgfkaa", sum := "a56b727f5d21c7f5ea8297d9afc3e6ad65309816201a74945b9ccd683c240215", func := "loop.example/kilnvault/laws.FnExactValidRound", spec := "fnExactValidRound", inPlace := ["internal/abi.NoEscape"], unfollowed := true, recurses := true, plainKeys := false, apart := false, narrowed := true }
def FnExactValidRoundUptoSaid : Prop := fnExactValidRoundUptoRow.holds Try.pinned (OpenSpec.upto fnExactValidRoundSpec)

/-- 'laws.FnExactShade', WHERE WHAT IT READS IS OF BULK AT MOST 1048576: true; the input reads as it did. -/
def fnExactShadeUptoRow : OpenClaim := { program := "ytdecihmplkgfkaa", sum := "a56b727f5d21c7f5ea8297d9afc3e6ad65309816201a74945b9ccd683c240215", func := "loop.example/kilnvault/laws.FnExactShade", spec := "fnExactShade", inPlace := ["internal/abi.NoEscape"], unfollowed := true, recurses := true, plainKeys := false, apart := false, narrowed := true }
def FnExactShadeUptoSaid : Prop := fnExactShadeUptoRow.holds Try.pinned (OpenSpec.upto fnExactShadeSpec)

/-- 'laws.FnExactWaste', WHERE WHAT IT READS IS OF BULK AT MOST 1048576: true; the input reads as it did. -/
def fnExactWasteUptoRow : OpenClaim := { program := "ytdecihmplkgfkaa", sum := "a56b727f5d21c7f5ea8297d9afc3e6ad65309816201a74945b9ccd683c240215", func := "loop.example/kilnvault/laws.FnExactWaste", spec := "fnExactWaste", inPlace := ["internal/abi.NoEscape"], unfollowed := true, recurses := true, plainKeys := false, apart := false, narrowed := true }
def FnExactWasteUptoSaid : Prop := fnExactWasteUptoRow.holds Try.pinned (OpenSpec.upto fnExactWasteSpec)

/-- 'laws.FnExactHolders', WHERE WHAT IT READS IS OF BULK AT MOST 1048576: true; the input reads as it did. -/
def fnExactHoldersUptoRow : OpenClaim := { program := "ytdecihmplkgfkaa", sum := "a56b727f5d21c7f5ea8297d9afc3e6ad65309816201a74945b9ccd683c240215", func := "loop.example/kilnvault/laws.FnExactHolders", spec := "fnExactHolders", inPlace := ["internal/abi.NoEscape"], unfollowed := true, recurses := true, plainKeys := false, apart := false, narrowed := true }
def FnExactHoldersUptoSaid : Prop := fnExactHoldersUptoRow.holds Try.pinned (OpenSpec.upto fnExactHoldersSpec)

end Rows
end Go.Proofs.Ytdecihmplkgfkaa
