/-
  DERIVED. GIVEN WITH THE SEED: THE CARDS: each row of YtgemdloiihedjaaGreatDoorRows.lean that lists a variable, with what it lists TIED to the program's text (the seventh form; the later family's looks); each row that meets fmt, with fmt's text TOLD by the authors' own Lean function (tested against real Go, not proved from fmt's source: count such statements apart). THE CARD IS WHAT COUNTS. Prove the row's statement (the work); the ties are given (YtgemdloiihedjaaGreatDoorTie.lean); close each card by the builder's one call (the guide's Derived/Test/ToyasCard.lean, 'card_holds'). Laid BY PROGRAM, IN A SANDBOX (cutbox-door.mjs). By AI agents, Wed Nov 11 2026. No macro, syntax, notation, axiom, sorry.
-/
import Derived.Test.YtgemdloiihedjaaGreatDoorRows
import GoSem.ClaimSeven
namespace Go.Proofs.YtgemdloiihedjaaGreatDoor
namespace Rows

/-- THE TIED CARD OF 'laws.FnExactHold'. -/
def fnExactHoldCard : Claim7 := { stood := { row := fnExactHoldRow, standIns := [], harness := (true, "571777fef1db71a920674120e0cd054ed967cc407eabcd647ca0fb51e3887a21"), looks := true }, kinds := [], alts := [], laidByText := true, laidKinds := [.handle, .data, .sentinel, .sentinel, .sentinel, .sentinel, .sentinel, .sentinel], laidTests := true, laidLooks := .later }
def FnExactHoldCardSaid : Prop := Claim7.holds Tryz.pinned (.plain (OpenSpec.ofChange fnExactHoldSpec)) fnExactHoldCard

/-- THE SECOND FORM's CARD OF 'laws.FnExactHold'. -/
def fnExactHoldUptoCard : Claim7 := { stood := { row := fnExactHoldUptoRow, standIns := [], harness := (true, "571777fef1db71a920674120e0cd054ed967cc407eabcd647ca0fb51e3887a21"), looks := true }, kinds := [], alts := [], laidByText := true, laidKinds := [.handle, .data, .sentinel, .sentinel, .sentinel, .sentinel, .sentinel, .sentinel], laidTests := true, laidLooks := .later }
def FnExactHoldUptoCardSaid : Prop := Claim7.holds Tryz.pinned (.plain (OpenSpec.upto fnExactHoldSpec)) fnExactHoldUptoCard
end Rows
end Go.Proofs.YtgemdloiihedjaaGreatDoor
