/-
  DERIVED. GIVEN WITH THE SEED: THE CARDS: each row of YtlhhpofjkgmbeaaGreatDoorRows.lean that lists a variable, with what it lists TIED to the program's text (the seventh form; the later family's looks); each row that meets fmt, with fmt's text TOLD by the authors' own Lean function (tested against real Go, not proved from fmt's source: count such statements apart). THE CARD IS WHAT COUNTS. Prove the row's statement (the work); the ties are given (YtlhhpofjkgmbeaaGreatDoorTie.lean); close each card by the builder's one call (the guide's Derived/Test/ToyasCard.lean, 'card_holds'). Laid BY PROGRAM, IN A SANDBOX (cutbox-door.mjs). By AI agents, Wed Nov 11 2026. No macro, syntax, notation, axiom, sorry.
-/
import Derived.Test.YtlhhpofjkgmbeaaGreatDoorRows
import GoSem.ClaimSeven
namespace Go.Proofs.YtlhhpofjkgmbeaaGreatDoor
namespace Rows

/-- THE TIED CARD OF 'laws.FnExactBorrow'. -/
def fnExactBorrowCard : Claim7 := { stood := { row := fnExactBorrowRow, standIns := [], harness := (true, "4a024be34125ea51c2ce60d1f0f9b235af059ee3ff977eb412531a03ac726b56"), looks := true }, kinds := [], alts := [], laidByText := true, laidKinds := [.handle, .data, .sentinel, .sentinel, .sentinel, .sentinel, .sentinel, .sentinel], laidTests := true, laidLooks := .later }
def FnExactBorrowCardSaid : Prop := Claim7.holds Tryz.pinned (.plain (OpenSpec.ofChange fnExactBorrowSpec)) fnExactBorrowCard

/-- THE SECOND FORM's CARD OF 'laws.FnExactBorrow'. -/
def fnExactBorrowUptoCard : Claim7 := { stood := { row := fnExactBorrowUptoRow, standIns := [], harness := (true, "4a024be34125ea51c2ce60d1f0f9b235af059ee3ff977eb412531a03ac726b56"), looks := true }, kinds := [], alts := [], laidByText := true, laidKinds := [.handle, .data, .sentinel, .sentinel, .sentinel, .sentinel, .sentinel, .sentinel], laidTests := true, laidLooks := .later }
def FnExactBorrowUptoCardSaid : Prop := Claim7.holds Tryz.pinned (.plain (OpenSpec.upto fnExactBorrowSpec)) fnExactBorrowUptoCard
end Rows
end Go.Proofs.YtlhhpofjkgmbeaaGreatDoor
