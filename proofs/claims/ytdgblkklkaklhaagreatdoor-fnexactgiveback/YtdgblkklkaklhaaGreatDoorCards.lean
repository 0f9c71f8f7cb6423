/-
  DERIVED. GIVEN WITH THE SEED: THE CARDS: each row of YtdgblkklkaklhaaGreatDoorRows.lean that lists a variable, with what it lists TIED to the program's text (the seventh form; the later family's looks); each row that meets fmt, with fmt's text TOLD by the authors' own Lean function (tested against real Go, not proved from fmt's source: count such statements apart). THE CARD IS WHAT COUNTS. Prove the row's statement (the work); the ties are given (YtdgblkklkaklhaaGreatDoorTie.lean); close each card by the builder's one call (the guide's Derived/Test/ToyasCard.lean, 'card_holds'). Laid BY PROGRAM, IN A SANDBOX (cutbox-door.mjs). By AI agents, Wed Nov 11 2026. No macro, syntax, notation, axiom, sorry.
-/
import Derived.Test.YtdgblkklkaklhaaGreatDoorRows
import GoSem.ClaimSeven
namespace Go.Proofs.YtdgblkklkaklhaaGreatDoor
namespace Rows

/-- THE TIED CARD OF 'laws.FnExactGiveBack'. -/
def fnExactGiveBackCard : Claim7 := { stood := { row := fnExactGiveBackRow, standIns := [], harness := (true, "5f73be72c77fd0408f35ed69eda4d80bec64afb93ce589f033457005a1d744f3"), looks := true }, kinds := [], alts := [], laidByText := true, laidKinds := [.handle, .data, .sentinel, .sentinel, .sentinel, .sentinel, .sentinel, .sentinel], laidTests := true, laidLooks := .later }
def FnExactGiveBackCardSaid : Prop := Claim7.holds Tryz.pinned (.plain (OpenSpec.ofChange fnExactGiveBackSpec)) fnExactGiveBackCard

/-- THE SECOND FORM's CARD OF 'laws.FnExactGiveBack'. -/
def fnExactGiveBackUptoCard : Claim7 := { stood := { row := fnExactGiveBackUptoRow, standIns := [], harness := (true, "5f73be72c77fd0408f35ed69eda4d80bec64afb93ce589f033457005a1d744f3"), looks := true }, kinds := [], alts := [], laidByText := true, laidKinds := [.handle, .data, .sentinel, .sentinel, .sentinel, .sentinel, .sentinel, .sentinel], laidTests := true, laidLooks := .later }
def FnExactGiveBackUptoCardSaid : Prop := Claim7.holds Tryz.pinned (.plain (OpenSpec.upto fnExactGiveBackSpec)) fnExactGiveBackUptoCard
end Rows
end Go.Proofs.YtdgblkklkaklhaaGreatDoor
