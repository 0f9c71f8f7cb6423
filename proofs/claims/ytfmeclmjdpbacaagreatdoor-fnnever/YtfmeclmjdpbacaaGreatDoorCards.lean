/-
  DERIVED. GIVEN WITH THE SEED: THE CARDS: each row of YtfmeclmjdpbacaaGreatDoorRows.lean that lists a variable, with what it lists TIED to the program's text (the seventh form; the later family's looks); each row that meets fmt, with fmt's text TOLD by the authors' own Lean function (tested against real Go, not proved from fmt's source: count such statements apart). THE CARD IS WHAT COUNTS. Prove the row's statement (the work); the ties are given (YtfmeclmjdpbacaaGreatDoorTie.lean); close each card by the builder's one call (the guide's Derived/Test/ToyasCard.lean, 'card_holds'). Laid BY PROGRAM, IN A SANDBOX (cutbox-door.mjs). By AI agents, Wed Nov 11 2026. No macro, syntax, notation, axiom, sorry.
-/
import Derived.Test.YtfmeclmjdpbacaaGreatDoorRows
import GoSem.ClaimSeven
namespace Go.Proofs.YtfmeclmjdpbacaaGreatDoor
namespace Rows

/-- THE TIED CARD OF 'laws.FnNever'. -/
def fnNeverCard : Claim7 := { stood := { row := fnNeverRow, standIns := [], harness := (true, "90a41e2fa16235d57ab26d12f597edc805af26a39be941896c2cd9d225481528"), looks := true }, kinds := [], alts := [], laidByText := true, laidKinds := [.handle, .data, .sentinel, .sentinel, .sentinel, .sentinel, .sentinel, .sentinel], laidTests := true, laidLooks := .later }
def FnNeverCardSaid : Prop := Claim7.holds Tryz.pinned (.plain (OpenSpec.ofChange fnNeverSpec)) fnNeverCard

/-- THE SECOND FORM's CARD OF 'laws.FnNever'. -/
def fnNeverUptoCard : Claim7 := { stood := { row := fnNeverUptoRow, standIns := [], harness := (true, "90a41e2fa16235d57ab26d12f597edc805af26a39be941896c2cd9d225481528"), looks := true }, kinds := [], alts := [], laidByText := true, laidKinds := [.handle, .data, .sentinel, .sentinel, .sentinel, .sentinel, .sentinel, .sentinel], laidTests := true, laidLooks := .later }
def FnNeverUptoCardSaid : Prop := Claim7.holds Tryz.pinned (.plain (OpenSpec.upto fnNeverSpec)) fnNeverUptoCard
end Rows
end Go.Proofs.YtfmeclmjdpbacaaGreatDoor
