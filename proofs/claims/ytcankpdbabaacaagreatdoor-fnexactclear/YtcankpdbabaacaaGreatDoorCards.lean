/-
  DERIVED. GIVEN WITH THE SEED: THE CARDS: each row of YtcankpdbabaacaaGreatDoorRows.lean that lists a variable, with what it lists TIED to the program's text (the seventh form; the later family's looks); each row that meets fmt, with fmt's text TOLD by the authors' own Lean function (tested against real Go, not proved from fmt's source: count such statements apart). THE CARD IS WHAT COUNTS. Prove the row's statement (the work); the ties are given (YtcankpdbabaacaaGreatDoorTie.lean); close each card by the builder's one call (the guide's Derived/Test/ToyasCard.lean, 'card_holds'). Laid BY PROGRAM, IN A SANDBOX (cutbox-door.mjs). By AI agents, Wed Nov 11 2026. No macro, syntax, notation, axiom, sorry.
-/
import Derived.Test.YtcankpdbabaacaaGreatDoorRows
import GoSem.ClaimSeven
namespace Go.Proofs.YtcankpdbabaacaaGreatDoor
namespace Rows

/-- THE TIED CARD OF 'laws.FnExactClear'. -/
def fnExactClearCard : Claim7 := { stood := { row := fnExactClearRow, standIns := [], harness := (true, "20032e77b4b2ef78ee63504c2c80e86da93c481e1dad744ea61644378cec3d5b"), looks := true }, kinds := [], alts := [], laidByText := true, laidKinds := [.handle, .data, .sentinel, .sentinel, .sentinel, .sentinel, .sentinel, .sentinel], laidTests := true, laidLooks := .later }
def FnExactClearCardSaid : Prop := Claim7.holds Tryz.pinned (.plain (OpenSpec.ofChange fnExactClearSpec)) fnExactClearCard

/-- THE SECOND FORM's CARD OF 'laws.FnExactClear'. -/
def fnExactClearUptoCard : Claim7 := { stood := { row := fnExactClearUptoRow, standIns := [], harness := (true, "20032e77b4b2ef78ee63504c2c80e86da93c481e1dad744ea61644378cec3d5b"), looks := true }, kinds := [], alts := [], laidByText := true, laidKinds := [.handle, .data, .sentinel, .sentinel, .sentinel, .sentinel, .sentinel, .sentinel], laidTests := true, laidLooks := .later }
def FnExactClearUptoCardSaid : Prop := Claim7.holds Tryz.pinned (.plain (OpenSpec.upto fnExactClearSpec)) fnExactClearUptoCard
end Rows
end Go.Proofs.YtcankpdbabaacaaGreatDoor
