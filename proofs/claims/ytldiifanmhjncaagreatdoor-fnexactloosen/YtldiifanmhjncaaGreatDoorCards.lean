/-
  DERIVED. GIVEN WITH THE SEED: THE CARDS: each row of YtldiifanmhjncaaGreatDoorRows.lean that lists a variable, with what it lists TIED to the program's text (the seventh form; the later family's looks); each row that meets fmt, with fmt's text TOLD by the authors' own Lean function (tested against real Go, not proved from fmt's source: count such statements apart). THE CARD IS WHAT COUNTS. Prove the row's statement (the work); the ties are given (YtldiifanmhjncaaGreatDoorTie.lean); close each card by the builder's one call (the guide's Derived/Test/ToyasCard.lean, 'card_holds'). Laid BY PROGRAM, IN A SANDBOX (cutbox-door.mjs). By AI agents, Wed Nov 11 2026. No macro, syntax, notation, axiom, sorry.
-/
import Derived.Test.YtldiifanmhjncaaGreatDoorRows
import GoSem.ClaimSeven
namespace Go.Proofs.YtldiifanmhjncaaGreatDoor
namespace Rows

/-- THE TIED CARD OF 'laws.FnExactLoosen'. -/
def fnExactLoosenCard : Claim7 := { stood := { row := fnExactLoosenRow, standIns := [], harness := (true, "8c9baaf6d4028cb52c47398d239117d1d6bef7d648af7dd9d3e0b056dd1f903d"), looks := true }, kinds := [], alts := [], laidByText := true, laidKinds := [.handle, .data, .sentinel, .sentinel, .sentinel, .sentinel, .sentinel, .sentinel], laidTests := true, laidLooks := .later }
def FnExactLoosenCardSaid : Prop := Claim7.holds Tryz.pinned (.plain (OpenSpec.ofChange fnExactLoosenSpec)) fnExactLoosenCard

/-- THE SECOND FORM's CARD OF 'laws.FnExactLoosen'. -/
def fnExactLoosenUptoCard : Claim7 := { stood := { row := fnExactLoosenUptoRow, standIns := [], harness := (true, "8c9baaf6d4028cb52c47398d239117d1d6bef7d648af7dd9d3e0b056dd1f903d"), looks := true }, kinds := [], alts := [], laidByText := true, laidKinds := [.handle, .data, .sentinel, .sentinel, .sentinel, .sentinel, .sentinel, .sentinel], laidTests := true, laidLooks := .later }
def FnExactLoosenUptoCardSaid : Prop := Claim7.holds Tryz.pinned (.plain (OpenSpec.upto fnExactLoosenSpec)) fnExactLoosenUptoCard
end Rows
end Go.Proofs.YtldiifanmhjncaaGreatDoor
