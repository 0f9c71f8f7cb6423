/-
  DERIVED. GIVEN WITH THE SEED: THE CARDS: each row of YtpekbmegopfhfaaGreatDoorRows.lean that lists a variable, with what it lists TIED to the program's text (the seventh form; the later family's looks); each row that meets fmt, with fmt's text TOLD by the authors' own Lean function (tested against real Go, not proved from fmt's source: count such statements apart). THE CARD IS WHAT COUNTS. Prove the row's statement (the work); the ties are given (YtpekbmegopfhfaaGreatDoorTie.lean); close each card by the builder's one call (the guide's Derived/Test/ToyasCard.lean, 'card_holds'). Laid BY PROGRAM, IN A SANDBOX (cutbox-door.mjs). By AI agents, Wed Nov 11 2026. No macro, syntax, notation, axiom, sorry.
-/
import Derived.Test.YtpekbmegopfhfaaGreatDoorRows
import GoSem.ClaimSeven
namespace Go.Proofs.YtpekbmegopfhfaaGreatDoor
namespace Rows

/-- THE TIED CARD OF 'laws.FnExactReplay'. -/
def fnExactReplayCard : Claim7 := { stood := { row := fnExactReplayRow, standIns := [], harness := (true, "02d594b28a86458afaaa6376f47288840d94cd7ab2fd36326242db9fdd70264e"), looks := true }, kinds := [], alts := [], laidByText := true, laidKinds := [.handle, .data, .sentinel, .sentinel, .sentinel, .sentinel, .sentinel, .sentinel], laidTests := true, laidLooks := .later }
def FnExactReplayCardSaid : Prop := Claim7.holds Tryz.pinned (.plain (OpenSpec.ofChange fnExactReplaySpec)) fnExactReplayCard

/-- THE TIED CARD OF 'laws.FnExactOpen'. -/
def fnExactOpenCard : Claim7 := { stood := { row := fnExactOpenRow, standIns := [], harness := (true, "02d594b28a86458afaaa6376f47288840d94cd7ab2fd36326242db9fdd70264e"), looks := true }, kinds := [], alts := [], laidByText := true, laidKinds := [.handle, .data, .sentinel, .sentinel, .sentinel, .sentinel, .sentinel, .sentinel], laidTests := true, laidLooks := .later }
def FnExactOpenCardSaid : Prop := Claim7.holds Tryz.pinned (.plain (OpenSpec.ofChange fnExactOpenSpec)) fnExactOpenCard

/-- THE TIED CARD OF 'laws.FnExactValidVault'. -/
def fnExactValidVaultCard : Claim7 := { stood := { row := fnExactValidVaultRow, standIns := [], harness := (true, "02d594b28a86458afaaa6376f47288840d94cd7ab2fd36326242db9fdd70264e"), looks := true }, kinds := [], alts := [], laidByText := true, laidKinds := [.handle, .data, .sentinel, .sentinel, .sentinel, .sentinel, .sentinel, .sentinel], laidTests := true, laidLooks := .later }
def FnExactValidVaultCardSaid : Prop := Claim7.holds Tryz.pinned (.plain (OpenSpec.ofChange fnExactValidVaultSpec)) fnExactValidVaultCard

/-- THE TIED CARD OF 'laws.FnExactFetch'. -/
def fnExactFetchCard : Claim7 := { stood := { row := fnExactFetchRow, standIns := [], harness := (true, "02d594b28a86458afaaa6376f47288840d94cd7ab2fd36326242db9fdd70264e"), looks := true }, kinds := [], alts := [], laidByText := true, laidKinds := [.handle, .data, .sentinel, .sentinel, .sentinel, .sentinel, .sentinel, .sentinel], laidTests := true, laidLooks := .later }
def FnExactFetchCardSaid : Prop := Claim7.holds Tryz.pinned (.plain (OpenSpec.ofChange fnExactFetchSpec)) fnExactFetchCard

/-- THE TIED CARD OF 'laws.FnExactLose'. -/
def fnExactLoseCard : Claim7 := { stood := { row := fnExactLoseRow, standIns := [], harness := (true, "02d594b28a86458afaaa6376f47288840d94cd7ab2fd36326242db9fdd70264e"), looks := true }, kinds := [], alts := [], laidByText := true, laidKinds := [.handle, .data, .sentinel, .sentinel, .sentinel, .sentinel, .sentinel, .sentinel], laidTests := true, laidLooks := .later }
def FnExactLoseCardSaid : Prop := Claim7.holds Tryz.pinned (.plain (OpenSpec.ofChange fnExactLoseSpec)) fnExactLoseCard

/-- THE TIED CARD OF 'laws.FnExactFlush'. -/
def fnExactFlushCard : Claim7 := { stood := { row := fnExactFlushRow, standIns := [], harness := (true, "02d594b28a86458afaaa6376f47288840d94cd7ab2fd36326242db9fdd70264e"), looks := true }, kinds := [], alts := [], laidByText := true, laidKinds := [.handle, .data, .sentinel, .sentinel, .sentinel, .sentinel, .sentinel, .sentinel], laidTests := true, laidLooks := .later }
def FnExactFlushCardSaid : Prop := Claim7.holds Tryz.pinned (.plain (OpenSpec.ofChange fnExactFlushSpec)) fnExactFlushCard

/-- THE SECOND FORM's CARD OF 'laws.FnExactReplay'. -/
def fnExactReplayUptoCard : Claim7 := { stood := { row := fnExactReplayUptoRow, standIns := [], harness := (true, "02d594b28a86458afaaa6376f47288840d94cd7ab2fd36326242db9fdd70264e"), looks := true }, kinds := [], alts := [], laidByText := true, laidKinds := [.handle, .data, .sentinel, .sentinel, .sentinel, .sentinel, .sentinel, .sentinel], laidTests := true, laidLooks := .later }
def FnExactReplayUptoCardSaid : Prop := Claim7.holds Tryz.pinned (.plain (OpenSpec.upto fnExactReplaySpec)) fnExactReplayUptoCard

/-- THE SECOND FORM's CARD OF 'laws.FnExactOpen'. -/
def fnExactOpenUptoCard : Claim7 := { stood := { row := fnExactOpenUptoRow, standIns := [], harness := (true, "02d594b28a86458afaaa6376f47288840d94cd7ab2fd36326242db9fdd70264e"), looks := true }, kinds := [], alts := [], laidByText := true, laidKinds := [.handle, .data, .sentinel, .sentinel, .sentinel, .sentinel, .sentinel, .sentinel], laidTests := true, laidLooks := .later }
def FnExactOpenUptoCardSaid : Prop := Claim7.holds Tryz.pinned (.plain (OpenSpec.upto fnExactOpenSpec)) fnExactOpenUptoCard

/-- THE SECOND FORM's CARD OF 'laws.FnExactValidVault'. -/
def fnExactValidVaultUptoCard : Claim7 := { stood := { row := fnExactValidVaultUptoRow, standIns := [], harness := (true, "02d594b28a86458afaaa6376f47288840d94cd7ab2fd36326242db9fdd70264e"), looks := true }, kinds := [], alts := [], laidByText := true, laidKinds := [.handle, .data, .sentinel, .sentinel, .sentinel, .sentinel, .sentinel, .sentinel], laidTests := true, laidLooks := .later }
def FnExactValidVaultUptoCardSaid : Prop := Claim7.holds Tryz.pinned (.plain (OpenSpec.upto fnExactValidVaultSpec)) fnExactValidVaultUptoCard

/-- THE SECOND FORM's CARD OF 'laws.FnExactFetch'. -/
def fnExactFetchUptoCard : Claim7 := { stood := { row := fnExactFetchUptoRow, standIns := [], harness := (true, "02d594b28a86458afaaa6376f47288840d94cd7ab2fd36326242db9fdd70264e"), looks := true }, kinds := [], alts := [], laidByText := true, laidKinds := [.handle, .data, .sentinel, .sentinel, .sentinel, .sentinel, .sentinel, .sentinel], laidTests := true, laidLooks := .later }
def FnExactFetchUptoCardSaid : Prop := Claim7.holds Tryz.pinned (.plain (OpenSpec.upto fnExactFetchSpec)) fnExactFetchUptoCard

/-- THE SECOND FORM's CARD OF 'laws.FnExactLose'. -/
def fnExactLoseUptoCard : Claim7 := { stood := { row := fnExactLoseUptoRow, standIns := [], harness := (true, "02d594b28a86458afaaa6376f47288840d94cd7ab2fd36326242db9fdd70264e"), looks := true }, kinds := [], alts := [], laidByText := true, laidKinds := [.handle, .data, .sentinel, .sentinel, .sentinel, .sentinel, .sentinel, .sentinel], laidTests := true, laidLooks := .later }
def FnExactLoseUptoCardSaid : Prop := Claim7.holds Tryz.pinned (.plain (OpenSpec.upto fnExactLoseSpec)) fnExactLoseUptoCard

/-- THE SECOND FORM's CARD OF 'laws.FnExactFlush'. -/
def fnExactFlushUptoCard : Claim7 := { stood := { row := fnExactFlushUptoRow, standIns := [], harness := (true, "02d594b28a86458afaaa6376f47288840d94cd7ab2fd36326242db9fdd70264e"), looks := true }, kinds := [], alts := [], laidByText := true, laidKinds := [.handle, .data, .sentinel, .sentinel, .sentinel, .sentinel, .sentinel, .sentinel], laidTests := true, laidLooks := .later }
def FnExactFlushUptoCardSaid : Prop := Claim7.holds Tryz.pinned (.plain (OpenSpec.upto fnExactFlushSpec)) fnExactFlushUptoCard
end Rows
end Go.Proofs.YtpekbmegopfhfaaGreatDoor
