/-
  DERIVED. GIVEN WITH THE SEED: THE CARDS: each row of YtcilfejddljlbaaGreatDoorRows.lean that lists a variable, with what it lists TIED to the program's text (the seventh form; the later family's looks); each row that meets fmt, with fmt's text TOLD by the authors' own Lean function (tested against real Go, not proved from fmt's source: count such statements apart). THE CARD IS WHAT COUNTS. Prove the row's statement (the work); the ties are given (YtcilfejddljlbaaGreatDoorTie.lean); close each card by the builder's one call (the guide's Derived/Test/ToyasCard.lean, 'card_holds'). Laid BY PROGRAM, IN A SANDBOX (cutbox-door.mjs). By AI agents, Wed Nov 11 2026. No macro, syntax, notation, axiom, sorry.
-/
import Derived.Test.YtcilfejddljlbaaGreatDoorRows
import GoSem.ClaimSeven
namespace Go.Proofs.YtcilfejddljlbaaGreatDoor
namespace Rows

/-- THE TIED CARD OF 'satchellaw15.LinkBoots'. -/
def linkBootsCard : Claim7 := { stood := { row := linkBootsRow, standIns := [], harness := (true, "e0a6e6304ed60e269f62f3981c784b19cf919e62998e746a916f02a93bba0a2d"), looks := false }, kinds := [], alts := [], laidByText := true, laidKinds := [.wider], laidTests := true, laidLooks := .later }
def LinkBootsCardSaid : Prop := Claim7.holds Tryz.pinned (.plain (OpenSpec.ofChange linkBootsSpec)) linkBootsCard

/-- THE TIED CARD OF 'satchellaw15.LinkKnown'. -/
def linkKnownCard : Claim7 := { stood := { row := linkKnownRow, standIns := [], harness := (true, "e0a6e6304ed60e269f62f3981c784b19cf919e62998e746a916f02a93bba0a2d"), looks := false }, kinds := [], alts := [], laidByText := true, laidKinds := [.wider], laidTests := true, laidLooks := .later }
def LinkKnownCardSaid : Prop := Claim7.holds Tryz.pinned (.plain (OpenSpec.ofChange linkKnownSpec)) linkKnownCard

/-- THE SECOND FORM's CARD OF 'satchellaw15.LinkBoots'. -/
def linkBootsUptoCard : Claim7 := { stood := { row := linkBootsUptoRow, standIns := [], harness := (true, "e0a6e6304ed60e269f62f3981c784b19cf919e62998e746a916f02a93bba0a2d"), looks := false }, kinds := [], alts := [], laidByText := true, laidKinds := [.wider], laidTests := true, laidLooks := .later }
def LinkBootsUptoCardSaid : Prop := Claim7.holds Tryz.pinned (.plain (OpenSpec.upto linkBootsSpec)) linkBootsUptoCard

/-- THE SECOND FORM's CARD OF 'satchellaw15.LinkKnown'. -/
def linkKnownUptoCard : Claim7 := { stood := { row := linkKnownUptoRow, standIns := [], harness := (true, "e0a6e6304ed60e269f62f3981c784b19cf919e62998e746a916f02a93bba0a2d"), looks := false }, kinds := [], alts := [], laidByText := true, laidKinds := [.wider], laidTests := true, laidLooks := .later }
def LinkKnownUptoCardSaid : Prop := Claim7.holds Tryz.pinned (.plain (OpenSpec.upto linkKnownSpec)) linkKnownUptoCard
end Rows
end Go.Proofs.YtcilfejddljlbaaGreatDoor
