/-
  DERIVED. GIVEN WITH THE SEED: THE CARDS: each row of YtidjfojcifjdjaaDoorRows.lean that lists a variable, with what it lists TIED to the program's text (the seventh form; the later family's looks); each row that meets fmt, with fmt's text TOLD by the authors' own Lean function (tested against real Go, not proved from fmt's source: count such statements apart). THE CARD IS WHAT COUNTS. Prove the row's statement (the work); the ties are given (YtidjfojcifjdjaaDoorTie.lean); close each card by the builder's one call (the guide's Derived/Test/ToyasCard.lean, 'card_holds'). Laid BY PROGRAM, IN A SANDBOX (cutbox-door.mjs). By AI agents, Wed Nov 11 2026. No macro, syntax, notation, axiom, sorry.
-/
import Derived.Test.YtidjfojcifjdjaaDoorRows
import GoSem.ClaimSeven
namespace Go.Proofs.YtidjfojcifjdjaaDoor
namespace Rows

/-- THE TIED CARD OF 'satchellaw17.PackPuts'. -/
def packPutsCard : Claim7 := { stood := { row := packPutsRow, standIns := [], harness := (true, "52efef33b2a9fb46a90e9c7ce2784e6524408f1832c9027874ac55aeda9878d3"), looks := false }, kinds := [], alts := [], laidByText := true, laidKinds := [.data], laidTests := true, laidLooks := .later }
def PackPutsCardSaid : Prop := Claim7.holds Tryd.pinned (.plain (OpenSpec.ofChange packPutsSpec)) packPutsCard

/-- THE TIED CARD OF 'satchellaw17.PackScans'. -/
def packScansCard : Claim7 := { stood := { row := packScansRow, standIns := [], harness := (true, "52efef33b2a9fb46a90e9c7ce2784e6524408f1832c9027874ac55aeda9878d3"), looks := false }, kinds := [], alts := [], laidByText := true, laidKinds := [.data], laidTests := true, laidLooks := .later }
def PackScansCardSaid : Prop := Claim7.holds Tryd.pinned (.plain (OpenSpec.ofChange packScansSpec)) packScansCard

/-- THE TIED CARD OF 'satchellaw17.PackKnown'. -/
def packKnownCard : Claim7 := { stood := { row := packKnownRow, standIns := [], harness := (true, "52efef33b2a9fb46a90e9c7ce2784e6524408f1832c9027874ac55aeda9878d3"), looks := false }, kinds := [], alts := [], laidByText := true, laidKinds := [.data], laidTests := true, laidLooks := .later }
def PackKnownCardSaid : Prop := Claim7.holds Tryd.pinned (.plain (OpenSpec.ofChange packKnownSpec)) packKnownCard

/-- THE TIED CARD OF 'satchellaw17.PackBack'. -/
def packBackCard : Claim7 := { stood := { row := packBackRow, standIns := [], harness := (true, "52efef33b2a9fb46a90e9c7ce2784e6524408f1832c9027874ac55aeda9878d3"), looks := false }, kinds := [], alts := [], laidByText := true, laidKinds := [.data], laidTests := true, laidLooks := .later }
def PackBackCardSaid : Prop := Claim7.holds Tryd.pinned (.plain (OpenSpec.ofChange packBackSpec)) packBackCard

/-- THE TIED CARD OF 'satchellaw17.PackTurned'. -/
def packTurnedCard : Claim7 := { stood := { row := packTurnedRow, standIns := [], harness := (true, "52efef33b2a9fb46a90e9c7ce2784e6524408f1832c9027874ac55aeda9878d3"), looks := false }, kinds := [], alts := [], laidByText := true, laidKinds := [.data], laidTests := true, laidLooks := .later }
def PackTurnedCardSaid : Prop := Claim7.holds Tryd.pinned (.plain (OpenSpec.ofChange packTurnedSpec)) packTurnedCard

/-- THE TIED CARD OF 'satchellaw17.PackHeads'. -/
def packHeadsCard : Claim7 := { stood := { row := packHeadsRow, standIns := [], harness := (true, "52efef33b2a9fb46a90e9c7ce2784e6524408f1832c9027874ac55aeda9878d3"), looks := false }, kinds := [], alts := [], laidByText := true, laidKinds := [.data], laidTests := true, laidLooks := .later }
def PackHeadsCardSaid : Prop := Claim7.holds Tryd.pinned (.plain (OpenSpec.ofChange packHeadsSpec)) packHeadsCard

/-- THE TIED CARD OF 'satchellaw17.PackHonest'. -/
def packHonestCard : Claim7 := { stood := { row := packHonestRow, standIns := [], harness := (true, "52efef33b2a9fb46a90e9c7ce2784e6524408f1832c9027874ac55aeda9878d3"), looks := false }, kinds := [], alts := [], laidByText := true, laidKinds := [.data], laidTests := true, laidLooks := .later }
def PackHonestCardSaid : Prop := Claim7.holds Tryd.pinned (.plain (OpenSpec.ofChange packHonestSpec)) packHonestCard

/-- THE SECOND FORM's CARD OF 'satchellaw17.PackPuts'. -/
def packPutsUptoCard : Claim7 := { stood := { row := packPutsUptoRow, standIns := [], harness := (true, "52efef33b2a9fb46a90e9c7ce2784e6524408f1832c9027874ac55aeda9878d3"), looks := false }, kinds := [], alts := [], laidByText := true, laidKinds := [.data], laidTests := true, laidLooks := .later }
def PackPutsUptoCardSaid : Prop := Claim7.holds Tryd.pinned (.plain (OpenSpec.upto packPutsSpec)) packPutsUptoCard

/-- THE SECOND FORM's CARD OF 'satchellaw17.PackScans'. -/
def packScansUptoCard : Claim7 := { stood := { row := packScansUptoRow, standIns := [], harness := (true, "52efef33b2a9fb46a90e9c7ce2784e6524408f1832c9027874ac55aeda9878d3"), looks := false }, kinds := [], alts := [], laidByText := true, laidKinds := [.data], laidTests := true, laidLooks := .later }
def PackScansUptoCardSaid : Prop := Claim7.holds Tryd.pinned (.plain (OpenSpec.upto packScansSpec)) packScansUptoCard

/-- THE SECOND FORM's CARD OF 'satchellaw17.PackKnown'. -/
def packKnownUptoCard : Claim7 := { stood := { row := packKnownUptoRow, standIns := [], harness := (true, "52efef33b2a9fb46a90e9c7ce2784e6524408f1832c9027874ac55aeda9878d3"), looks := false }, kinds := [], alts := [], laidByText := true, laidKinds := [.data], laidTests := true, laidLooks := .later }
def PackKnownUptoCardSaid : Prop := Claim7.holds Tryd.pinned (.plain (OpenSpec.upto packKnownSpec)) packKnownUptoCard

/-- THE SECOND FORM's CARD OF 'satchellaw17.PackBack'. -/
def packBackUptoCard : Claim7 := { stood := { row := packBackUptoRow, standIns := [], harness := (true, "52efef33b2a9fb46a90e9c7ce2784e6524408f1832c9027874ac55aeda9878d3"), looks := false }, kinds := [], alts := [], laidByText := true, laidKinds := [.data], laidTests := true, laidLooks := .later }
def PackBackUptoCardSaid : Prop := Claim7.holds Tryd.pinned (.plain (OpenSpec.upto packBackSpec)) packBackUptoCard

/-- THE SECOND FORM's CARD OF 'satchellaw17.PackTurned'. -/
def packTurnedUptoCard : Claim7 := { stood := { row := packTurnedUptoRow, standIns := [], harness := (true, "52efef33b2a9fb46a90e9c7ce2784e6524408f1832c9027874ac55aeda9878d3"), looks := false }, kinds := [], alts := [], laidByText := true, laidKinds := [.data], laidTests := true, laidLooks := .later }
def PackTurnedUptoCardSaid : Prop := Claim7.holds Tryd.pinned (.plain (OpenSpec.upto packTurnedSpec)) packTurnedUptoCard

/-- THE SECOND FORM's CARD OF 'satchellaw17.PackHeads'. -/
def packHeadsUptoCard : Claim7 := { stood := { row := packHeadsUptoRow, standIns := [], harness := (true, "52efef33b2a9fb46a90e9c7ce2784e6524408f1832c9027874ac55aeda9878d3"), looks := false }, kinds := [], alts := [], laidByText := true, laidKinds := [.data], laidTests := true, laidLooks := .later }
def PackHeadsUptoCardSaid : Prop := Claim7.holds Tryd.pinned (.plain (OpenSpec.upto packHeadsSpec)) packHeadsUptoCard

/-- THE SECOND FORM's CARD OF 'satchellaw17.PackHonest'. -/
def packHonestUptoCard : Claim7 := { stood := { row := packHonestUptoRow, standIns := [], harness := (true, "52efef33b2a9fb46a90e9c7ce2784e6524408f1832c9027874ac55aeda9878d3"), looks := false }, kinds := [], alts := [], laidByText := true, laidKinds := [.data], laidTests := true, laidLooks := .later }
def PackHonestUptoCardSaid : Prop := Claim7.holds Tryd.pinned (.plain (OpenSpec.upto packHonestSpec)) packHonestUptoCard
end Rows
end Go.Proofs.YtidjfojcifjdjaaDoor
