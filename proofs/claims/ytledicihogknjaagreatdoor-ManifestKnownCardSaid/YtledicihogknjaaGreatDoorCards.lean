/-
  DERIVED. GIVEN WITH THE SEED: THE CARDS: each row of YtledicihogknjaaGreatDoorRows.lean that lists a variable, with what it lists TIED to the program's text (the seventh form; the later family's looks); each row that meets fmt, with fmt's text TOLD by the authors' own Lean function (tested against real Go, not proved from fmt's source: count such statements apart). THE CARD IS WHAT COUNTS. Prove the row's statement (the work); the ties are given (YtledicihogknjaaGreatDoorTie.lean); close each card by the builder's one call (the guide's Derived/Test/ToyasCard.lean, 'card_holds'). Laid BY PROGRAM, IN A SANDBOX (cutbox-door.mjs). By AI agents, Wed Nov 11 2026. No macro, syntax, notation, axiom, sorry.
-/
import Derived.Test.YtledicihogknjaaGreatDoorRows
import GoSem.ClaimSeven
namespace Go.Proofs.YtledicihogknjaaGreatDoor
namespace Rows

/-- THE TIED CARD OF 'satchellaw09.ManifestMakes'. -/
def manifestMakesCard : Claim7 := { stood := { row := manifestMakesRow, standIns := [], harness := (true, "91dcb1179065e8dd24489cd0d9bb8ee99011fa5005abbd51fa10e12227444351"), looks := true }, kinds := [], alts := [], laidByText := true, laidKinds := [.data], laidTests := true, laidLooks := .later }
def ManifestMakesCardSaid : Prop := Claim7.holds Tryz.pinned (.plain (OpenSpec.ofChange manifestMakesSpec)) manifestMakesCard

/-- THE TIED CARD OF 'satchellaw09.ManifestBytes'. -/
def manifestBytesCard : Claim7 := { stood := { row := manifestBytesRow, standIns := [], harness := (true, "91dcb1179065e8dd24489cd0d9bb8ee99011fa5005abbd51fa10e12227444351"), looks := true }, kinds := [], alts := [], laidByText := true, laidKinds := [.data], laidTests := true, laidLooks := .later }
def ManifestBytesCardSaid : Prop := Claim7.holds Tryz.pinned (.plain (OpenSpec.ofChange manifestBytesSpec)) manifestBytesCard

/-- THE TIED CARD OF 'satchellaw09.ManifestReads'. -/
def manifestReadsCard : Claim7 := { stood := { row := manifestReadsRow, standIns := [], harness := (true, "91dcb1179065e8dd24489cd0d9bb8ee99011fa5005abbd51fa10e12227444351"), looks := true }, kinds := [], alts := [], laidByText := true, laidKinds := [.data], laidTests := true, laidLooks := .later }
def ManifestReadsCardSaid : Prop := Claim7.holds Tryz.pinned (.plain (OpenSpec.ofChange manifestReadsSpec)) manifestReadsCard

/-- THE TIED CARD OF 'satchellaw09.ManifestBuilds'. -/
def manifestBuildsCard : Claim7 := { stood := { row := manifestBuildsRow, standIns := [], harness := (true, "91dcb1179065e8dd24489cd0d9bb8ee99011fa5005abbd51fa10e12227444351"), looks := true }, kinds := [], alts := [], laidByText := true, laidKinds := [.data], laidTests := true, laidLooks := .later }
def ManifestBuildsCardSaid : Prop := Claim7.holds Tryz.pinned (.plain (OpenSpec.ofChange manifestBuildsSpec)) manifestBuildsCard

/-- THE TIED CARD OF 'satchellaw09.ManifestKnown'. -/
def manifestKnownCard : Claim7 := { stood := { row := manifestKnownRow, standIns := [], harness := (true, "91dcb1179065e8dd24489cd0d9bb8ee99011fa5005abbd51fa10e12227444351"), looks := true }, kinds := [], alts := [], laidByText := true, laidKinds := [.data], laidTests := true, laidLooks := .later }
def ManifestKnownCardSaid : Prop := Claim7.holds Tryz.pinned (.plain (OpenSpec.ofChange manifestKnownSpec)) manifestKnownCard

/-- THE TIED CARD OF 'satchellaw09.ManifestBack'. -/
def manifestBackCard : Claim7 := { stood := { row := manifestBackRow, standIns := [], harness := (true, "91dcb1179065e8dd24489cd0d9bb8ee99011fa5005abbd51fa10e12227444351"), looks := true }, kinds := [], alts := [], laidByText := true, laidKinds := [.data], laidTests := true, laidLooks := .later }
def ManifestBackCardSaid : Prop := Claim7.holds Tryz.pinned (.plain (OpenSpec.ofChange manifestBackSpec)) manifestBackCard

/-- THE TIED CARD OF 'satchellaw09.ManifestHolds'. -/
def manifestHoldsCard : Claim7 := { stood := { row := manifestHoldsRow, standIns := [], harness := (true, "91dcb1179065e8dd24489cd0d9bb8ee99011fa5005abbd51fa10e12227444351"), looks := true }, kinds := [], alts := [], laidByText := true, laidKinds := [.data], laidTests := true, laidLooks := .later }
def ManifestHoldsCardSaid : Prop := Claim7.holds Tryz.pinned (.plain (OpenSpec.ofChange manifestHoldsSpec)) manifestHoldsCard

/-- THE SECOND FORM's CARD OF 'satchellaw09.ManifestMakes'. -/
def manifestMakesUptoCard : Claim7 := { stood := { row := manifestMakesUptoRow, standIns := [], harness := (true, "91dcb1179065e8dd24489cd0d9bb8ee99011fa5005abbd51fa10e12227444351"), looks := true }, kinds := [], alts := [], laidByText := true, laidKinds := [.data], laidTests := true, laidLooks := .later }
def ManifestMakesUptoCardSaid : Prop := Claim7.holds Tryz.pinned (.plain (OpenSpec.upto manifestMakesSpec)) manifestMakesUptoCard

/-- THE SECOND FORM's CARD OF 'satchellaw09.ManifestBytes'. -/
def manifestBytesUptoCard : Claim7 := { stood := { row := manifestBytesUptoRow, standIns := [], harness := (true, "91dcb1179065e8dd24489cd0d9bb8ee99011fa5005abbd51fa10e12227444351"), looks := true }, kinds := [], alts := [], laidByText := true, laidKinds := [.data], laidTests := true, laidLooks := .later }
def ManifestBytesUptoCardSaid : Prop := Claim7.holds Tryz.pinned (.plain (OpenSpec.upto manifestBytesSpec)) manifestBytesUptoCard

/-- THE SECOND FORM's CARD OF 'satchellaw09.ManifestReads'. -/
def manifestReadsUptoCard : Claim7 := { stood := { row := manifestReadsUptoRow, standIns := [], harness := (true, "91dcb1179065e8dd24489cd0d9bb8ee99011fa5005abbd51fa10e12227444351"), looks := true }, kinds := [], alts := [], laidByText := true, laidKinds := [.data], laidTests := true, laidLooks := .later }
def ManifestReadsUptoCardSaid : Prop := Claim7.holds Tryz.pinned (.plain (OpenSpec.upto manifestReadsSpec)) manifestReadsUptoCard

/-- THE SECOND FORM's CARD OF 'satchellaw09.ManifestBuilds'. -/
def manifestBuildsUptoCard : Claim7 := { stood := { row := manifestBuildsUptoRow, standIns := [], harness := (true, "91dcb1179065e8dd24489cd0d9bb8ee99011fa5005abbd51fa10e12227444351"), looks := true }, kinds := [], alts := [], laidByText := true, laidKinds := [.data], laidTests := true, laidLooks := .later }
def ManifestBuildsUptoCardSaid : Prop := Claim7.holds Tryz.pinned (.plain (OpenSpec.upto manifestBuildsSpec)) manifestBuildsUptoCard

/-- THE SECOND FORM's CARD OF 'satchellaw09.ManifestKnown'. -/
def manifestKnownUptoCard : Claim7 := { stood := { row := manifestKnownUptoRow, standIns := [], harness := (true, "91dcb1179065e8dd24489cd0d9bb8ee99011fa5005abbd51fa10e12227444351"), looks := true }, kinds := [], alts := [], laidByText := true, laidKinds := [.data], laidTests := true, laidLooks := .later }
def ManifestKnownUptoCardSaid : Prop := Claim7.holds Tryz.pinned (.plain (OpenSpec.upto manifestKnownSpec)) manifestKnownUptoCard

/-- THE SECOND FORM's CARD OF 'satchellaw09.ManifestBack'. -/
def manifestBackUptoCard : Claim7 := { stood := { row := manifestBackUptoRow, standIns := [], harness := (true, "91dcb1179065e8dd24489cd0d9bb8ee99011fa5005abbd51fa10e12227444351"), looks := true }, kinds := [], alts := [], laidByText := true, laidKinds := [.data], laidTests := true, laidLooks := .later }
def ManifestBackUptoCardSaid : Prop := Claim7.holds Tryz.pinned (.plain (OpenSpec.upto manifestBackSpec)) manifestBackUptoCard

/-- THE SECOND FORM's CARD OF 'satchellaw09.ManifestHolds'. -/
def manifestHoldsUptoCard : Claim7 := { stood := { row := manifestHoldsUptoRow, standIns := [], harness := (true, "91dcb1179065e8dd24489cd0d9bb8ee99011fa5005abbd51fa10e12227444351"), looks := true }, kinds := [], alts := [], laidByText := true, laidKinds := [.data], laidTests := true, laidLooks := .later }
def ManifestHoldsUptoCardSaid : Prop := Claim7.holds Tryz.pinned (.plain (OpenSpec.upto manifestHoldsSpec)) manifestHoldsUptoCard
end Rows
end Go.Proofs.YtledicihogknjaaGreatDoor
