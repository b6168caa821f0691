/-
  DERIVED. GIVEN WITH THE SEED: THE CARDS: each row of YtblgmhghpcpmdaaDoorRows.lean that lists a variable, with what it lists TIED to the program's text (the seventh form; the later family's looks); each row that meets fmt, with fmt's text TOLD by the authors' own Lean function (tested against real Go, not proved from fmt's source: count such statements apart). THE CARD IS WHAT COUNTS. Prove the row's statement (the work); the ties are given (YtblgmhghpcpmdaaDoorTie.lean); close each card by the builder's one call (the guide's Derived/Test/ToyasCard.lean, 'card_holds'). Laid BY PROGRAM, IN A SANDBOX (cutbox-door.mjs). By AI agents, Wed Nov 11 2026. No macro, syntax, notation, axiom, sorry.
-/
import Derived.Test.YtblgmhghpcpmdaaDoorRows
import GoSem.ClaimSeven
namespace Go.Proofs.YtblgmhghpcpmdaaDoor
namespace Rows

/-- THE TIED CARD OF 'satchellaw03.DigestSums'. -/
def digestSumsCard : Claim7 := { stood := { row := digestSumsRow, standIns := [], harness := (true, "9201b8765b228a9dac50a21e8dc549939bca1f663b9148d03a7ed1bd7b74d51a"), looks := false }, kinds := [], alts := [], laidByText := true, laidKinds := [.data], laidTests := true, laidLooks := .later }
def DigestSumsCardSaid : Prop := Claim7.holds Tryd.pinned (.plain (OpenSpec.ofChange digestSumsSpec)) digestSumsCard

/-- THE TIED CARD OF 'satchellaw03.DigestRuns'. -/
def digestRunsCard : Claim7 := { stood := { row := digestRunsRow, standIns := [], harness := (true, "9201b8765b228a9dac50a21e8dc549939bca1f663b9148d03a7ed1bd7b74d51a"), looks := false }, kinds := [], alts := [], laidByText := true, laidKinds := [.data], laidTests := true, laidLooks := .later }
def DigestRunsCardSaid : Prop := Claim7.holds Tryd.pinned (.plain (OpenSpec.ofChange digestRunsSpec)) digestRunsCard

/-- THE TIED CARD OF 'satchellaw03.DigestPieces'. -/
def digestPiecesCard : Claim7 := { stood := { row := digestPiecesRow, standIns := [], harness := (true, "9201b8765b228a9dac50a21e8dc549939bca1f663b9148d03a7ed1bd7b74d51a"), looks := false }, kinds := [], alts := [], laidByText := true, laidKinds := [.data], laidTests := true, laidLooks := .later }
def DigestPiecesCardSaid : Prop := Claim7.holds Tryd.pinned (.plain (OpenSpec.ofChange digestPiecesSpec)) digestPiecesCard

/-- THE SECOND FORM's CARD OF 'satchellaw03.DigestSums'. -/
def digestSumsUptoCard : Claim7 := { stood := { row := digestSumsUptoRow, standIns := [], harness := (true, "9201b8765b228a9dac50a21e8dc549939bca1f663b9148d03a7ed1bd7b74d51a"), looks := false }, kinds := [], alts := [], laidByText := true, laidKinds := [.data], laidTests := true, laidLooks := .later }
def DigestSumsUptoCardSaid : Prop := Claim7.holds Tryd.pinned (.plain (OpenSpec.upto digestSumsSpec)) digestSumsUptoCard

/-- THE SECOND FORM's CARD OF 'satchellaw03.DigestRuns'. -/
def digestRunsUptoCard : Claim7 := { stood := { row := digestRunsUptoRow, standIns := [], harness := (true, "9201b8765b228a9dac50a21e8dc549939bca1f663b9148d03a7ed1bd7b74d51a"), looks := false }, kinds := [], alts := [], laidByText := true, laidKinds := [.data], laidTests := true, laidLooks := .later }
def DigestRunsUptoCardSaid : Prop := Claim7.holds Tryd.pinned (.plain (OpenSpec.upto digestRunsSpec)) digestRunsUptoCard

/-- THE SECOND FORM's CARD OF 'satchellaw03.DigestPieces'. -/
def digestPiecesUptoCard : Claim7 := { stood := { row := digestPiecesUptoRow, standIns := [], harness := (true, "9201b8765b228a9dac50a21e8dc549939bca1f663b9148d03a7ed1bd7b74d51a"), looks := false }, kinds := [], alts := [], laidByText := true, laidKinds := [.data], laidTests := true, laidLooks := .later }
def DigestPiecesUptoCardSaid : Prop := Claim7.holds Tryd.pinned (.plain (OpenSpec.upto digestPiecesSpec)) digestPiecesUptoCard
end Rows
end Go.Proofs.YtblgmhghpcpmdaaDoor
