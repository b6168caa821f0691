/-
  DERIVED. GIVEN WITH THE SEED: THE CARDS: each row of YtfphohneafeleaaDoorRows.lean that lists a variable, with what it lists TIED to the program's text (the seventh form; the later family's looks); each row that meets fmt, with fmt's text TOLD by the authors' own Lean function (tested against real Go, not proved from fmt's source: count such statements apart). THE CARD IS WHAT COUNTS. Prove the row's statement (the work); the ties are given (YtfphohneafeleaaDoorTie.lean); close each card by the builder's one call (the guide's Derived/Test/ToyasCard.lean, 'card_holds'). Laid BY PROGRAM, IN A SANDBOX (cutbox-door.mjs). By AI agents, Wed Nov 11 2026. No macro, syntax, notation, axiom, sorry.
-/
import Derived.Test.YtfphohneafeleaaDoorRows
import GoSem.ClaimSeven
namespace Go.Proofs.YtfphohneafeleaaDoor
namespace Rows

/-- THE TIED CARD OF 'satchellaw03.DigestRuns'. -/
def digestRunsCard : Claim7 := { stood := { row := digestRunsRow, standIns := [], harness := (true, "842721fba153504319ce1701027fa850c6fd0fb4864f76e07584906b4e093315"), looks := false }, kinds := [], alts := [], laidByText := true, laidKinds := [.data], laidTests := true, laidLooks := .later }
def DigestRunsCardSaid : Prop := Claim7.holds Tryd.pinned (.plain (OpenSpec.ofChange digestRunsSpec)) digestRunsCard

/-- THE SECOND FORM's CARD OF 'satchellaw03.DigestRuns'. -/
def digestRunsUptoCard : Claim7 := { stood := { row := digestRunsUptoRow, standIns := [], harness := (true, "842721fba153504319ce1701027fa850c6fd0fb4864f76e07584906b4e093315"), looks := false }, kinds := [], alts := [], laidByText := true, laidKinds := [.data], laidTests := true, laidLooks := .later }
def DigestRunsUptoCardSaid : Prop := Claim7.holds Tryd.pinned (.plain (OpenSpec.upto digestRunsSpec)) digestRunsUptoCard
end Rows
end Go.Proofs.YtfphohneafeleaaDoor
