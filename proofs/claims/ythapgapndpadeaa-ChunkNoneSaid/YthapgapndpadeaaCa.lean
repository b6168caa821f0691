/-
  Contracts of this seat: what loops and calls leave, for all inputs. No condition.
-/
import Derived.Test.YthapgapndpadeaaSycp
import Derived.Test.YthapgapndpadeaaCo
set_option linter.unusedSimpArgs false
set_option linter.unusedVariables false
namespace Go.Proofs.Ythapgapndpadeaa.Ca
open Go.RowKit Go.Ev Go.Proofs.Ythapgapndpadeaa.Co


def F : Nat → D → D
  | _ => fun x => x

def awakeC : CSpec := { args := [], next := 0, rows := [], pre := [], res := .bool true, frows := [], same := [] }
def awakeC_t0 : List (Q × Bool) := []
def awakeC_d0 : List Duty := []
theorem awakeC_y0 : endC awakeC [] 1000 (callC Try.prog (tellA awakeC_t0) [] [] [] 3000 40 20 awakeC) = some awakeC_d0 := by kernel_rfl
theorem awakeC_holds : CHolds Try.prog 20 awakeC F := by
  refine cholds_of sound (tableNil _ _) (specsNil _ _) (oversNil _ _) (fuel := 3000) (depth := 40) (by kernel_rfl) fun d hp hR hA => ?_
  refine ⟨tellA awakeC_t0, _, _, _, tellA_ok (allTold'_iff.1 ?_), awakeC_y0, dutiesTold_ok ?_⟩
  · trivial
  · trivial

def tab : List LEntry := []
def specs : List (FuncId × CSpec) := [(20, awakeC)]
def overs : Overs := []
theorem tab_ok : TableOK Try.prog tab F := tableNil _ _
theorem specs_ok : SpecsOK Try.prog specs F := specsCons awakeC_holds (specsNil _ _)
theorem overs_ok : OversOK Try.prog overs F := oversNil _ _
end Go.Proofs.Ythapgapndpadeaa.Ca
