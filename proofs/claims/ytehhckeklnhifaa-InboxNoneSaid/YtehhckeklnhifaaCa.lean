/-
 Contracts of this seat: what loops and calls leave, for all inputs. No condition.
-/
import Derived.Test.YtehhckeklnhifaaSycp
import Derived.Test.YtehhckeklnhifaaCo
set_option linter.unusedSimpArgs false
set_option linter.unusedVariables false
namespace Go.Proofs.Ytehhckeklnhifaa.Ca
open Go.RowKit Go.Ev Go.Proofs.Ytehhckeklnhifaa.Co


def F : Nat → D → D
 | _ => fun x => x

def awakeC : CSpec := ⟨[], 0, [], [], .bool true, [], []⟩
set_option maxRecDepth 100000 in
theorem awakeC_y : endC awakeC [] 1000 (callW Try.prog F noAsk [] [] [] 8000 80 22 awakeC) = some [] := by kernel_rfl
theorem awakeC_holds : CHolds Try.prog 22 awakeC F := choldsW_of sound (tableNil _ _) (specsNil _ _) (oversNil _ _) (by kernel_rfl) fun d _ _ _ => ⟨noAsk, [], 1000, [], noAsk_ok _, awakeC_y, fun p hp => by cases hp⟩

def tab : List LEntry := []
def specs : List (FuncId × CSpec) := [(22, awakeC)]
def overs : Overs := []
theorem tab_ok : TableOK Try.prog tab F := tableNil _ _
theorem specs_ok : SpecsOK Try.prog specs F := specsCons awakeC_holds (specsNil _ _)
theorem overs_ok : OversOK Try.prog overs F := oversNil _ _
end Go.Proofs.Ytehhckeklnhifaa.Ca
