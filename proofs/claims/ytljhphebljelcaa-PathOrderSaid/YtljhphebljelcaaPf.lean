/-
 Contracts of this seat: what loops and calls leave, for all inputs. No condition.
-/
import Derived.Test.YtljhphebljelcaaSycp
import Derived.Test.YtljhphebljelcaaSyfm
import Derived.Test.YtljhphebljelcaaCo
import Derived.Test.YtljhphebljelcaaShelf
import Derived.Test.YtljhphebljelcaaPa
import Derived.Test.YtljhphebljelcaaPb
import Derived.Test.YtljhphebljelcaaPc
import Derived.Test.YtljhphebljelcaaPd
import Derived.Test.YtljhphebljelcaaPe
set_option linter.unusedSimpArgs false
set_option linter.unusedVariables false
namespace Go.Proofs.Ytljhphebljelcaa.Pf
open Go.RowKit Go.Ev Go.Proofs.Ytljhphebljelcaa.Co

open Go.Proofs.Ytljhphebljelcaa.Pa
open Go.Proofs.Ytljhphebljelcaa.Pb
open Go.Proofs.Ytljhphebljelcaa.Pc
open Go.Proofs.Ytljhphebljelcaa.Pd
open Go.Proofs.Ytljhphebljelcaa.Pe


def awakeC : CSpec := ⟨[], 0, [], [], .bool true, [], []⟩
set_option maxRecDepth 100000 in
theorem awakeC_y : endC awakeC [] 1000 (callW Try.prog F noAsk [] [] [] 8000 80 9 awakeC) = some [] := by kernel_rfl
theorem awakeC_holds : CHolds Try.prog 9 awakeC F := choldsW_of sound (tableNil _ _) (specsNil _ _) (oversNil _ _) (by kernel_rfl) fun d _ _ _ => ⟨noAsk, [], 1000, [], noAsk_ok _, awakeC_y, fun p hp => by cases hp⟩

def tabU : List LEntry := []
def specsU : List (FuncId × CSpec) := [(13, checkC), (20, pathC), (22, undY), (22, undN), (10, parY), (10, parN), (9, awakeC)]
def oversU : Overs := []
theorem tabU_ok : TableOK Try.prog tabU F := tableNil _ _
theorem specsU_ok : SpecsOK Try.prog specsU F := specsCons checkC_holds (specsCons pathC_holds (specsCons undY_holds (specsCons undN_holds (specsCons parY_holds (specsCons parN_holds (specsCons awakeC_holds (specsNil _ _)))))))
theorem oversU_ok : OversOK Try.prog oversU F := oversNil _ _
end Go.Proofs.Ytljhphebljelcaa.Pf
