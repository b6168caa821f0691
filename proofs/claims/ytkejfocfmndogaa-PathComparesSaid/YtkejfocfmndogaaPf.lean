/-
 Contracts of this seat: what loops and calls leave, for all inputs. No condition.
-/
import Derived.Test.YtkejfocfmndogaaSycp
import Derived.Test.YtkejfocfmndogaaSyfm
import Derived.Test.YtkejfocfmndogaaCo
import Derived.Test.YtkejfocfmndogaaShelf
import Derived.Test.YtkejfocfmndogaaPa
import Derived.Test.YtkejfocfmndogaaPb
import Derived.Test.YtkejfocfmndogaaPc
import Derived.Test.YtkejfocfmndogaaPd
import Derived.Test.YtkejfocfmndogaaPe
set_option linter.unusedSimpArgs false
set_option linter.unusedVariables false
namespace Go.Proofs.Ytkejfocfmndogaa.Pf
open Go.RowKit Go.Ev Go.Proofs.Ytkejfocfmndogaa.Co

open Go.Proofs.Ytkejfocfmndogaa.Pa
open Go.Proofs.Ytkejfocfmndogaa.Pb
open Go.Proofs.Ytkejfocfmndogaa.Pc
open Go.Proofs.Ytkejfocfmndogaa.Pd
open Go.Proofs.Ytkejfocfmndogaa.Pe


def awakeC : CSpec := ⟨[], 0, [], [], .bool true, [], []⟩
set_option maxRecDepth 100000 in
theorem awakeC_y : endC awakeC [] 1000 (callW Try.prog F noAsk [] [] [] 8000 80 7 awakeC) = some [] := by kernel_rfl
theorem awakeC_holds : CHolds Try.prog 7 awakeC F := choldsW_of sound (tableNil _ _) (specsNil _ _) (oversNil _ _) (by kernel_rfl) fun d _ _ _ => ⟨noAsk, [], 1000, [], noAsk_ok _, awakeC_y, fun p hp => by cases hp⟩

def tabU : List LEntry := []
def specsU : List (FuncId × CSpec) := [(11, checkC), (18, pathC), (20, undY), (20, undN), (8, parY), (8, parN), (7, awakeC)]
def oversU : Overs := []
theorem tabU_ok : TableOK Try.prog tabU F := tableNil _ _
theorem specsU_ok : SpecsOK Try.prog specsU F := specsCons checkC_holds (specsCons pathC_holds (specsCons undY_holds (specsCons undN_holds (specsCons parY_holds (specsCons parN_holds (specsCons awakeC_holds (specsNil _ _)))))))
theorem oversU_ok : OversOK Try.prog oversU F := oversNil _ _
end Go.Proofs.Ytkejfocfmndogaa.Pf
