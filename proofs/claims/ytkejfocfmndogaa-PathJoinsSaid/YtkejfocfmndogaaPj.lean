/-
 Contracts of this seat: what loops and calls leave, for all inputs. No condition.
-/
import Derived.Test.YtkejfocfmndogaaSycp
import Derived.Test.YtkejfocfmndogaaSyfm
import Derived.Test.YtkejfocfmndogaaCo
import Derived.Test.YtkejfocfmndogaaPa
import Derived.Test.YtkejfocfmndogaaPb
import Derived.Test.YtkejfocfmndogaaPc
import Derived.Test.YtkejfocfmndogaaPh
import Derived.Test.YtkejfocfmndogaaPr
import Derived.Test.YtkejfocfmndogaaPs
import Derived.Test.YtkejfocfmndogaaPu
set_option linter.unusedSimpArgs false
set_option linter.unusedVariables false
namespace Go.Proofs.Ytkejfocfmndogaa.Pj
open Go.RowKit Go.Ev Go.Proofs.Ytkejfocfmndogaa.Co

open Go.Proofs.Ytkejfocfmndogaa.Pa
open Go.Proofs.Ytkejfocfmndogaa.Pb
open Go.Proofs.Ytkejfocfmndogaa.Pc
open Go.Proofs.Ytkejfocfmndogaa.Ph
open Go.Proofs.Ytkejfocfmndogaa.Pr
open Go.Proofs.Ytkejfocfmndogaa.Ps
open Go.Proofs.Ytkejfocfmndogaa.Pu


def awakeC : CSpec := ⟨[], 0, [], [], .bool true, [], []⟩
set_option maxRecDepth 100000 in
theorem awakeC_y : endC awakeC [] 1000 (callW Try.prog F noAsk [] [] [] 8000 80 7 awakeC) = some [] := by kernel_rfl
theorem awakeC_holds : CHolds Try.prog 7 awakeC F := choldsW_of sound (tableNil _ _) (specsNil _ _) (oversNil _ _) (by kernel_rfl) fun d _ _ _ => ⟨noAsk, [], 1000, [], noAsk_ok _, awakeC_y, fun p hp => by cases hp⟩

def tabJ : List LEntry := []
def specsJ : List (FuncId × CSpec) := [(31, partC), (11, checkC), (32, splitY), (32, splitN), (33, rpC), (12, rcC), (33, rpD), (7, awakeC)]
def oversJ : Overs := []
theorem tabJ_ok : TableOK Try.prog tabJ F := tableNil _ _
theorem specsJ_ok : SpecsOK Try.prog specsJ F := specsCons partC_holds (specsCons checkC_holds (specsCons splitY_holds (specsCons splitN_holds (specsCons rpC_holds (specsCons rcC_holds (specsCons rpD_holds (specsCons awakeC_holds (specsNil _ _))))))))
theorem oversJ_ok : OversOK Try.prog oversJ F := oversNil _ _
end Go.Proofs.Ytkejfocfmndogaa.Pj
