/-
 Contracts of this seat: what loops and calls leave, for all inputs. No condition.
-/
import Derived.Test.YtkejfocfmndogaaSycp
import Derived.Test.YtkejfocfmndogaaSyfm
import Derived.Test.YtkejfocfmndogaaCo
import Derived.Test.YtkejfocfmndogaaPa
import Derived.Test.YtkejfocfmndogaaPb
import Derived.Test.YtkejfocfmndogaaPc
import Derived.Test.YtkejfocfmndogaaPd
import Derived.Test.YtkejfocfmndogaaPe
import Derived.Test.YtkejfocfmndogaaPf
import Derived.Test.YtkejfocfmndogaaPh
import Derived.Test.YtkejfocfmndogaaPr
import Derived.Test.YtkejfocfmndogaaPs
import Derived.Test.YtkejfocfmndogaaPt
set_option linter.unusedSimpArgs false
set_option linter.unusedVariables false
namespace Go.Proofs.Ytkejfocfmndogaa.Pw
open Go.RowKit Go.Ev Go.Proofs.Ytkejfocfmndogaa.Co

open Go.Proofs.Ytkejfocfmndogaa.Pa
open Go.Proofs.Ytkejfocfmndogaa.Pb
open Go.Proofs.Ytkejfocfmndogaa.Pc
open Go.Proofs.Ytkejfocfmndogaa.Pd
open Go.Proofs.Ytkejfocfmndogaa.Pe
open Go.Proofs.Ytkejfocfmndogaa.Pf
open Go.Proofs.Ytkejfocfmndogaa.Ph
open Go.Proofs.Ytkejfocfmndogaa.Pr
open Go.Proofs.Ytkejfocfmndogaa.Ps
open Go.Proofs.Ytkejfocfmndogaa.Pt


def tabC : List LEntry := []
def specsC : List (FuncId × CSpec) := [(18, pathC), (20, undY), (20, undN), (7, awakeC), (19, rcmpC), (21, rundY), (21, rundN)]
def oversC : Overs := []
theorem tabC_ok : TableOK Try.prog tabC F := tableNil _ _
theorem specsC_ok : SpecsOK Try.prog specsC F := specsCons pathC_holds (specsCons undY_holds (specsCons undN_holds (specsCons awakeC_holds (specsCons rcmpC_holds (specsCons rundY_holds (specsCons rundN_holds (specsNil _ _)))))))
theorem oversC_ok : OversOK Try.prog oversC F := oversNil _ _
end Go.Proofs.Ytkejfocfmndogaa.Pw
