/-
 Contracts of this seat: what loops and calls leave, for all inputs. No condition.
-/
import Derived.Test.YtidjfojcifjdjaaDoorSycp
import Derived.Test.YtidjfojcifjdjaaDoorCo
import Derived.Test.YtidjfojcifjdjaaDoorP0
import Derived.Test.YtidjfojcifjdjaaDoorPa
import Derived.Test.YtidjfojcifjdjaaDoorPm
import Derived.Test.YtidjfojcifjdjaaDoorPl
import Derived.Test.YtidjfojcifjdjaaDoorPu
import Derived.Test.YtidjfojcifjdjaaDoorPq
import Derived.Test.YtidjfojcifjdjaaDoorPb
import Derived.Test.YtidjfojcifjdjaaDoorPd
import Derived.Test.YtidjfojcifjdjaaDoorPh
import Derived.Test.YtidjfojcifjdjaaDoorPho
import Derived.Test.YtidjfojcifjdjaaDoorPr
import Derived.Test.YtidjfojcifjdjaaDoorPc
import Derived.Test.YtidjfojcifjdjaaDoorPe
import Derived.Test.YtidjfojcifjdjaaDoorPw
set_option linter.unusedSimpArgs false
set_option linter.unusedVariables false
namespace Go.Proofs.YtidjfojcifjdjaaDoor.Qp
open Go.RowKit Go.Ev Go.Proofs.YtidjfojcifjdjaaDoor.Co

open Go.Proofs.YtidjfojcifjdjaaDoor.P0
open Go.Proofs.YtidjfojcifjdjaaDoor.Pa
open Go.Proofs.YtidjfojcifjdjaaDoor.Pm
open Go.Proofs.YtidjfojcifjdjaaDoor.Pl
open Go.Proofs.YtidjfojcifjdjaaDoor.Pn
open Go.Proofs.YtidjfojcifjdjaaDoor.Pu
open Go.Proofs.YtidjfojcifjdjaaDoor.Pud
open Go.Proofs.YtidjfojcifjdjaaDoor.Pq
open Go.Proofs.YtidjfojcifjdjaaDoor.Pqd
open Go.Proofs.YtidjfojcifjdjaaDoor.Pb
open Go.Proofs.YtidjfojcifjdjaaDoor.Pd
open Go.Proofs.YtidjfojcifjdjaaDoor.Ph
open Go.Proofs.YtidjfojcifjdjaaDoor.Pho
open Go.Proofs.YtidjfojcifjdjaaDoor.Pr
open Go.Proofs.YtidjfojcifjdjaaDoor.Pc
open Go.Proofs.YtidjfojcifjdjaaDoor.Pe
open Go.Proofs.YtidjfojcifjdjaaDoor.Pw


def tabS : List LEntry := []
def specsS : List (FuncId × CSpec) := [(12, putP), (11, lentC), (18, keptC), (13, rputP), (10, awakeC)]
def oversS : Overs := [(17, .over 5 .u8)]
theorem tabS_ok : TableOK Tryd.prog tabS F := tableNil _ _
theorem specsS_ok : SpecsOK Tryd.prog specsS F := specsCons putP_holds (specsCons lentC_holds (specsCons keptC_holds (specsCons rputP_holds (specsCons awakeC_holds (specsNil _ _)))))
theorem oversS_ok : OversOK Tryd.prog oversS F := oversCons overV_holds (oversNil _ _)
end Go.Proofs.YtidjfojcifjdjaaDoor.Qp
