/-
 Contracts of this seat: what loops and calls leave, for all inputs. No condition.
-/
import Derived.Test.YtidjfojcifjdjaaDoorSycp
import Derived.Test.YtidjfojcifjdjaaDoorSyfm
import Derived.Test.YtidjfojcifjdjaaDoorCo
import Derived.Test.YtidjfojcifjdjaaDoorP0
import Derived.Test.YtidjfojcifjdjaaDoorPa
import Derived.Test.YtidjfojcifjdjaaDoorPm
import Derived.Test.YtidjfojcifjdjaaDoorPl
import Derived.Test.YtidjfojcifjdjaaDoorPu
import Derived.Test.YtidjfojcifjdjaaDoorPq
import Derived.Test.YtidjfojcifjdjaaDoorPg
import Derived.Test.YtidjfojcifjdjaaDoorPb
import Derived.Test.YtidjfojcifjdjaaDoorPb2
import Derived.Test.YtidjfojcifjdjaaDoorPs
import Derived.Test.YtidjfojcifjdjaaDoorPt2
import Derived.Test.YtidjfojcifjdjaaDoorPh1
import Derived.Test.YtidjfojcifjdjaaDoorPw
set_option linter.unusedSimpArgs false
set_option linter.unusedVariables false
namespace Go.Proofs.YtidjfojcifjdjaaDoor.Qh
open Go.RowKit Go.Ev Go.Proofs.YtidjfojcifjdjaaDoor.Co

open Go.Proofs.YtidjfojcifjdjaaDoor.P0
open Go.Proofs.YtidjfojcifjdjaaDoor.Pa
open Go.Proofs.YtidjfojcifjdjaaDoor.Pm
open Go.Proofs.YtidjfojcifjdjaaDoor.Pl
open Go.Proofs.YtidjfojcifjdjaaDoor.Pn
open Go.Proofs.YtidjfojcifjdjaaDoor.Pt3
open Go.Proofs.YtidjfojcifjdjaaDoor.Pu
open Go.Proofs.YtidjfojcifjdjaaDoor.Puo
open Go.Proofs.YtidjfojcifjdjaaDoor.Pq
open Go.Proofs.YtidjfojcifjdjaaDoor.Pqo
open Go.Proofs.YtidjfojcifjdjaaDoor.Pg
open Go.Proofs.YtidjfojcifjdjaaDoor.Pb
open Go.Proofs.YtidjfojcifjdjaaDoor.Pb2
open Go.Proofs.YtidjfojcifjdjaaDoor.Ps4
open Go.Proofs.YtidjfojcifjdjaaDoor.Ps
open Go.Proofs.YtidjfojcifjdjaaDoor.Pc4
open Go.Proofs.YtidjfojcifjdjaaDoor.Pt2
open Go.Proofs.YtidjfojcifjdjaaDoor.Ph1
open Go.Proofs.YtidjfojcifjdjaaDoor.Pw


def tabS : List LEntry := [⟨9, [4, 1, 0, 1, 1, 1, 1, 1], honL⟩]
def specsS : List (FuncId × CSpec) := [(19, scNW), (19, scVW), (19, scNR), (19, scVR), (10, awakeC)]
def oversS : Overs := []
theorem tabS_ok : TableOK Tryd.prog tabS F := tableCons honL_holds (tableNil _ _)
theorem specsS_ok : SpecsOK Tryd.prog specsS F := specsCons scNW_holds (specsCons scVW_holds (specsCons scNR_holds (specsCons scVR_holds (specsCons awakeC_holds (specsNil _ _)))))
theorem oversS_ok : OversOK Tryd.prog oversS F := oversNil _ _
end Go.Proofs.YtidjfojcifjdjaaDoor.Qh
