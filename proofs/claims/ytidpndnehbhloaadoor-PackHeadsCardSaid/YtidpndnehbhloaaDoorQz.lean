/-
 Contracts of this seat: what loops and calls leave, for all inputs. No condition.
-/
import Derived.Test.YtidpndnehbhloaaDoorSycp
import Derived.Test.YtidpndnehbhloaaDoorSyfm
import Derived.Test.YtidpndnehbhloaaDoorCo
import Derived.Test.YtidpndnehbhloaaDoorP0
import Derived.Test.YtidpndnehbhloaaDoorPa
import Derived.Test.YtidpndnehbhloaaDoorPm
import Derived.Test.YtidpndnehbhloaaDoorPl
import Derived.Test.YtidpndnehbhloaaDoorPu
import Derived.Test.YtidpndnehbhloaaDoorPq
import Derived.Test.YtidpndnehbhloaaDoorPgo
import Derived.Test.YtidpndnehbhloaaDoorPb
import Derived.Test.YtidpndnehbhloaaDoorPbo
import Derived.Test.YtidpndnehbhloaaDoorPso
import Derived.Test.YtidpndnehbhloaaDoorYa
import Derived.Test.YtidpndnehbhloaaDoorPw
set_option linter.unusedSimpArgs false
set_option linter.unusedVariables false
namespace Go.Proofs.YtidpndnehbhloaaDoor.Qz
open Go.RowKit Go.Ev Go.Proofs.YtidpndnehbhloaaDoor.Co

open Go.Proofs.YtidpndnehbhloaaDoor.P0
open Go.Proofs.YtidpndnehbhloaaDoor.Pa
open Go.Proofs.YtidpndnehbhloaaDoor.Pm
open Go.Proofs.YtidpndnehbhloaaDoor.Pl
open Go.Proofs.YtidpndnehbhloaaDoor.Pn
open Go.Proofs.YtidpndnehbhloaaDoor.Pt3
open Go.Proofs.YtidpndnehbhloaaDoor.Ps4
open Go.Proofs.YtidpndnehbhloaaDoor.Pu
open Go.Proofs.YtidpndnehbhloaaDoor.Puo
open Go.Proofs.YtidpndnehbhloaaDoor.Pq
open Go.Proofs.YtidpndnehbhloaaDoor.Pqo
open Go.Proofs.YtidpndnehbhloaaDoor.Pgo
open Go.Proofs.YtidpndnehbhloaaDoor.Pb
open Go.Proofs.YtidpndnehbhloaaDoor.Pbo
open Go.Proofs.YtidpndnehbhloaaDoor.Pso
open Go.Proofs.YtidpndnehbhloaaDoor.Pco
open Go.Proofs.YtidpndnehbhloaaDoor.Pdo
open Go.Proofs.YtidpndnehbhloaaDoor.Pto
open Go.Proofs.YtidpndnehbhloaaDoor.Yl
open Go.Proofs.YtidpndnehbhloaaDoor.Ya
open Go.Proofs.YtidpndnehbhloaaDoor.Yc
open Go.Proofs.YtidpndnehbhloaaDoor.Ys
open Go.Proofs.YtidpndnehbhloaaDoor.Yp
open Go.Proofs.YtidpndnehbhloaaDoor.Pw


def tabS : List LEntry := []
def specsS : List (FuncId × CSpec) := [(19, scNRo), (19, scVRo), (9, getMO), (7, allA), (7, allB), (7, allC), (7, allE), (7, allY), (20, sameH), (12, pickC), (13, awakeC)]
def oversS : Overs := []
theorem tabS_ok : TableOK Tryd.prog tabS F := tableNil _ _
theorem specsS_ok : SpecsOK Tryd.prog specsS F := specsCons scNRo_holds (specsCons scVRo_holds (specsCons getMO_holds (specsCons allA_holds (specsCons allB_holds (specsCons allC_holds (specsCons allE_holds (specsCons allY_holds (specsCons sameH_holds (specsCons pickC_holds (specsCons awakeC_holds (specsNil _ _)))))))))))
theorem oversS_ok : OversOK Tryd.prog oversS F := oversNil _ _
end Go.Proofs.YtidpndnehbhloaaDoor.Qz
