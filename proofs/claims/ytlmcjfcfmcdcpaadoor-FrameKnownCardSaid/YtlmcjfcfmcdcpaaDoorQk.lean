/-
  Contracts of this seat: what loops and calls leave, for all inputs. No condition.
-/
import Derived.Test.YtlmcjfcfmcdcpaaDoorSycp
import Derived.Test.YtlmcjfcfmcdcpaaDoorCo
import Derived.Test.YtlmcjfcfmcdcpaaDoorKa
import Derived.Test.YtlmcjfcfmcdcpaaDoorKm
import Derived.Test.YtlmcjfcfmcdcpaaDoorKx
import Derived.Test.YtlmcjfcfmcdcpaaDoorKf
import Derived.Test.YtlmcjfcfmcdcpaaDoorKl
import Derived.Test.YtlmcjfcfmcdcpaaDoorKb
import Derived.Test.YtlmcjfcfmcdcpaaDoorK3
set_option linter.unusedSimpArgs false
set_option linter.unusedVariables false
namespace Go.Proofs.YtlmcjfcfmcdcpaaDoor.Qk
open Go.RowKit Go.Ev Go.Proofs.YtlmcjfcfmcdcpaaDoor.Co

open Go.Proofs.YtlmcjfcfmcdcpaaDoor.Ka
open Go.Proofs.YtlmcjfcfmcdcpaaDoor.Km
open Go.Proofs.YtlmcjfcfmcdcpaaDoor.Kx
open Go.Proofs.YtlmcjfcfmcdcpaaDoor.Kf
open Go.Proofs.YtlmcjfcfmcdcpaaDoor.Kl
open Go.Proofs.YtlmcjfcfmcdcpaaDoor.Kb
open Go.Proofs.YtlmcjfcfmcdcpaaDoor.K3

def tabK : List LEntry := []
def specsK : List (FuncId × CSpec) := [(52, tableC), (50, moreC), (50, moreCO), (29, putC), (29, putCO), (25, gchkYO), (25, gchkNO), (25, gchkY), (25, gchkN)]
def oversK : Overs := []
theorem tabK_ok : TableOK Tryd.prog tabK F := tableNil _ _
theorem specsK_ok : SpecsOK Tryd.prog specsK F := specsCons tableC_holds (specsCons moreC_holds (specsCons moreCO_holds (specsCons putC_holds (specsCons putCO_holds (specsCons gchkYO_holds (specsCons gchkNO_holds (specsCons gchkY_holds (specsCons gchkN_holds (specsNil _ _)))))))))
theorem oversK_ok : OversOK Tryd.prog oversK F := oversNil _ _
end Go.Proofs.YtlmcjfcfmcdcpaaDoor.Qk
