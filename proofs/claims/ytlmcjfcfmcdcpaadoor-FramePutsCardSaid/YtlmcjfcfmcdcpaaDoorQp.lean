/-
  Contracts of this seat: what loops and calls leave, for all inputs. No condition.
-/
import Derived.Test.YtlmcjfcfmcdcpaaDoorSycp
import Derived.Test.YtlmcjfcfmcdcpaaDoorCo
import Derived.Test.YtlmcjfcfmcdcpaaDoorGa
import Derived.Test.YtlmcjfcfmcdcpaaDoorG2
import Derived.Test.YtlmcjfcfmcdcpaaDoorGm
import Derived.Test.YtlmcjfcfmcdcpaaDoorFl
import Derived.Test.YtlmcjfcfmcdcpaaDoorFa
import Derived.Test.YtlmcjfcfmcdcpaaDoorF7
import Derived.Test.YtlmcjfcfmcdcpaaDoorFp
import Derived.Test.YtlmcjfcfmcdcpaaDoorF8
import Derived.Test.YtlmcjfcfmcdcpaaDoorFi
set_option linter.unusedSimpArgs false
set_option linter.unusedVariables false
namespace Go.Proofs.YtlmcjfcfmcdcpaaDoor.Qp
open Go.RowKit Go.Ev Go.Proofs.YtlmcjfcfmcdcpaaDoor.Co

open Go.Proofs.YtlmcjfcfmcdcpaaDoor.Ga
open Go.Proofs.YtlmcjfcfmcdcpaaDoor.G2
open Go.Proofs.YtlmcjfcfmcdcpaaDoor.Gm
open Go.Proofs.YtlmcjfcfmcdcpaaDoor.Fl
open Go.Proofs.YtlmcjfcfmcdcpaaDoor.Fa
open Go.Proofs.YtlmcjfcfmcdcpaaDoor.F7
open Go.Proofs.YtlmcjfcfmcdcpaaDoor.Fp
open Go.Proofs.YtlmcjfcfmcdcpaaDoor.F8
open Go.Proofs.YtlmcjfcfmcdcpaaDoor.Fi

def awakeC : CSpec := ⟨[], 0, [(0, .ext cellsG)], [], .bool true, [], []⟩
set_option maxRecDepth 100000 in
theorem awakeC_y : endC awakeC [] 1000 (callW Tryd.prog F noAsk [] [(52, tableC)] [] 8000 80 18 awakeC) = some [] := by kernel_rfl
theorem awakeC_holds : CHolds Tryd.prog 18 awakeC F := choldsW_of sound (tableNil _ _) (specsCons tableC_holds (specsNil _ _)) (oversNil _ _) (by kernel_rfl) fun d _ _ _ => ⟨noAsk, [], 1000, [], noAsk_ok _, awakeC_y, fun p hp => by cases hp⟩

def tabP : List LEntry := []
def specsP : List (FuncId × CSpec) := [(10, lentC), (17, keptC), (14, chkC), (14, chkCE), (15, rchkC), (15, rchkCE), (11, putY), (11, putN), (11, putYE), (11, putNE), (14, chkCL), (11, putYL), (11, putNL), (22, rlayC), (22, rlayCE), (18, awakeC)]
def oversP : Overs := [(16, 5, .u8)]
theorem tabP_ok : TableOK Tryd.prog tabP F := tableNil _ _
theorem specsP_ok : SpecsOK Tryd.prog specsP F := specsCons lentC_holds (specsCons keptC_holds (specsCons chkC_holds (specsCons chkCE_holds (specsCons rchkC_holds (specsCons rchkCE_holds (specsCons putY_holds (specsCons putN_holds (specsCons putYE_holds (specsCons putNE_holds (specsCons chkCL_holds (specsCons putYL_holds (specsCons putNL_holds (specsCons rlayC_holds (specsCons rlayCE_holds (specsCons awakeC_holds (specsNil _ _))))))))))))))))
theorem oversP_ok : OversOK Tryd.prog oversP F := oversCons overV_holds (oversNil _ _)
end Go.Proofs.YtlmcjfcfmcdcpaaDoor.Qp
