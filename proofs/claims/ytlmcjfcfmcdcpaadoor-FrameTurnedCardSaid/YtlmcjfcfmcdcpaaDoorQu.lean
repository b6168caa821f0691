/-
  Contracts of this seat: what loops and calls leave, for all inputs. No condition.
-/
import Derived.Test.YtlmcjfcfmcdcpaaDoorSycp
import Derived.Test.YtlmcjfcfmcdcpaaDoorCo
import Derived.Test.YtlmcjfcfmcdcpaaDoorGa
import Derived.Test.YtlmcjfcfmcdcpaaDoorGm
import Derived.Test.YtlmcjfcfmcdcpaaDoorGx
import Derived.Test.YtlmcjfcfmcdcpaaDoorFl
import Derived.Test.YtlmcjfcfmcdcpaaDoorFa
import Derived.Test.YtlmcjfcfmcdcpaaDoorFb
import Derived.Test.YtlmcjfcfmcdcpaaDoorFc
import Derived.Test.YtlmcjfcfmcdcpaaDoorFd
import Derived.Test.YtlmcjfcfmcdcpaaDoorFp
import Derived.Test.YtlmcjfcfmcdcpaaDoorFu
set_option linter.unusedSimpArgs false
set_option linter.unusedVariables false
namespace Go.Proofs.YtlmcjfcfmcdcpaaDoor.Qu
open Go.RowKit Go.Ev Go.Proofs.YtlmcjfcfmcdcpaaDoor.Co

open Go.Proofs.YtlmcjfcfmcdcpaaDoor.Ga
open Go.Proofs.YtlmcjfcfmcdcpaaDoor.Gm
open Go.Proofs.YtlmcjfcfmcdcpaaDoor.Gx
open Go.Proofs.YtlmcjfcfmcdcpaaDoor.Fl
open Go.Proofs.YtlmcjfcfmcdcpaaDoor.Fa
open Go.Proofs.YtlmcjfcfmcdcpaaDoor.Fb
open Go.Proofs.YtlmcjfcfmcdcpaaDoor.Fc
open Go.Proofs.YtlmcjfcfmcdcpaaDoor.Fd
open Go.Proofs.YtlmcjfcfmcdcpaaDoor.Fp
open Go.Proofs.YtlmcjfcfmcdcpaaDoor.Fu

def awakeC : CSpec := ⟨[], 0, [(0, .ext cellsG)], [], .bool true, [], []⟩
set_option maxRecDepth 100000 in
theorem awakeC_y : endC awakeC [] 1000 (callW Tryd.prog F noAsk [] [(52, tableC)] [] 8000 80 18 awakeC) = some [] := by kernel_rfl
theorem awakeC_holds : CHolds Tryd.prog 18 awakeC F := choldsW_of sound (tableNil _ _) (specsCons tableC_holds (specsNil _ _)) (oversNil _ _) (by kernel_rfl) fun d _ _ _ => ⟨noAsk, [], 1000, [], noAsk_ok _, awakeC_y, fun p hp => by cases hp⟩

def tabU : List LEntry := [⟨7, [4, 1, 0, 1, 1, 1, 1, 1, 1], flipL⟩]
def specsU : List (FuncId × CSpec) := [(23, pickC), (14, chkC), (14, chkCE), (19, readYO), (19, readNO), (11, putY), (11, putN), (11, putYE), (11, putNE), (18, awakeC)]
def oversU : Overs := []
theorem tabU_ok : TableOK Tryd.prog tabU F := tableCons flipL_holds (tableNil _ _)
theorem specsU_ok : SpecsOK Tryd.prog specsU F := specsCons pickC_holds (specsCons chkC_holds (specsCons chkCE_holds (specsCons readYO_holds (specsCons readNO_holds (specsCons putY_holds (specsCons putN_holds (specsCons putYE_holds (specsCons putNE_holds (specsCons awakeC_holds (specsNil _ _))))))))))
theorem oversU_ok : OversOK Tryd.prog oversU F := oversNil _ _
end Go.Proofs.YtlmcjfcfmcdcpaaDoor.Qu
