/-
  Contracts of this seat: what loops and calls leave, for all inputs. No condition.
-/
import Derived.Test.YtlmcjfcfmcdcpaaDoorSycp
import Derived.Test.YtlmcjfcfmcdcpaaDoorCo
import Derived.Test.YtlmcjfcfmcdcpaaDoorGa
import Derived.Test.YtlmcjfcfmcdcpaaDoorG2
import Derived.Test.YtlmcjfcfmcdcpaaDoorGm
import Derived.Test.YtlmcjfcfmcdcpaaDoorFl
import Derived.Test.YtlmcjfcfmcdcpaaDoorFb
import Derived.Test.YtlmcjfcfmcdcpaaDoorFc
import Derived.Test.YtlmcjfcfmcdcpaaDoorFd
import Derived.Test.YtlmcjfcfmcdcpaaDoorF9
import Derived.Test.YtlmcjfcfmcdcpaaDoorF4
import Derived.Test.YtlmcjfcfmcdcpaaDoorFi
import Derived.Test.YtlmcjfcfmcdcpaaDoorFo
set_option linter.unusedSimpArgs false
set_option linter.unusedVariables false
namespace Go.Proofs.YtlmcjfcfmcdcpaaDoor.Qg
open Go.RowKit Go.Ev Go.Proofs.YtlmcjfcfmcdcpaaDoor.Co

open Go.Proofs.YtlmcjfcfmcdcpaaDoor.Ga
open Go.Proofs.YtlmcjfcfmcdcpaaDoor.G2
open Go.Proofs.YtlmcjfcfmcdcpaaDoor.Gm
open Go.Proofs.YtlmcjfcfmcdcpaaDoor.Fl
open Go.Proofs.YtlmcjfcfmcdcpaaDoor.Fb
open Go.Proofs.YtlmcjfcfmcdcpaaDoor.Fc
open Go.Proofs.YtlmcjfcfmcdcpaaDoor.Fd
open Go.Proofs.YtlmcjfcfmcdcpaaDoor.F9
open Go.Proofs.YtlmcjfcfmcdcpaaDoor.F4
open Go.Proofs.YtlmcjfcfmcdcpaaDoor.Fi
open Go.Proofs.YtlmcjfcfmcdcpaaDoor.Fo

def awakeC : CSpec := ⟨[], 0, [(0, .ext cellsG)], [], .bool true, [], []⟩
set_option maxRecDepth 100000 in
theorem awakeC_y : endC awakeC [] 1000 (callW Tryd.prog F noAsk [] [(52, tableC)] [] 8000 80 18 awakeC) = some [] := by kernel_rfl
theorem awakeC_holds : CHolds Tryd.prog 18 awakeC F := choldsW_of sound (tableNil _ _) (specsCons tableC_holds (specsNil _ _)) (oversNil _ _) (by kernel_rfl) fun d _ _ _ => ⟨noAsk, [], 1000, [], noAsk_ok _, awakeC_y, fun p hp => by cases hp⟩

def tabG : List LEntry := []
def specsG : List (FuncId × CSpec) := [(23, pickC), (42, rputC), (42, rputCO), (19, readYO), (19, readNO), (22, rlayC), (22, rlayCE), (20, rreadYO), (20, rreadNO), (18, awakeC)]
def oversG : Overs := []
theorem tabG_ok : TableOK Tryd.prog tabG F := tableNil _ _
theorem specsG_ok : SpecsOK Tryd.prog specsG F := specsCons pickC_holds (specsCons rputC_holds (specsCons rputCO_holds (specsCons readYO_holds (specsCons readNO_holds (specsCons rlayC_holds (specsCons rlayCE_holds (specsCons rreadYO_holds (specsCons rreadNO_holds (specsCons awakeC_holds (specsNil _ _))))))))))
theorem oversG_ok : OversOK Tryd.prog oversG F := oversNil _ _
end Go.Proofs.YtlmcjfcfmcdcpaaDoor.Qg
