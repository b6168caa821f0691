/-
  Contracts of this seat: what loops and calls leave, for all inputs. No condition.
-/
import Derived.Test.YtlmcjfcfmcdcpaaDoorSycp
import Derived.Test.YtlmcjfcfmcdcpaaDoorCo
import Derived.Test.YtlmcjfcfmcdcpaaDoorGa
import Derived.Test.YtlmcjfcfmcdcpaaDoorGm
import Derived.Test.YtlmcjfcfmcdcpaaDoorGx
import Derived.Test.YtlmcjfcfmcdcpaaDoorFl
import Derived.Test.YtlmcjfcfmcdcpaaDoorFa
import Derived.Test.YtlmcjfcfmcdcpaaDoorF2
import Derived.Test.YtlmcjfcfmcdcpaaDoorFb
import Derived.Test.YtlmcjfcfmcdcpaaDoorF3
import Derived.Test.YtlmcjfcfmcdcpaaDoorFc
import Derived.Test.YtlmcjfcfmcdcpaaDoorFd
import Derived.Test.YtlmcjfcfmcdcpaaDoorF5
import Derived.Test.YtlmcjfcfmcdcpaaDoorFp
import Derived.Test.YtlmcjfcfmcdcpaaDoorF6
import Derived.Test.YtlmcjfcfmcdcpaaDoorFu
import Derived.Test.YtlmcjfcfmcdcpaaDoorFv
set_option linter.unusedSimpArgs false
set_option linter.unusedVariables false
namespace Go.Proofs.YtlmcjfcfmcdcpaaDoor.Qv
open Go.RowKit Go.Ev Go.Proofs.YtlmcjfcfmcdcpaaDoor.Co

open Go.Proofs.YtlmcjfcfmcdcpaaDoor.Ga
open Go.Proofs.YtlmcjfcfmcdcpaaDoor.Gm
open Go.Proofs.YtlmcjfcfmcdcpaaDoor.Gx
open Go.Proofs.YtlmcjfcfmcdcpaaDoor.Fl
open Go.Proofs.YtlmcjfcfmcdcpaaDoor.Fa
open Go.Proofs.YtlmcjfcfmcdcpaaDoor.F2
open Go.Proofs.YtlmcjfcfmcdcpaaDoor.Fb
open Go.Proofs.YtlmcjfcfmcdcpaaDoor.F3
open Go.Proofs.YtlmcjfcfmcdcpaaDoor.Fc
open Go.Proofs.YtlmcjfcfmcdcpaaDoor.Fd
open Go.Proofs.YtlmcjfcfmcdcpaaDoor.F5
open Go.Proofs.YtlmcjfcfmcdcpaaDoor.Fp
open Go.Proofs.YtlmcjfcfmcdcpaaDoor.F6
open Go.Proofs.YtlmcjfcfmcdcpaaDoor.Fu
open Go.Proofs.YtlmcjfcfmcdcpaaDoor.Fv

def awakeC : CSpec := ⟨[], 0, [(0, .ext cellsG)], [], .bool true, [], []⟩
set_option maxRecDepth 100000 in
theorem awakeC_y : endC awakeC [] 1000 (callW Tryd.prog F noAsk [] [(52, tableC)] [] 8000 80 18 awakeC) = some [] := by kernel_rfl
theorem awakeC_holds : CHolds Tryd.prog 18 awakeC F := choldsW_of sound (tableNil _ _) (specsCons tableC_holds (specsNil _ _)) (oversNil _ _) (by kernel_rfl) fun d _ _ _ => ⟨noAsk, [], 1000, [], noAsk_ok _, awakeC_y, fun p hp => by cases hp⟩

def tabV : List LEntry := []
def specsV : List (FuncId × CSpec) := [(14, chkC), (14, chkCE), (14, chkCO), (25, gchkYO), (25, gchkNO), (19, readYO), (19, readNO), (19, readY), (19, readN), (11, putY), (11, putN), (11, putYE), (11, putNE), (11, putYO), (11, putNO), (18, awakeC)]
def oversV : Overs := []
theorem tabV_ok : TableOK Tryd.prog tabV F := tableNil _ _
theorem specsV_ok : SpecsOK Tryd.prog specsV F := specsCons chkC_holds (specsCons chkCE_holds (specsCons chkCO_holds (specsCons gchkYO_holds (specsCons gchkNO_holds (specsCons readYO_holds (specsCons readNO_holds (specsCons readY_holds (specsCons readN_holds (specsCons putY_holds (specsCons putN_holds (specsCons putYE_holds (specsCons putNE_holds (specsCons putYO_holds (specsCons putNO_holds (specsCons awakeC_holds (specsNil _ _))))))))))))))))
theorem oversV_ok : OversOK Tryd.prog oversV F := oversNil _ _
end Go.Proofs.YtlmcjfcfmcdcpaaDoor.Qv
