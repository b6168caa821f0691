/-
  Contracts of this seat: what loops and calls leave, for all inputs. No condition.
-/
import Derived.Test.YtlmcjfcfmcdcpaaDoorSycp
import Derived.Test.YtlmcjfcfmcdcpaaDoorCo
import Derived.Test.YtlmcjfcfmcdcpaaDoorGa
import Derived.Test.YtlmcjfcfmcdcpaaDoorG2
import Derived.Test.YtlmcjfcfmcdcpaaDoorGm
import Derived.Test.YtlmcjfcfmcdcpaaDoorFl
import Derived.Test.YtlmcjfcfmcdcpaaDoorFb
import Derived.Test.YtlmcjfcfmcdcpaaDoorF3
import Derived.Test.YtlmcjfcfmcdcpaaDoorFc
import Derived.Test.YtlmcjfcfmcdcpaaDoorF5
import Derived.Test.YtlmcjfcfmcdcpaaDoorF9
import Derived.Test.YtlmcjfcfmcdcpaaDoorF4
import Derived.Test.YtlmcjfcfmcdcpaaDoorFr
set_option linter.unusedSimpArgs false
set_option linter.unusedVariables false
namespace Go.Proofs.YtlmcjfcfmcdcpaaDoor.Qr
open Go.RowKit Go.Ev Go.Proofs.YtlmcjfcfmcdcpaaDoor.Co

open Go.Proofs.YtlmcjfcfmcdcpaaDoor.Ga
open Go.Proofs.YtlmcjfcfmcdcpaaDoor.G2
open Go.Proofs.YtlmcjfcfmcdcpaaDoor.Gm
open Go.Proofs.YtlmcjfcfmcdcpaaDoor.Fl
open Go.Proofs.YtlmcjfcfmcdcpaaDoor.Fb
open Go.Proofs.YtlmcjfcfmcdcpaaDoor.F3
open Go.Proofs.YtlmcjfcfmcdcpaaDoor.Fc
open Go.Proofs.YtlmcjfcfmcdcpaaDoor.F5
open Go.Proofs.YtlmcjfcfmcdcpaaDoor.F9
open Go.Proofs.YtlmcjfcfmcdcpaaDoor.F4
open Go.Proofs.YtlmcjfcfmcdcpaaDoor.Fr

def awakeC : CSpec := ⟨[], 0, [(0, .ext cellsG)], [], .bool true, [], []⟩
set_option maxRecDepth 100000 in
theorem awakeC_y : endC awakeC [] 1000 (callW Tryd.prog F noAsk [] [(52, tableC)] [] 8000 80 18 awakeC) = some [] := by kernel_rfl
theorem awakeC_holds : CHolds Tryd.prog 18 awakeC F := choldsW_of sound (tableNil _ _) (specsCons tableC_holds (specsNil _ _)) (oversNil _ _) (by kernel_rfl) fun d _ _ _ => ⟨noAsk, [], 1000, [], noAsk_ok _, awakeC_y, fun p hp => by cases hp⟩

def tabR : List LEntry := []
def specsR : List (FuncId × CSpec) := [(10, lentC), (17, keptC), (19, readY), (19, readN), (20, rreadY), (20, rreadN), (18, awakeC)]
def oversR : Overs := [(16, 5, .u8)]
theorem tabR_ok : TableOK Tryd.prog tabR F := tableNil _ _
theorem specsR_ok : SpecsOK Tryd.prog specsR F := specsCons lentC_holds (specsCons keptC_holds (specsCons readY_holds (specsCons readN_holds (specsCons rreadY_holds (specsCons rreadN_holds (specsCons awakeC_holds (specsNil _ _)))))))
theorem oversR_ok : OversOK Tryd.prog oversR F := oversCons overV_holds (oversNil _ _)
end Go.Proofs.YtlmcjfcfmcdcpaaDoor.Qr
