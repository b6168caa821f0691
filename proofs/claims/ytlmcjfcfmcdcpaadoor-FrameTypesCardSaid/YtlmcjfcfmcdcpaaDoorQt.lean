/-
  Contracts of this seat: what loops and calls leave, for all inputs. No condition.
-/
import Derived.Test.YtlmcjfcfmcdcpaaDoorSycp
import Derived.Test.YtlmcjfcfmcdcpaaDoorCo
import Derived.Test.YtlmcjfcfmcdcpaaDoorGa
import Derived.Test.YtlmcjfcfmcdcpaaDoorFa
set_option linter.unusedSimpArgs false
set_option linter.unusedVariables false
namespace Go.Proofs.YtlmcjfcfmcdcpaaDoor.Qt
open Go.RowKit Go.Ev Go.Proofs.YtlmcjfcfmcdcpaaDoor.Co

open Go.Proofs.YtlmcjfcfmcdcpaaDoor.Ga
open Go.Proofs.YtlmcjfcfmcdcpaaDoor.Fa

def awakeC : CSpec := ⟨[], 0, [(0, .ext cellsG)], [], .bool true, [], []⟩
set_option maxRecDepth 100000 in
theorem awakeC_y : endC awakeC [] 1000 (callW Tryd.prog F noAsk [] [(52, tableC)] [] 8000 80 18 awakeC) = some [] := by kernel_rfl
theorem awakeC_holds : CHolds Tryd.prog 18 awakeC F := choldsW_of sound (tableNil _ _) (specsCons tableC_holds (specsNil _ _)) (oversNil _ _) (by kernel_rfl) fun d _ _ _ => ⟨noAsk, [], 1000, [], noAsk_ok _, awakeC_y, fun p hp => by cases hp⟩

def tabT : List LEntry := []
def specsT : List (FuncId × CSpec) := [(14, chkC), (14, chkCE), (18, awakeC)]
def oversT : Overs := []
theorem tabT_ok : TableOK Tryd.prog tabT F := tableNil _ _
theorem specsT_ok : SpecsOK Tryd.prog specsT F := specsCons chkC_holds (specsCons chkCE_holds (specsCons awakeC_holds (specsNil _ _)))
theorem oversT_ok : OversOK Tryd.prog oversT F := oversNil _ _
end Go.Proofs.YtlmcjfcfmcdcpaaDoor.Qt
