/-
  Contracts of this seat: what loops and calls leave, for all inputs. No condition.
-/
import Derived.Test.YtdggadlobacalaaSycp
import Derived.Test.YtdggadlobacalaaCo
set_option linter.unusedSimpArgs false
set_option linter.unusedVariables false
namespace Go.Proofs.Ytdggadlobacalaa.Ca
open Go.RowKit Go.Ev Go.Proofs.Ytdggadlobacalaa.Co


def F : Nat → D → D
  | 30 => fun a => .int ((argD a 0).toInt % 64)
  | _ => fun x => x
theorem F30 (i : D) : F 30 (.list [i, .int 0]) = .int (i.toInt % 64) := rfl

def awakeC : CSpec := ⟨[], 0, [], [], .bool true, [], []⟩
set_option maxRecDepth 100000 in
theorem awakeC_y : endC awakeC [] 1000 (callW Try.prog F noAsk [] [] [] 8000 80 9 awakeC) = some [] := by kernel_rfl
theorem awakeC_holds : CHolds Try.prog 9 awakeC F := choldsW_of sound (tableNil _ _) (specsNil _ _) (oversNil _ _) (by kernel_rfl) fun d _ _ _ => ⟨noAsk, [], 1000, [], noAsk_ok _, awakeC_y, fun p hp => by cases hp⟩

def tab : List LEntry := []
def specs : List (FuncId × CSpec) := [(9, awakeC)]
def overs : Overs := []
theorem tab_ok : TableOK Try.prog tab F := tableNil _ _
theorem specs_ok : SpecsOK Try.prog specs F := specsCons awakeC_holds (specsNil _ _)
theorem overs_ok : OversOK Try.prog overs F := oversNil _ _
end Go.Proofs.Ytdggadlobacalaa.Ca
