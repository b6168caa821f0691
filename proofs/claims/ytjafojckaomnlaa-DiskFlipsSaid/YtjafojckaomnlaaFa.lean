/-
 Contracts of this seat: what loops and calls leave, for all inputs. No condition.
-/
import Derived.Test.YtjafojckaomnlaaSycp
import Derived.Test.YtjafojckaomnlaaCo
import Derived.Test.YtjafojckaomnlaaShelf
set_option linter.unusedSimpArgs false
set_option linter.unusedVariables false
namespace Go.Proofs.Ytjafojckaomnlaa.Fa
open Go.RowKit Go.Ev Go.Proofs.Ytjafojckaomnlaa.Co


def F : Nat → D → D
 | 7 => fun a => .int ((argD a 0).toInt % (argD a 1).toInt)
 | 98 => fun a => a
 | _ => fun x => x
theorem F7 (x n : D) : F 7 (.list [x, .list [n, .int 0]]) = .int (x.toInt % n.toInt) := rfl

theorem cloneL_holds : LibHolds Try.prog 53 (.clone) := fun s w h => Try.stringslite_Clone s w h

theorem keysL0_holds : LibHolds Try.prog 40 (.keys 56 9) := ⟨Try.underlying9, fun bx b nn D0 R W h1 h2 h3 h4 h5 => Try.keys40_56 bx b nn D0 R W h1 h2 h3 h4 h5⟩

def awakeC : CSpec := ⟨[], 0, [], [], .bool true, [], []⟩
set_option maxRecDepth 100000 in
theorem awakeC_y : endC awakeC [] 1000 (callW Try.prog F noAsk [] [] [(53, .lib (.clone)), (40, .lib (.keys 56 9))] 8000 80 17 awakeC) = some [] := by kernel_rfl
theorem awakeC_holds : CHolds Try.prog 17 awakeC F := choldsW_of sound (tableNil _ _) (specsNil _ _) (oversLib cloneL_holds (oversLib keysL0_holds (oversNil _ _))) (by kernel_rfl) fun d _ _ _ => ⟨noAsk, [], 1000, [], noAsk_ok _, awakeC_y, fun p hp => by cases hp⟩

def pickC : CSpec := { args := [.sint .i64 (.var 0), .sint .i64 (.var 1)], next := 0, rows := [], pre := [(.le (.int 1) (.var 1), true)], res := .sint .i64 (.fn 7 (argsE [.var 0, .var 1])), frows := [], same := [] }
abbrev as0 : Q × Bool := ((.le (.int 1) (.var 1)), true)
abbrev as1 : Q × Bool := ((.eq (.var 1) (.int 0)), false)
abbrev as2 : Q × Bool := ((.le (.int 0) (.bi (.iop .rem .i64) (.var 0) (.var 1))), true)
def pickC_t0 : List (Q × Bool) := [as0, as1, as2]
def pickC_d0 : List Duty := [(true, (.bi (.iop .rem .i64) (.var 0) (.var 1)), (.fn 7 (.bi .pair (.var 0) (.bi .pair (.var 1) (.int 0)))))]
theorem pickC_y0 : endC pickC [] 1000 (callC Try.prog (tellA pickC_t0) [] [] [] 3000 40 15 pickC) = some pickC_d0 := by kernel_rfl
abbrev as3 : Q × Bool := ((.le (.int 0) (.bi (.iop .rem .i64) (.var 0) (.var 1))), false)
abbrev as4 : Q × Bool := ((.fit .i64 (.bi .add (.bi (.iop .rem .i64) (.var 0) (.var 1)) (.var 1))), true)
def pickC_t1 : List (Q × Bool) := [as0, as1, as3, as4]
def pickC_d1 : List Duty := [(true, (.bi .add (.bi (.iop .rem .i64) (.var 0) (.var 1)) (.var 1)), (.fn 7 (.bi .pair (.var 0) (.bi .pair (.var 1) (.int 0)))))]
theorem pickC_y1 : endC pickC [] 1000 (callC Try.prog (tellA pickC_t1) [] [] [] 3000 40 15 pickC) = some pickC_d1 := by kernel_rfl
theorem pickC_holds : CHolds Try.prog 15 pickC F := by
 refine cholds_of sound (tableNil _ _) (specsNil _ _) (oversNil _ _) (fuel := 3000) (depth := 40) (by kernel_rfl) fun d hp hR hA => ?_
 have hp := allTold'_iff.2 hp
 simp only [pickC, tl] at hp hR hA
 have e1 := emod_in (x := (d 0).toInt) (n := (d 1).toInt) (by omega)
 have e2 := tmod_or .i64 (x := (d 0).toInt) (n := (d 1).toInt) (by omega)
 by_cases h : 0 ≤ iopI .rem .i64 (d 0).toInt (d 1).toInt
 ·refine ⟨tellA pickC_t0, _, _, _, tellA_ok (allTold'_iff.1 ?_), pickC_y0, dutiesTold_ok ?_⟩
  ·simp only [pickC_t0, tl]
   omega
  ·simp only [pickC_d0, F7, tl]
   omega
 ·refine ⟨tellA pickC_t1, _, _, _, tellA_ok (allTold'_iff.1 ?_), pickC_y1, dutiesTold_ok ?_⟩
  ·simp only [pickC_t1, tl]
   omega
  ·simp only [pickC_d1, F7, tl]
   omega

def tab : List LEntry := []
def specs : List (FuncId × CSpec) := [(17, awakeC), (15, pickC)]
def overs : Overs := [(53, .lib (.clone)), (40, .lib (.keys 56 9))]
theorem tab_ok : TableOK Try.prog tab F := tableNil _ _
theorem specs_ok : SpecsOK Try.prog specs F := specsCons awakeC_holds (specsCons pickC_holds (specsNil _ _))
theorem overs_ok : OversOK Try.prog overs F := oversLib cloneL_holds (oversLib keysL0_holds (oversNil _ _))
end Go.Proofs.Ytjafojckaomnlaa.Fa
