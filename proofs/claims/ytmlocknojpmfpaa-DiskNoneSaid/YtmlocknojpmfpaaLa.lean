/-
 Contracts of this seat: what loops and calls leave, for all inputs. No condition.
-/
import Derived.Test.YtmlocknojpmfpaaSycp
import Derived.Test.YtmlocknojpmfpaaCo
import Derived.Test.YtmlocknojpmfpaaShelf
set_option linter.unusedSimpArgs false
set_option linter.unusedVariables false
namespace Go.Proofs.Ytmlocknojpmfpaa.La
open Go.RowKit Go.Ev Go.Proofs.Ytmlocknojpmfpaa.Co


def F : Nat → D → D
 | _ => fun x => x

theorem cloneL_holds : LibHolds Try.prog 64 (.clone) := fun s w h => Try.stringslite_Clone s w h

theorem keysL0_holds : LibHolds Try.prog 35 (.keys 58 9) := ⟨Try.underlying9, fun bx b nn D0 R W h1 h2 h3 h4 h5 => Try.keys35_58 bx b nn D0 R W h1 h2 h3 h4 h5⟩

def awakeC : CSpec := ⟨[], 0, [], [], .bool true, [], []⟩
set_option maxRecDepth 100000 in
theorem awakeC_y : endC awakeC [] 1000 (callW Try.prog F noAsk [] [] [(64, .lib (.clone)), (35, .lib (.keys 58 9))] 8000 80 9 awakeC) = some [] := by kernel_rfl
theorem awakeC_holds : CHolds Try.prog 9 awakeC F := choldsW_of sound (tableNil _ _) (specsNil _ _) (oversLib cloneL_holds (oversLib keysL0_holds (oversNil _ _))) (by kernel_rfl) fun d _ _ _ => ⟨noAsk, [], 1000, [], noAsk_ok _, awakeC_y, fun p hp => by cases hp⟩

def doesN : CSpec := { args := [.nilptr, .agg [.sint .i64 (.var 0), .any, .any, .any, .any, .any], .any], next := 0, rows := [], pre := [], res := .int .i64 1, frows := [], same := [] }
abbrev as0 : Q × Bool := ((.eq (.var 0) (.int 3)), true)
def doesN_t0 : List (Q × Bool) := [as0]
def doesN_d0 : List Duty := []
theorem doesN_y0 : endC doesN [] 1000 (callC Try.prog (tellA doesN_t0) [] [] [] 3000 40 11 doesN) = some doesN_d0 := by kernel_rfl
abbrev as1 : Q × Bool := ((.eq (.var 0) (.int 3)), false)
abbrev as2 : Q × Bool := ((.eq (.var 0) (.int 4)), true)
def doesN_t1 : List (Q × Bool) := [as1, as2]
def doesN_d1 : List Duty := []
theorem doesN_y1 : endC doesN [] 1000 (callC Try.prog (tellA doesN_t1) [] [] [] 3000 40 11 doesN) = some doesN_d1 := by kernel_rfl
abbrev as3 : Q × Bool := ((.eq (.var 0) (.int 4)), false)
abbrev as4 : Q × Bool := ((.eq (.var 0) (.int 5)), true)
def doesN_t2 : List (Q × Bool) := [as1, as3, as4]
def doesN_d2 : List Duty := []
theorem doesN_y2 : endC doesN [] 1000 (callC Try.prog (tellA doesN_t2) [] [] [] 3000 40 11 doesN) = some doesN_d2 := by kernel_rfl
abbrev as5 : Q × Bool := ((.eq (.var 0) (.int 5)), false)
abbrev as6 : Q × Bool := ((.eq (.var 0) (.int 6)), true)
def doesN_t3 : List (Q × Bool) := [as1, as3, as5, as6]
def doesN_d3 : List Duty := []
theorem doesN_y3 : endC doesN [] 1000 (callC Try.prog (tellA doesN_t3) [] [] [] 3000 40 11 doesN) = some doesN_d3 := by kernel_rfl
abbrev as7 : Q × Bool := ((.eq (.var 0) (.int 6)), false)
abbrev as8 : Q × Bool := ((.eq (.var 0) (.int 7)), true)
def doesN_t4 : List (Q × Bool) := [as1, as3, as5, as7, as8]
def doesN_d4 : List Duty := []
theorem doesN_y4 : endC doesN [] 1000 (callC Try.prog (tellA doesN_t4) [] [] [] 3000 40 11 doesN) = some doesN_d4 := by kernel_rfl
abbrev as9 : Q × Bool := ((.eq (.var 0) (.int 7)), false)
abbrev as10 : Q × Bool := ((.eq (.var 0) (.int 8)), true)
def doesN_t5 : List (Q × Bool) := [as1, as3, as5, as7, as9, as10]
def doesN_d5 : List Duty := []
theorem doesN_y5 : endC doesN [] 1000 (callC Try.prog (tellA doesN_t5) [] [] [] 3000 40 11 doesN) = some doesN_d5 := by kernel_rfl
abbrev as11 : Q × Bool := ((.eq (.var 0) (.int 8)), false)
abbrev as12 : Q × Bool := ((.eq (.var 0) (.int 9)), true)
def doesN_t6 : List (Q × Bool) := [as1, as3, as5, as7, as9, as11, as12]
def doesN_d6 : List Duty := []
theorem doesN_y6 : endC doesN [] 1000 (callC Try.prog (tellA doesN_t6) [] [] [] 3000 40 11 doesN) = some doesN_d6 := by kernel_rfl
abbrev as13 : Q × Bool := ((.eq (.var 0) (.int 9)), false)
def doesN_t7 : List (Q × Bool) := [as1, as3, as5, as7, as9, as11, as13]
def doesN_d7 : List Duty := []
theorem doesN_y7 : endC doesN [] 1000 (callC Try.prog (tellA doesN_t7) [] [] [] 3000 40 11 doesN) = some doesN_d7 := by kernel_rfl
theorem doesN_holds : CHolds Try.prog 11 doesN F := by
 refine cholds_of sound (tableNil _ _) (specsNil _ _) (oversNil _ _) (fuel := 3000) (depth := 40) (by kernel_rfl) fun d hp hR hA => ?_
 have hp := allTold'_iff.2 hp
 simp only [doesN, tl] at hp hR hA
 by_cases h3 : (d 0).toInt = 3
 ·refine ⟨tellA doesN_t0, _, _, _, tellA_ok (allTold'_iff.1 ?_), doesN_y0, dutiesTold_ok ?_⟩
  ·simp only [doesN_t0, tl]
   first | omega | trivial
  ·simp only [doesN_d0, tl]
 by_cases h4 : (d 0).toInt = 4
 ·refine ⟨tellA doesN_t1, _, _, _, tellA_ok (allTold'_iff.1 ?_), doesN_y1, dutiesTold_ok ?_⟩
  ·simp only [doesN_t1, tl]
   first | omega | trivial
  ·simp only [doesN_d1, tl]
 by_cases h5 : (d 0).toInt = 5
 ·refine ⟨tellA doesN_t2, _, _, _, tellA_ok (allTold'_iff.1 ?_), doesN_y2, dutiesTold_ok ?_⟩
  ·simp only [doesN_t2, tl]
   first | omega | trivial
  ·simp only [doesN_d2, tl]
 by_cases h6 : (d 0).toInt = 6
 ·refine ⟨tellA doesN_t3, _, _, _, tellA_ok (allTold'_iff.1 ?_), doesN_y3, dutiesTold_ok ?_⟩
  ·simp only [doesN_t3, tl]
   first | omega | trivial
  ·simp only [doesN_d3, tl]
 by_cases h7 : (d 0).toInt = 7
 ·refine ⟨tellA doesN_t4, _, _, _, tellA_ok (allTold'_iff.1 ?_), doesN_y4, dutiesTold_ok ?_⟩
  ·simp only [doesN_t4, tl]
   first | omega | trivial
  ·simp only [doesN_d4, tl]
 by_cases h8 : (d 0).toInt = 8
 ·refine ⟨tellA doesN_t5, _, _, _, tellA_ok (allTold'_iff.1 ?_), doesN_y5, dutiesTold_ok ?_⟩
  ·simp only [doesN_t5, tl]
   first | omega | trivial
  ·simp only [doesN_d5, tl]
 by_cases h9 : (d 0).toInt = 9
 ·refine ⟨tellA doesN_t6, _, _, _, tellA_ok (allTold'_iff.1 ?_), doesN_y6, dutiesTold_ok ?_⟩
  ·simp only [doesN_t6, tl]
   first | omega | trivial
  ·simp only [doesN_d6, tl]
 refine ⟨tellA doesN_t7, _, _, _, tellA_ok (allTold'_iff.1 ?_), doesN_y7, dutiesTold_ok ?_⟩
 ·simp only [doesN_t7, tl]
  first | omega | trivial
 ·simp only [doesN_d7, tl]

def doesZ : CSpec := { args := [.ptr 1 0, .agg [.sint .i64 (.var 0), .any, .any, .any, .any, .any], .any], next := 1, rows := [(1, .cells 37 0 false false [.nilptr, .int .i64 0, .nilmap, .int .i64 0, .bool false, .int .i64 0])], pre := [], res := .int .i64 1, frows := [(1, .cells 37 0 false false [.nilptr, .int .i64 0, .nilmap, .int .i64 0, .bool false, .int .i64 0])], same := [1] }
def doesZ_t0 : List (Q × Bool) := [as0]
def doesZ_d0 : List Duty := []
theorem doesZ_y0 : endC doesZ [(1, 1)] 1000 (callC Try.prog (tellA doesZ_t0) [] [] [] 3000 40 11 doesZ) = some doesZ_d0 := by kernel_rfl
def doesZ_t1 : List (Q × Bool) := [as1, as2]
def doesZ_d1 : List Duty := []
theorem doesZ_y1 : endC doesZ [(1, 1)] 1000 (callC Try.prog (tellA doesZ_t1) [] [] [] 3000 40 11 doesZ) = some doesZ_d1 := by kernel_rfl
def doesZ_t2 : List (Q × Bool) := [as1, as3, as4]
def doesZ_d2 : List Duty := []
theorem doesZ_y2 : endC doesZ [(1, 1)] 1000 (callC Try.prog (tellA doesZ_t2) [] [] [] 3000 40 11 doesZ) = some doesZ_d2 := by kernel_rfl
def doesZ_t3 : List (Q × Bool) := [as1, as3, as5, as6]
def doesZ_d3 : List Duty := []
theorem doesZ_y3 : endC doesZ [(1, 1)] 1000 (callC Try.prog (tellA doesZ_t3) [] [] [] 3000 40 11 doesZ) = some doesZ_d3 := by kernel_rfl
def doesZ_t4 : List (Q × Bool) := [as1, as3, as5, as7, as8]
def doesZ_d4 : List Duty := []
theorem doesZ_y4 : endC doesZ [(1, 1)] 1000 (callC Try.prog (tellA doesZ_t4) [] [] [] 3000 40 11 doesZ) = some doesZ_d4 := by kernel_rfl
def doesZ_t5 : List (Q × Bool) := [as1, as3, as5, as7, as9, as10]
def doesZ_d5 : List Duty := []
theorem doesZ_y5 : endC doesZ [(1, 1)] 1000 (callC Try.prog (tellA doesZ_t5) [] [] [] 3000 40 11 doesZ) = some doesZ_d5 := by kernel_rfl
def doesZ_t6 : List (Q × Bool) := [as1, as3, as5, as7, as9, as11, as12]
def doesZ_d6 : List Duty := []
theorem doesZ_y6 : endC doesZ [(1, 1)] 1000 (callC Try.prog (tellA doesZ_t6) [] [] [] 3000 40 11 doesZ) = some doesZ_d6 := by kernel_rfl
def doesZ_t7 : List (Q × Bool) := [as1, as3, as5, as7, as9, as11, as13]
def doesZ_d7 : List Duty := []
theorem doesZ_y7 : endC doesZ [(1, 1)] 1000 (callC Try.prog (tellA doesZ_t7) [] [] [] 3000 40 11 doesZ) = some doesZ_d7 := by kernel_rfl
theorem doesZ_holds : CHolds Try.prog 11 doesZ F := by
 refine cholds_of sound (tableNil _ _) (specsNil _ _) (oversNil _ _) (fuel := 3000) (depth := 40) (by kernel_rfl) fun d hp hR hA => ?_
 have hp := allTold'_iff.2 hp
 simp only [doesZ, tl] at hp hR hA
 by_cases h3 : (d 0).toInt = 3
 ·refine ⟨tellA doesZ_t0, _, _, _, tellA_ok (allTold'_iff.1 ?_), doesZ_y0, dutiesTold_ok ?_⟩
  ·simp only [doesZ_t0, tl]
   first | omega | trivial
  ·simp only [doesZ_d0, tl]
 by_cases h4 : (d 0).toInt = 4
 ·refine ⟨tellA doesZ_t1, _, _, _, tellA_ok (allTold'_iff.1 ?_), doesZ_y1, dutiesTold_ok ?_⟩
  ·simp only [doesZ_t1, tl]
   first | omega | trivial
  ·simp only [doesZ_d1, tl]
 by_cases h5 : (d 0).toInt = 5
 ·refine ⟨tellA doesZ_t2, _, _, _, tellA_ok (allTold'_iff.1 ?_), doesZ_y2, dutiesTold_ok ?_⟩
  ·simp only [doesZ_t2, tl]
   first | omega | trivial
  ·simp only [doesZ_d2, tl]
 by_cases h6 : (d 0).toInt = 6
 ·refine ⟨tellA doesZ_t3, _, _, _, tellA_ok (allTold'_iff.1 ?_), doesZ_y3, dutiesTold_ok ?_⟩
  ·simp only [doesZ_t3, tl]
   first | omega | trivial
  ·simp only [doesZ_d3, tl]
 by_cases h7 : (d 0).toInt = 7
 ·refine ⟨tellA doesZ_t4, _, _, _, tellA_ok (allTold'_iff.1 ?_), doesZ_y4, dutiesTold_ok ?_⟩
  ·simp only [doesZ_t4, tl]
   first | omega | trivial
  ·simp only [doesZ_d4, tl]
 by_cases h8 : (d 0).toInt = 8
 ·refine ⟨tellA doesZ_t5, _, _, _, tellA_ok (allTold'_iff.1 ?_), doesZ_y5, dutiesTold_ok ?_⟩
  ·simp only [doesZ_t5, tl]
   first | omega | trivial
  ·simp only [doesZ_d5, tl]
 by_cases h9 : (d 0).toInt = 9
 ·refine ⟨tellA doesZ_t6, _, _, _, tellA_ok (allTold'_iff.1 ?_), doesZ_y6, dutiesTold_ok ?_⟩
  ·simp only [doesZ_t6, tl]
   first | omega | trivial
  ·simp only [doesZ_d6, tl]
 refine ⟨tellA doesZ_t7, _, _, _, tellA_ok (allTold'_iff.1 ?_), doesZ_y7, dutiesTold_ok ?_⟩
 ·simp only [doesZ_t7, tl]
  first | omega | trivial
 ·simp only [doesZ_d7, tl]

def tab : List LEntry := []
def specs : List (FuncId × CSpec) := [(9, awakeC), (11, doesN), (11, doesZ)]
def overs : Overs := [(64, .lib (.clone)), (35, .lib (.keys 58 9))]
theorem tab_ok : TableOK Try.prog tab F := tableNil _ _
theorem specs_ok : SpecsOK Try.prog specs F := specsCons awakeC_holds (specsCons doesN_holds (specsCons doesZ_holds (specsNil _ _)))
theorem overs_ok : OversOK Try.prog overs F := oversLib cloneL_holds (oversLib keysL0_holds (oversNil _ _))
end Go.Proofs.Ytmlocknojpmfpaa.La
