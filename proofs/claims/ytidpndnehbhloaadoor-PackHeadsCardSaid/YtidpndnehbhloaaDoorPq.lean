/-
 Contracts of this seat: what loops and calls leave, for all inputs. No condition.
-/
import Derived.Test.YtidpndnehbhloaaDoorSycp
import Derived.Test.YtidpndnehbhloaaDoorCo
import Derived.Test.YtidpndnehbhloaaDoorP0
import Derived.Test.YtidpndnehbhloaaDoorPa
import Derived.Test.YtidpndnehbhloaaDoorPu
set_option linter.unusedSimpArgs false
set_option linter.unusedVariables false
namespace Go.Proofs.YtidpndnehbhloaaDoor.Pq
open Go.RowKit Go.Ev Go.Proofs.YtidpndnehbhloaaDoor.Co

open Go.Proofs.YtidpndnehbhloaaDoor.P0
open Go.Proofs.YtidpndnehbhloaaDoor.Pa
open Go.Proofs.YtidpndnehbhloaaDoor.Pu

abbrev vu32Pq (a : E) (j : Int) : AV := .sint .u32 (.bi .sel a (.int j))
abbrev vu8Pq (a : E) (j : Int) : AV := .sint .u8 (.bi .sel a (.int j))
abbrev zPq2 : E := (.bi .pair (.var 2) (.int 0))
abbrev txPq0 : E := (.bi .pair (.var 1) zPq2)
abbrev txPq1 : E := (.bi .pair (.fn 17 zPq2) (.int 0))
abbrev txPq2 : E := (.fn 4 (argsE [.var 0, .var 1, .var 2, .var 7, .var 3, .var 4]))
abbrev txPq3 : E := (.fn 5 (argsE [.var 0, .var 1, .var 2, .var 7, .var 3, .var 4]))
abbrev txPq4 : E := (.bi .pair (.fn 7 zPq2) (.bi .pair (.int 0) txPq1))
abbrev txPq5 : E := (.bi .pair (.var 1) (.bi .pair (.var 2) txPq4))
abbrev txPq6 : E := (.bi .pair (.fn 4 (.bi .pair (.var 0) txPq5)) (.int 0))
abbrev zPq0 : E := (.fn 9 (argsE [.var 0, .var 1, .var 2]))
abbrev zPq1 : E := (.fn 9 (.bi .pair (.var 0) txPq0))
abbrev zPq3 : E := (.bi .add (.var 2) (.var 4))
def takeC : CSpec := { args := [.ptr 1 0, .sslice 3 (.var 3) (.var 4) (.var 5) true], next := 2, rows := [(1, .cells 81 0 false false [vu32Pq (.var 0) 0, vu32Pq (.var 0) 1, vu32Pq (.var 0) 2, vu32Pq (.var 0) 3, vu32Pq (.var 0) 4, vu32Pq (.var 0) 5, vu32Pq (.var 0) 6, vu32Pq (.var 0) 7, vu8Pq (.var 1) 0, vu8Pq (.var 1) 1, vu8Pq (.var 1) 2, vu8Pq (.var 1) 3, vu8Pq (.var 1) 4, vu8Pq (.var 1) 5, vu8Pq (.var 1) 6, vu8Pq (.var 1) 7, vu8Pq (.var 1) 8, vu8Pq (.var 1) 9, vu8Pq (.var 1) 10, vu8Pq (.var 1) 11, vu8Pq (.var 1) 12, vu8Pq (.var 1) 13, vu8Pq (.var 1) 14, vu8Pq (.var 1) 15, vu8Pq (.var 1) 16, vu8Pq (.var 1) 17, vu8Pq (.var 1) 18, vu8Pq (.var 1) 19, vu8Pq (.var 1) 20, vu8Pq (.var 1) 21, vu8Pq (.var 1) 22, vu8Pq (.var 1) 23, vu8Pq (.var 1) 24, vu8Pq (.var 1) 25, vu8Pq (.var 1) 26, vu8Pq (.var 1) 27, vu8Pq (.var 1) 28, vu8Pq (.var 1) 29, vu8Pq (.var 1) 30, vu8Pq (.var 1) 31, vu8Pq (.var 1) 32, vu8Pq (.var 1) 33, vu8Pq (.var 1) 34, vu8Pq (.var 1) 35, vu8Pq (.var 1) 36, vu8Pq (.var 1) 37, vu8Pq (.var 1) 38, vu8Pq (.var 1) 39, vu8Pq (.var 1) 40, vu8Pq (.var 1) 41, vu8Pq (.var 1) 42, vu8Pq (.var 1) 43, vu8Pq (.var 1) 44, vu8Pq (.var 1) 45, vu8Pq (.var 1) 46, vu8Pq (.var 1) 47, vu8Pq (.var 1) 48, vu8Pq (.var 1) 49, vu8Pq (.var 1) 50, vu8Pq (.var 1) 51, vu8Pq (.var 1) 52, vu8Pq (.var 1) 53, vu8Pq (.var 1) 54, vu8Pq (.var 1) 55, vu8Pq (.var 1) 56, vu8Pq (.var 1) 57, vu8Pq (.var 1) 58, vu8Pq (.var 1) 59, vu8Pq (.var 1) 60, vu8Pq (.var 1) 61, vu8Pq (.var 1) 62, vu8Pq (.var 1) 63, .sint .i64 (.var 2)]), (3, .eseq ⟨.u8, .var 6, .var 7⟩), (0, .ext cellsG)], pre := [(.le (.int 0) (.var 2), true), (.le zPq3 (.int 4611686018427387904), true), (.eq (.un .len (.var 1)) (.int 64), true), (.le (.bi .add (.var 3) (.var 4)) (.var 6), true)], res := .tuple [], frows := [(1, .cells 81 0 false false [vu32Pq txPq2 0, vu32Pq txPq2 1, vu32Pq txPq2 2, vu32Pq txPq2 3, vu32Pq txPq2 4, vu32Pq txPq2 5, vu32Pq txPq2 6, vu32Pq txPq2 7, vu8Pq txPq3 0, vu8Pq txPq3 1, vu8Pq txPq3 2, vu8Pq txPq3 3, vu8Pq txPq3 4, vu8Pq txPq3 5, vu8Pq txPq3 6, vu8Pq txPq3 7, vu8Pq txPq3 8, vu8Pq txPq3 9, vu8Pq txPq3 10, vu8Pq txPq3 11, vu8Pq txPq3 12, vu8Pq txPq3 13, vu8Pq txPq3 14, vu8Pq txPq3 15, vu8Pq txPq3 16, vu8Pq txPq3 17, vu8Pq txPq3 18, vu8Pq txPq3 19, vu8Pq txPq3 20, vu8Pq txPq3 21, vu8Pq txPq3 22, vu8Pq txPq3 23, vu8Pq txPq3 24, vu8Pq txPq3 25, vu8Pq txPq3 26, vu8Pq txPq3 27, vu8Pq txPq3 28, vu8Pq txPq3 29, vu8Pq txPq3 30, vu8Pq txPq3 31, vu8Pq txPq3 32, vu8Pq txPq3 33, vu8Pq txPq3 34, vu8Pq txPq3 35, vu8Pq txPq3 36, vu8Pq txPq3 37, vu8Pq txPq3 38, vu8Pq txPq3 39, vu8Pq txPq3 40, vu8Pq txPq3 41, vu8Pq txPq3 42, vu8Pq txPq3 43, vu8Pq txPq3 44, vu8Pq txPq3 45, vu8Pq txPq3 46, vu8Pq txPq3 47, vu8Pq txPq3 48, vu8Pq txPq3 49, vu8Pq txPq3 50, vu8Pq txPq3 51, vu8Pq txPq3 52, vu8Pq txPq3 53, vu8Pq txPq3 54, vu8Pq txPq3 55, vu8Pq txPq3 56, vu8Pq txPq3 57, vu8Pq txPq3 58, vu8Pq txPq3 59, vu8Pq txPq3 60, vu8Pq txPq3 61, vu8Pq txPq3 62, vu8Pq txPq3 63, .sint .i64 zPq3])], same := [1] }
abbrev asPq0 : Q × Bool := ((.le (.int 0) (.var 2)), true)
abbrev asPq1 : Q × Bool := ((.le zPq3 (.int 4611686018427387904)), true)
abbrev asPq2 : Q × Bool := ((.eq (.un .len (.var 1)) (.int 64)), true)
abbrev asPq3 : Q × Bool := ((.le (.bi .add (.var 3) (.var 4)) (.var 6)), true)
def takeC_t0 : List (Q × Bool) := [asPq0, asPq1, asPq2, asPq3]
def takeC_d0 : List Duty := []
theorem takeC_y0 : endC takeC [(1, 1)] 1000 (callC Tryd.prog (tellA takeC_t0) [⟨39, [4], takeK⟩] [] [] 3000 40 39 takeC) = some takeC_d0 := by kernel_rfl
theorem takeC_holds : CHolds Tryd.prog 39 takeC F := by
 refine cholds_of sound (tableCons takeK_holds (tableNil _ _)) (specsNil _ _) (oversNil _ _) (fuel := 3000) (depth := 40) (by kernel_rfl) fun d hp hR hA => ?_
 have hp := allTold'_iff.2 hp
 simp only [takeC, tl] at hp hR hA
 refine ⟨tellA takeC_t0, _, _, _, tellA_ok (allTold'_iff.1 ?_), takeC_y0, dutiesTold_ok ?_⟩
 ·simp only [takeC_t0, tl]
  omega
 ·simp only [takeC_d0, tl]

def sumC : CSpec := { args := [.agg [vu32Pq (.var 0) 0, vu32Pq (.var 0) 1, vu32Pq (.var 0) 2, vu32Pq (.var 0) 3, vu32Pq (.var 0) 4, vu32Pq (.var 0) 5, vu32Pq (.var 0) 6, vu32Pq (.var 0) 7, vu8Pq (.var 1) 0, vu8Pq (.var 1) 1, vu8Pq (.var 1) 2, vu8Pq (.var 1) 3, vu8Pq (.var 1) 4, vu8Pq (.var 1) 5, vu8Pq (.var 1) 6, vu8Pq (.var 1) 7, vu8Pq (.var 1) 8, vu8Pq (.var 1) 9, vu8Pq (.var 1) 10, vu8Pq (.var 1) 11, vu8Pq (.var 1) 12, vu8Pq (.var 1) 13, vu8Pq (.var 1) 14, vu8Pq (.var 1) 15, vu8Pq (.var 1) 16, vu8Pq (.var 1) 17, vu8Pq (.var 1) 18, vu8Pq (.var 1) 19, vu8Pq (.var 1) 20, vu8Pq (.var 1) 21, vu8Pq (.var 1) 22, vu8Pq (.var 1) 23, vu8Pq (.var 1) 24, vu8Pq (.var 1) 25, vu8Pq (.var 1) 26, vu8Pq (.var 1) 27, vu8Pq (.var 1) 28, vu8Pq (.var 1) 29, vu8Pq (.var 1) 30, vu8Pq (.var 1) 31, vu8Pq (.var 1) 32, vu8Pq (.var 1) 33, vu8Pq (.var 1) 34, vu8Pq (.var 1) 35, vu8Pq (.var 1) 36, vu8Pq (.var 1) 37, vu8Pq (.var 1) 38, vu8Pq (.var 1) 39, vu8Pq (.var 1) 40, vu8Pq (.var 1) 41, vu8Pq (.var 1) 42, vu8Pq (.var 1) 43, vu8Pq (.var 1) 44, vu8Pq (.var 1) 45, vu8Pq (.var 1) 46, vu8Pq (.var 1) 47, vu8Pq (.var 1) 48, vu8Pq (.var 1) 49, vu8Pq (.var 1) 50, vu8Pq (.var 1) 51, vu8Pq (.var 1) 52, vu8Pq (.var 1) 53, vu8Pq (.var 1) 54, vu8Pq (.var 1) 55, vu8Pq (.var 1) 56, vu8Pq (.var 1) 57, vu8Pq (.var 1) 58, vu8Pq (.var 1) 59, vu8Pq (.var 1) 60, vu8Pq (.var 1) 61, vu8Pq (.var 1) 62, vu8Pq (.var 1) 63, .sint .i64 (.var 2)]], next := 0, rows := [(0, .ext cellsG)], pre := [(.le (.int 0) (.var 2), true), (.le (.var 2) (.int 1152921504606846976), true), (.eq (.un .len (.var 1)) (.int 64), true)], res := .agg [.sint .u8 (.bi .sel zPq0 (.int 0)), .sint .u8 (.bi .sel zPq0 (.int 1)), .sint .u8 (.bi .sel zPq0 (.int 2)), .sint .u8 (.bi .sel zPq0 (.int 3)), .sint .u8 (.bi .sel zPq0 (.int 4)), .sint .u8 (.bi .sel zPq0 (.int 5)), .sint .u8 (.bi .sel zPq0 (.int 6)), .sint .u8 (.bi .sel zPq0 (.int 7)), .sint .u8 (.bi .sel zPq0 (.int 8)), .sint .u8 (.bi .sel zPq0 (.int 9)), .sint .u8 (.bi .sel zPq0 (.int 10)), .sint .u8 (.bi .sel zPq0 (.int 11)), .sint .u8 (.bi .sel zPq0 (.int 12)), .sint .u8 (.bi .sel zPq0 (.int 13)), .sint .u8 (.bi .sel zPq0 (.int 14)), .sint .u8 (.bi .sel zPq0 (.int 15)), .sint .u8 (.bi .sel zPq0 (.int 16)), .sint .u8 (.bi .sel zPq0 (.int 17)), .sint .u8 (.bi .sel zPq0 (.int 18)), .sint .u8 (.bi .sel zPq0 (.int 19)), .sint .u8 (.bi .sel zPq0 (.int 20)), .sint .u8 (.bi .sel zPq0 (.int 21)), .sint .u8 (.bi .sel zPq0 (.int 22)), .sint .u8 (.bi .sel zPq0 (.int 23)), .sint .u8 (.bi .sel zPq0 (.int 24)), .sint .u8 (.bi .sel zPq0 (.int 25)), .sint .u8 (.bi .sel zPq0 (.int 26)), .sint .u8 (.bi .sel zPq0 (.int 27)), .sint .u8 (.bi .sel zPq0 (.int 28)), .sint .u8 (.bi .sel zPq0 (.int 29)), .sint .u8 (.bi .sel zPq0 (.int 30)), .sint .u8 (.bi .sel zPq0 (.int 31))], frows := [], same := [] }
abbrev asPq4 : Q × Bool := ((.le (.var 2) (.int 1152921504606846976)), true)
abbrev asPq5 : Q × Bool := ((.le (.bi .add (.var 2) (.fn 17 zPq2)) (.int 4611686018427387904)), true)
abbrev asPq6 : Q × Bool := ((.le (.bi .add (.int 0) (.fn 17 zPq2)) (.fn 17 zPq2)), true)
def sumC_t0 : List (Q × Bool) := [asPq0, asPq4, asPq5, asPq2, asPq6]
def sumC_d0 : List Duty := [(true, (.bi .sel (.fn 8 txPq6) (.int 0)), (.bi .sel zPq1 (.int 0))), (true, (.bi .sel (.fn 8 txPq6) (.int 1)), (.bi .sel zPq1 (.int 1))), (true, (.bi .sel (.fn 8 txPq6) (.int 2)), (.bi .sel zPq1 (.int 2))), (true, (.bi .sel (.fn 8 txPq6) (.int 3)), (.bi .sel zPq1 (.int 3))), (true, (.bi .sel (.fn 8 txPq6) (.int 4)), (.bi .sel zPq1 (.int 4))), (true, (.bi .sel (.fn 8 txPq6) (.int 5)), (.bi .sel zPq1 (.int 5))), (true, (.bi .sel (.fn 8 txPq6) (.int 6)), (.bi .sel zPq1 (.int 6))), (true, (.bi .sel (.fn 8 txPq6) (.int 7)), (.bi .sel zPq1 (.int 7))), (true, (.bi .sel (.fn 8 txPq6) (.int 8)), (.bi .sel zPq1 (.int 8))), (true, (.bi .sel (.fn 8 txPq6) (.int 9)), (.bi .sel zPq1 (.int 9))), (true, (.bi .sel (.fn 8 txPq6) (.int 10)), (.bi .sel zPq1 (.int 10))), (true, (.bi .sel (.fn 8 txPq6) (.int 11)), (.bi .sel zPq1 (.int 11))), (true, (.bi .sel (.fn 8 txPq6) (.int 12)), (.bi .sel zPq1 (.int 12))), (true, (.bi .sel (.fn 8 txPq6) (.int 13)), (.bi .sel zPq1 (.int 13))), (true, (.bi .sel (.fn 8 txPq6) (.int 14)), (.bi .sel zPq1 (.int 14))), (true, (.bi .sel (.fn 8 txPq6) (.int 15)), (.bi .sel zPq1 (.int 15))), (true, (.bi .sel (.fn 8 txPq6) (.int 16)), (.bi .sel zPq1 (.int 16))), (true, (.bi .sel (.fn 8 txPq6) (.int 17)), (.bi .sel zPq1 (.int 17))), (true, (.bi .sel (.fn 8 txPq6) (.int 18)), (.bi .sel zPq1 (.int 18))), (true, (.bi .sel (.fn 8 txPq6) (.int 19)), (.bi .sel zPq1 (.int 19))), (true, (.bi .sel (.fn 8 txPq6) (.int 20)), (.bi .sel zPq1 (.int 20))), (true, (.bi .sel (.fn 8 txPq6) (.int 21)), (.bi .sel zPq1 (.int 21))), (true, (.bi .sel (.fn 8 txPq6) (.int 22)), (.bi .sel zPq1 (.int 22))), (true, (.bi .sel (.fn 8 txPq6) (.int 23)), (.bi .sel zPq1 (.int 23))), (true, (.bi .sel (.fn 8 txPq6) (.int 24)), (.bi .sel zPq1 (.int 24))), (true, (.bi .sel (.fn 8 txPq6) (.int 25)), (.bi .sel zPq1 (.int 25))), (true, (.bi .sel (.fn 8 txPq6) (.int 26)), (.bi .sel zPq1 (.int 26))), (true, (.bi .sel (.fn 8 txPq6) (.int 27)), (.bi .sel zPq1 (.int 27))), (true, (.bi .sel (.fn 8 txPq6) (.int 28)), (.bi .sel zPq1 (.int 28))), (true, (.bi .sel (.fn 8 txPq6) (.int 29)), (.bi .sel zPq1 (.int 29))), (true, (.bi .sel (.fn 8 txPq6) (.int 30)), (.bi .sel zPq1 (.int 30))), (true, (.bi .sel (.fn 8 txPq6) (.int 31)), (.bi .sel zPq1 (.int 31)))]
theorem sumC_y0 : endC sumC [] 1000 (callC Tryd.prog (tellA sumC_t0) [] [(43, fillC), (44, bytesC), (39, takeC)] [] 3000 40 40 sumC) = some sumC_d0 := by kernel_rfl
theorem sumC_holds : CHolds Tryd.prog 40 sumC F := by
 refine cholds_of sound (tableNil _ _) (specsCons fillC_holds (specsCons bytesC_holds (specsCons takeC_holds (specsNil _ _)))) (oversNil _ _) (fuel := 3000) (depth := 40) (by kernel_rfl) fun d hp hR hA => ?_
 have hp := allTold'_iff.2 hp
 simp only [sumC, tl] at hp hR hA
 have hm := emod_in (x := (d 2).toInt) (n := 64) (by omega)
 have hm2 := emod_in (x := 119 - (d 2).toInt % 64) (n := 64) (by omega)
 refine ⟨tellA sumC_t0, _, _, _, tellA_ok (allTold'_iff.1 ?_), sumC_y0, dutiesTold_ok ?_⟩
 ·simp only [sumC_t0, F17, tl]
  omega
 ·simp only [sumC_d0, F4, F7, F8, F9, F17, tl]
  have e : prt (fillI (d 2).toInt) 0 (0 + ((119 - (d 2).toInt % 64) % 64 + 9)) = fillI (d 2).toInt := by
   have := fill_len (d 2).toInt
   unfold prt
   rw [List.take_of_length_le (by omega)]
   rfl
  rw [e]
  and_intros <;> rfl

def newC : CSpec := { args := [], next := 0, rows := [], pre := [], res := .ptr 1 0, frows := [(1, .cells 83 0 false false [.ptr 1 0, .sint .u32 (.bi .sel (.fn 11 (argsE [])) (.int 0)), .sint .u32 (.bi .sel (.fn 11 (argsE [])) (.int 1)), .sint .u32 (.bi .sel (.fn 11 (argsE [])) (.int 2)), .sint .u32 (.bi .sel (.fn 11 (argsE [])) (.int 3)), .sint .u32 (.bi .sel (.fn 11 (argsE [])) (.int 4)), .sint .u32 (.bi .sel (.fn 11 (argsE [])) (.int 5)), .sint .u32 (.bi .sel (.fn 11 (argsE [])) (.int 6)), .sint .u32 (.bi .sel (.fn 11 (argsE [])) (.int 7)), .sint .u8 (.bi .sel (.fn 12 (argsE [])) (.int 0)), .sint .u8 (.bi .sel (.fn 12 (argsE [])) (.int 1)), .sint .u8 (.bi .sel (.fn 12 (argsE [])) (.int 2)), .sint .u8 (.bi .sel (.fn 12 (argsE [])) (.int 3)), .sint .u8 (.bi .sel (.fn 12 (argsE [])) (.int 4)), .sint .u8 (.bi .sel (.fn 12 (argsE [])) (.int 5)), .sint .u8 (.bi .sel (.fn 12 (argsE [])) (.int 6)), .sint .u8 (.bi .sel (.fn 12 (argsE [])) (.int 7)), .sint .u8 (.bi .sel (.fn 12 (argsE [])) (.int 8)), .sint .u8 (.bi .sel (.fn 12 (argsE [])) (.int 9)), .sint .u8 (.bi .sel (.fn 12 (argsE [])) (.int 10)), .sint .u8 (.bi .sel (.fn 12 (argsE [])) (.int 11)), .sint .u8 (.bi .sel (.fn 12 (argsE [])) (.int 12)), .sint .u8 (.bi .sel (.fn 12 (argsE [])) (.int 13)), .sint .u8 (.bi .sel (.fn 12 (argsE [])) (.int 14)), .sint .u8 (.bi .sel (.fn 12 (argsE [])) (.int 15)), .sint .u8 (.bi .sel (.fn 12 (argsE [])) (.int 16)), .sint .u8 (.bi .sel (.fn 12 (argsE [])) (.int 17)), .sint .u8 (.bi .sel (.fn 12 (argsE [])) (.int 18)), .sint .u8 (.bi .sel (.fn 12 (argsE [])) (.int 19)), .sint .u8 (.bi .sel (.fn 12 (argsE [])) (.int 20)), .sint .u8 (.bi .sel (.fn 12 (argsE [])) (.int 21)), .sint .u8 (.bi .sel (.fn 12 (argsE [])) (.int 22)), .sint .u8 (.bi .sel (.fn 12 (argsE [])) (.int 23)), .sint .u8 (.bi .sel (.fn 12 (argsE [])) (.int 24)), .sint .u8 (.bi .sel (.fn 12 (argsE [])) (.int 25)), .sint .u8 (.bi .sel (.fn 12 (argsE [])) (.int 26)), .sint .u8 (.bi .sel (.fn 12 (argsE [])) (.int 27)), .sint .u8 (.bi .sel (.fn 12 (argsE [])) (.int 28)), .sint .u8 (.bi .sel (.fn 12 (argsE [])) (.int 29)), .sint .u8 (.bi .sel (.fn 12 (argsE [])) (.int 30)), .sint .u8 (.bi .sel (.fn 12 (argsE [])) (.int 31)), .sint .u8 (.bi .sel (.fn 12 (argsE [])) (.int 32)), .sint .u8 (.bi .sel (.fn 12 (argsE [])) (.int 33)), .sint .u8 (.bi .sel (.fn 12 (argsE [])) (.int 34)), .sint .u8 (.bi .sel (.fn 12 (argsE [])) (.int 35)), .sint .u8 (.bi .sel (.fn 12 (argsE [])) (.int 36)), .sint .u8 (.bi .sel (.fn 12 (argsE [])) (.int 37)), .sint .u8 (.bi .sel (.fn 12 (argsE [])) (.int 38)), .sint .u8 (.bi .sel (.fn 12 (argsE [])) (.int 39)), .sint .u8 (.bi .sel (.fn 12 (argsE [])) (.int 40)), .sint .u8 (.bi .sel (.fn 12 (argsE [])) (.int 41)), .sint .u8 (.bi .sel (.fn 12 (argsE [])) (.int 42)), .sint .u8 (.bi .sel (.fn 12 (argsE [])) (.int 43)), .sint .u8 (.bi .sel (.fn 12 (argsE [])) (.int 44)), .sint .u8 (.bi .sel (.fn 12 (argsE [])) (.int 45)), .sint .u8 (.bi .sel (.fn 12 (argsE [])) (.int 46)), .sint .u8 (.bi .sel (.fn 12 (argsE [])) (.int 47)), .sint .u8 (.bi .sel (.fn 12 (argsE [])) (.int 48)), .sint .u8 (.bi .sel (.fn 12 (argsE [])) (.int 49)), .sint .u8 (.bi .sel (.fn 12 (argsE [])) (.int 50)), .sint .u8 (.bi .sel (.fn 12 (argsE [])) (.int 51)), .sint .u8 (.bi .sel (.fn 12 (argsE [])) (.int 52)), .sint .u8 (.bi .sel (.fn 12 (argsE [])) (.int 53)), .sint .u8 (.bi .sel (.fn 12 (argsE [])) (.int 54)), .sint .u8 (.bi .sel (.fn 12 (argsE [])) (.int 55)), .sint .u8 (.bi .sel (.fn 12 (argsE [])) (.int 56)), .sint .u8 (.bi .sel (.fn 12 (argsE [])) (.int 57)), .sint .u8 (.bi .sel (.fn 12 (argsE [])) (.int 58)), .sint .u8 (.bi .sel (.fn 12 (argsE [])) (.int 59)), .sint .u8 (.bi .sel (.fn 12 (argsE [])) (.int 60)), .sint .u8 (.bi .sel (.fn 12 (argsE [])) (.int 61)), .sint .u8 (.bi .sel (.fn 12 (argsE [])) (.int 62)), .sint .u8 (.bi .sel (.fn 12 (argsE [])) (.int 63)), .sint .i64 (.int 0)])], same := [] }
def newC_t0 : List (Q × Bool) := []
def newC_d0 : List Duty := [(true, (.int 1779033703), (.bi .sel (.fn 11 (.int 0)) (.int 0))), (true, (.int 3144134277), (.bi .sel (.fn 11 (.int 0)) (.int 1))), (true, (.int 1013904242), (.bi .sel (.fn 11 (.int 0)) (.int 2))), (true, (.int 2773480762), (.bi .sel (.fn 11 (.int 0)) (.int 3))), (true, (.int 1359893119), (.bi .sel (.fn 11 (.int 0)) (.int 4))), (true, (.int 2600822924), (.bi .sel (.fn 11 (.int 0)) (.int 5))), (true, (.int 528734635), (.bi .sel (.fn 11 (.int 0)) (.int 6))), (true, (.int 1541459225), (.bi .sel (.fn 11 (.int 0)) (.int 7))), (true, (.int 0), (.bi .sel (.fn 12 (.int 0)) (.int 0))), (true, (.int 0), (.bi .sel (.fn 12 (.int 0)) (.int 1))), (true, (.int 0), (.bi .sel (.fn 12 (.int 0)) (.int 2))), (true, (.int 0), (.bi .sel (.fn 12 (.int 0)) (.int 3))), (true, (.int 0), (.bi .sel (.fn 12 (.int 0)) (.int 4))), (true, (.int 0), (.bi .sel (.fn 12 (.int 0)) (.int 5))), (true, (.int 0), (.bi .sel (.fn 12 (.int 0)) (.int 6))), (true, (.int 0), (.bi .sel (.fn 12 (.int 0)) (.int 7))), (true, (.int 0), (.bi .sel (.fn 12 (.int 0)) (.int 8))), (true, (.int 0), (.bi .sel (.fn 12 (.int 0)) (.int 9))), (true, (.int 0), (.bi .sel (.fn 12 (.int 0)) (.int 10))), (true, (.int 0), (.bi .sel (.fn 12 (.int 0)) (.int 11))), (true, (.int 0), (.bi .sel (.fn 12 (.int 0)) (.int 12))), (true, (.int 0), (.bi .sel (.fn 12 (.int 0)) (.int 13))), (true, (.int 0), (.bi .sel (.fn 12 (.int 0)) (.int 14))), (true, (.int 0), (.bi .sel (.fn 12 (.int 0)) (.int 15))), (true, (.int 0), (.bi .sel (.fn 12 (.int 0)) (.int 16))), (true, (.int 0), (.bi .sel (.fn 12 (.int 0)) (.int 17))), (true, (.int 0), (.bi .sel (.fn 12 (.int 0)) (.int 18))), (true, (.int 0), (.bi .sel (.fn 12 (.int 0)) (.int 19))), (true, (.int 0), (.bi .sel (.fn 12 (.int 0)) (.int 20))), (true, (.int 0), (.bi .sel (.fn 12 (.int 0)) (.int 21))), (true, (.int 0), (.bi .sel (.fn 12 (.int 0)) (.int 22))), (true, (.int 0), (.bi .sel (.fn 12 (.int 0)) (.int 23))), (true, (.int 0), (.bi .sel (.fn 12 (.int 0)) (.int 24))), (true, (.int 0), (.bi .sel (.fn 12 (.int 0)) (.int 25))), (true, (.int 0), (.bi .sel (.fn 12 (.int 0)) (.int 26))), (true, (.int 0), (.bi .sel (.fn 12 (.int 0)) (.int 27))), (true, (.int 0), (.bi .sel (.fn 12 (.int 0)) (.int 28))), (true, (.int 0), (.bi .sel (.fn 12 (.int 0)) (.int 29))), (true, (.int 0), (.bi .sel (.fn 12 (.int 0)) (.int 30))), (true, (.int 0), (.bi .sel (.fn 12 (.int 0)) (.int 31))), (true, (.int 0), (.bi .sel (.fn 12 (.int 0)) (.int 32))), (true, (.int 0), (.bi .sel (.fn 12 (.int 0)) (.int 33))), (true, (.int 0), (.bi .sel (.fn 12 (.int 0)) (.int 34))), (true, (.int 0), (.bi .sel (.fn 12 (.int 0)) (.int 35))), (true, (.int 0), (.bi .sel (.fn 12 (.int 0)) (.int 36))), (true, (.int 0), (.bi .sel (.fn 12 (.int 0)) (.int 37))), (true, (.int 0), (.bi .sel (.fn 12 (.int 0)) (.int 38))), (true, (.int 0), (.bi .sel (.fn 12 (.int 0)) (.int 39))), (true, (.int 0), (.bi .sel (.fn 12 (.int 0)) (.int 40))), (true, (.int 0), (.bi .sel (.fn 12 (.int 0)) (.int 41))), (true, (.int 0), (.bi .sel (.fn 12 (.int 0)) (.int 42))), (true, (.int 0), (.bi .sel (.fn 12 (.int 0)) (.int 43))), (true, (.int 0), (.bi .sel (.fn 12 (.int 0)) (.int 44))), (true, (.int 0), (.bi .sel (.fn 12 (.int 0)) (.int 45))), (true, (.int 0), (.bi .sel (.fn 12 (.int 0)) (.int 46))), (true, (.int 0), (.bi .sel (.fn 12 (.int 0)) (.int 47))), (true, (.int 0), (.bi .sel (.fn 12 (.int 0)) (.int 48))), (true, (.int 0), (.bi .sel (.fn 12 (.int 0)) (.int 49))), (true, (.int 0), (.bi .sel (.fn 12 (.int 0)) (.int 50))), (true, (.int 0), (.bi .sel (.fn 12 (.int 0)) (.int 51))), (true, (.int 0), (.bi .sel (.fn 12 (.int 0)) (.int 52))), (true, (.int 0), (.bi .sel (.fn 12 (.int 0)) (.int 53))), (true, (.int 0), (.bi .sel (.fn 12 (.int 0)) (.int 54))), (true, (.int 0), (.bi .sel (.fn 12 (.int 0)) (.int 55))), (true, (.int 0), (.bi .sel (.fn 12 (.int 0)) (.int 56))), (true, (.int 0), (.bi .sel (.fn 12 (.int 0)) (.int 57))), (true, (.int 0), (.bi .sel (.fn 12 (.int 0)) (.int 58))), (true, (.int 0), (.bi .sel (.fn 12 (.int 0)) (.int 59))), (true, (.int 0), (.bi .sel (.fn 12 (.int 0)) (.int 60))), (true, (.int 0), (.bi .sel (.fn 12 (.int 0)) (.int 61))), (true, (.int 0), (.bi .sel (.fn 12 (.int 0)) (.int 62))), (true, (.int 0), (.bi .sel (.fn 12 (.int 0)) (.int 63)))]
theorem newC_y0 : endC newC [(1, 3)] 1000 (callC Tryd.prog (tellA newC_t0) [] [] [] 3000 40 29 newC) = some newC_d0 := by kernel_rfl
theorem newC_holds : CHolds Tryd.prog 29 newC F := by
 refine cholds_of sound (tableNil _ _) (specsNil _ _) (oversNil _ _) (fuel := 3000) (depth := 40) (by kernel_rfl) fun d hp hR hA => ?_
 have hp := allTold'_iff.2 hp
 simp only [newC, tl] at hp hR hA
 refine ⟨tellA newC_t0, _, _, _, tellA_ok (allTold'_iff.1 ?_), newC_y0, dutiesTold_ok ?_⟩
 ·simp only [newC_t0, tl]
 ·simp only [newC_d0, F11, F12, tl]
  and_intros <;> rfl

end Go.Proofs.YtidpndnehbhloaaDoor.Pq

set_option linter.unusedSimpArgs false
set_option linter.unusedVariables false
namespace Go.Proofs.YtidpndnehbhloaaDoor.Pqo
open Go.RowKit Go.Ev Go.Proofs.YtidpndnehbhloaaDoor.Co

open Go.Proofs.YtidpndnehbhloaaDoor.P0
open Go.Proofs.YtidpndnehbhloaaDoor.Pa
open Go.Proofs.YtidpndnehbhloaaDoor.Pu
open Go.Proofs.YtidpndnehbhloaaDoor.Puo
open Go.Proofs.YtidpndnehbhloaaDoor.Pq

abbrev zPqo3 : E := (.bi .add (.int 0) (.var 2))
abbrev txPqo0 : E := (.bi .pair zPqo3 (.int 0))
abbrev txPqo1 : E := (.bi .pair (.var 1) (.bi .pair (.var 2) (.int 0)))
abbrev zPqo1 : E := (.bi .pair (.var 5) txPqo1)
abbrev txPqo2 : E := (.bi .pair (.int 0) zPqo1)
abbrev txPqo3 : E := (.bi .sel (.fn 10 zPqo1) (.int 0))
abbrev txPqo4 : E := (.bi .sel (.fn 10 zPqo1) (.int 1))
abbrev txPqo5 : E := (.bi .sel (.fn 10 zPqo1) (.int 2))
abbrev txPqo6 : E := (.bi .sel (.fn 10 zPqo1) (.int 3))
abbrev txPqo7 : E := (.bi .sel (.fn 10 zPqo1) (.int 4))
abbrev txPqo8 : E := (.bi .sel (.fn 10 zPqo1) (.int 5))
abbrev txPqo9 : E := (.bi .sel (.fn 10 zPqo1) (.int 6))
abbrev txPqo10 : E := (.bi .sel (.fn 10 zPqo1) (.int 7))
abbrev txPqo11 : E := (.bi .sel (.fn 10 zPqo1) (.int 8))
abbrev txPqo12 : E := (.bi .sel (.fn 10 zPqo1) (.int 9))
abbrev txPqo13 : E := (.bi .sel (.fn 10 zPqo1) (.int 10))
abbrev txPqo14 : E := (.bi .sel (.fn 10 zPqo1) (.int 11))
abbrev txPqo15 : E := (.bi .sel (.fn 10 zPqo1) (.int 12))
abbrev txPqo16 : E := (.bi .sel (.fn 10 zPqo1) (.int 13))
abbrev txPqo17 : E := (.bi .sel (.fn 10 zPqo1) (.int 14))
abbrev txPqo18 : E := (.bi .sel (.fn 10 zPqo1) (.int 15))
abbrev txPqo19 : E := (.bi .pair (.fn 11 (.int 0)) (.bi .pair (.fn 12 (.int 0)) txPqo2))
abbrev txPqo20 : E := (.bi .pair (.fn 4 txPqo19) (.bi .pair (.fn 5 txPqo19) txPqo0))
abbrev zPqo0 : E := (.fn 10 (argsE [.var 5, .var 1, .var 2]))
abbrev zPqo2 : E := (.fn 61 (argsE [.var 5, .var 1, .var 2]))
abbrev zPqo4 : E := (.bi .add (.var 1) (.var 2))
def sumBO : CSpec := { args := [.sslice 3 (.var 1) (.var 2) (.var 3) true], next := 2, rows := [(3, .eseq ⟨.u8, .var 4, .var 5⟩), (0, .ext cellsG)], pre := [(.le zPqo4 (.var 4), true), (.le (.var 2) (.int 1000000), true)], res := .agg [.sint .u8 (.bi .sel zPqo0 (.int 0)), .sint .u8 (.bi .sel zPqo0 (.int 1)), .sint .u8 (.bi .sel zPqo0 (.int 2)), .sint .u8 (.bi .sel zPqo0 (.int 3)), .sint .u8 (.bi .sel zPqo0 (.int 4)), .sint .u8 (.bi .sel zPqo0 (.int 5)), .sint .u8 (.bi .sel zPqo0 (.int 6)), .sint .u8 (.bi .sel zPqo0 (.int 7)), .sint .u8 (.bi .sel zPqo0 (.int 8)), .sint .u8 (.bi .sel zPqo0 (.int 9)), .sint .u8 (.bi .sel zPqo0 (.int 10)), .sint .u8 (.bi .sel zPqo0 (.int 11)), .sint .u8 (.bi .sel zPqo0 (.int 12)), .sint .u8 (.bi .sel zPqo0 (.int 13)), .sint .u8 (.bi .sel zPqo0 (.int 14)), .sint .u8 (.bi .sel zPqo0 (.int 15)), .sint .u8 (.bi .sel zPqo0 (.int 16)), .sint .u8 (.bi .sel zPqo0 (.int 17)), .sint .u8 (.bi .sel zPqo0 (.int 18)), .sint .u8 (.bi .sel zPqo0 (.int 19)), .sint .u8 (.bi .sel zPqo0 (.int 20)), .sint .u8 (.bi .sel zPqo0 (.int 21)), .sint .u8 (.bi .sel zPqo0 (.int 22)), .sint .u8 (.bi .sel zPqo0 (.int 23)), .sint .u8 (.bi .sel zPqo0 (.int 24)), .sint .u8 (.bi .sel zPqo0 (.int 25)), .sint .u8 (.bi .sel zPqo0 (.int 26)), .sint .u8 (.bi .sel zPqo0 (.int 27)), .sint .u8 (.bi .sel zPqo0 (.int 28)), .sint .u8 (.bi .sel zPqo0 (.int 29)), .sint .u8 (.bi .sel zPqo0 (.int 30)), .sint .u8 (.bi .sel zPqo0 (.int 31))], frows := [], same := [] }
abbrev asPqo0 : Q × Bool := ((.le zPqo3 (.int 4611686018427387904)), true)
abbrev asPqo1 : Q × Bool := ((.eq (.un .len (.fn 12 (.int 0))) (.int 64)), true)
abbrev asPqo2 : Q × Bool := ((.le zPqo4 (.var 4)), true)
abbrev asPqo3 : Q × Bool := ((.le (.int 0) zPqo3), true)
abbrev asPqo4 : Q × Bool := ((.le zPqo3 (.int 1152921504606846976)), true)
abbrev asPqo5 : Q × Bool := ((.eq (.un .len (.fn 5 txPqo19)) (.int 64)), true)
def sumBO_t0 : List (Q × Bool) := [asPqo0, asPqo1, asPqo2, asPqo3, asPqo4, asPqo5]
def sumBO_d0 : List Duty := [(true, (.bi .sel (.fn 9 txPqo20) (.int 0)), txPqo3), (true, (.bi .sel (.fn 9 txPqo20) (.int 1)), txPqo4), (true, (.bi .sel (.fn 9 txPqo20) (.int 2)), txPqo5), (true, (.bi .sel (.fn 9 txPqo20) (.int 3)), txPqo6), (true, (.bi .sel (.fn 9 txPqo20) (.int 4)), txPqo7), (true, (.bi .sel (.fn 9 txPqo20) (.int 5)), txPqo8), (true, (.bi .sel (.fn 9 txPqo20) (.int 6)), txPqo9), (true, (.bi .sel (.fn 9 txPqo20) (.int 7)), txPqo10), (true, (.bi .sel (.fn 9 txPqo20) (.int 8)), txPqo11), (true, (.bi .sel (.fn 9 txPqo20) (.int 9)), txPqo12), (true, (.bi .sel (.fn 9 txPqo20) (.int 10)), txPqo13), (true, (.bi .sel (.fn 9 txPqo20) (.int 11)), txPqo14), (true, (.bi .sel (.fn 9 txPqo20) (.int 12)), txPqo15), (true, (.bi .sel (.fn 9 txPqo20) (.int 13)), txPqo16), (true, (.bi .sel (.fn 9 txPqo20) (.int 14)), txPqo17), (true, (.bi .sel (.fn 9 txPqo20) (.int 15)), txPqo18), (true, (.bi .sel (.fn 9 txPqo20) (.int 16)), (.bi .sel (.fn 10 zPqo1) (.int 16))), (true, (.bi .sel (.fn 9 txPqo20) (.int 17)), (.bi .sel (.fn 10 zPqo1) (.int 17))), (true, (.bi .sel (.fn 9 txPqo20) (.int 18)), (.bi .sel (.fn 10 zPqo1) (.int 18))), (true, (.bi .sel (.fn 9 txPqo20) (.int 19)), (.bi .sel (.fn 10 zPqo1) (.int 19))), (true, (.bi .sel (.fn 9 txPqo20) (.int 20)), (.bi .sel (.fn 10 zPqo1) (.int 20))), (true, (.bi .sel (.fn 9 txPqo20) (.int 21)), (.bi .sel (.fn 10 zPqo1) (.int 21))), (true, (.bi .sel (.fn 9 txPqo20) (.int 22)), (.bi .sel (.fn 10 zPqo1) (.int 22))), (true, (.bi .sel (.fn 9 txPqo20) (.int 23)), (.bi .sel (.fn 10 zPqo1) (.int 23))), (true, (.bi .sel (.fn 9 txPqo20) (.int 24)), (.bi .sel (.fn 10 zPqo1) (.int 24))), (true, (.bi .sel (.fn 9 txPqo20) (.int 25)), (.bi .sel (.fn 10 zPqo1) (.int 25))), (true, (.bi .sel (.fn 9 txPqo20) (.int 26)), (.bi .sel (.fn 10 zPqo1) (.int 26))), (true, (.bi .sel (.fn 9 txPqo20) (.int 27)), (.bi .sel (.fn 10 zPqo1) (.int 27))), (true, (.bi .sel (.fn 9 txPqo20) (.int 28)), (.bi .sel (.fn 10 zPqo1) (.int 28))), (true, (.bi .sel (.fn 9 txPqo20) (.int 29)), (.bi .sel (.fn 10 zPqo1) (.int 29))), (true, (.bi .sel (.fn 9 txPqo20) (.int 30)), (.bi .sel (.fn 10 zPqo1) (.int 30))), (true, (.bi .sel (.fn 9 txPqo20) (.int 31)), (.bi .sel (.fn 10 zPqo1) (.int 31)))]
theorem sumBO_y0 : endC sumBO [] 1000 (callC Tryd.prog (tellA sumBO_t0) [⟨39, [4], takeDO⟩] [(40, sumC), (29, newC)] [] 3000 40 23 sumBO) = some sumBO_d0 := by kernel_rfl
theorem sumBO_holds : CHolds Tryd.prog 23 sumBO F := by
 refine cholds_of sound (tableCons takeDO_holds (tableNil _ _)) (specsCons sumC_holds (specsCons newC_holds (specsNil _ _))) (oversNil _ _) (fuel := 3000) (depth := 40) (by kernel_rfl) fun d hp hR hA => ?_
 have hp := allTold'_iff.2 hp
 simp only [sumBO, tl] at hp hR hA
 have hl := prt_length (x := (d 5).ints) (o := (d 1).toInt) (t := (d 1).toInt + (d 2).toInt) (by omega) (by omega) (by omega)
 refine ⟨tellA sumBO_t0, _, _, _, tellA_ok (allTold'_iff.1 ?_), sumBO_y0, dutiesTold_ok ?_⟩
 ·simp only [sumBO_t0, F4, F5, F11, F12, tl]
  have hb : ∀ r, (takeI ⟨firstL, List.replicate 64 0, 0⟩ r).b.length = 64 := fun r => take_b (by simp)
  simp only [hb, List.length_replicate]
  omega
 ·simp only [sumBO_d0, F4, F5, F9, F10, F11, F12, tl]
  have hz := take_z zeroK (prt (d 5).ints (d 1).toInt ((d 1).toInt + (d 2).toInt))
  have hz : 0 + (d 2).toInt = (takeI zeroK (prt (d 5).ints (d 1).toInt ((d 1).toInt + (d 2).toInt))).z := by
   rw [hz]
   show _ = (0 : Int) + _
   omega
  rw [hz]
  and_intros <;> rfl

def idCO : CSpec := { args := [.sslice 3 (.var 1) (.var 2) (.var 3) true], next := 2, rows := [(3, .eseq ⟨.u8, .var 4, .var 5⟩), (0, .ext cellsG)], pre := [(.le zPqo4 (.var 4), true), (.le (.int 1) (.var 2), true), (.le (.var 2) (.int 100000), true)], res := .agg [.sint .u8 (.bi .sel zPqo2 (.int 0)), .sint .u8 (.bi .sel zPqo2 (.int 1)), .sint .u8 (.bi .sel zPqo2 (.int 2)), .sint .u8 (.bi .sel zPqo2 (.int 3)), .sint .u8 (.bi .sel zPqo2 (.int 4)), .sint .u8 (.bi .sel zPqo2 (.int 5)), .sint .u8 (.bi .sel zPqo2 (.int 6)), .sint .u8 (.bi .sel zPqo2 (.int 7)), .sint .u8 (.bi .sel zPqo2 (.int 8)), .sint .u8 (.bi .sel zPqo2 (.int 9)), .sint .u8 (.bi .sel zPqo2 (.int 10)), .sint .u8 (.bi .sel zPqo2 (.int 11)), .sint .u8 (.bi .sel zPqo2 (.int 12)), .sint .u8 (.bi .sel zPqo2 (.int 13)), .sint .u8 (.bi .sel zPqo2 (.int 14)), .sint .u8 (.bi .sel zPqo2 (.int 15))], frows := [], same := [] }
abbrev asPqo6 : Q × Bool := ((.le (.var 2) (.int 1000000)), true)
def idCO_t0 : List (Q × Bool) := [asPqo2, asPqo6]
def idCO_d0 : List Duty := [(true, txPqo3, (.bi .sel (.fn 61 zPqo1) (.int 0))), (true, txPqo4, (.bi .sel (.fn 61 zPqo1) (.int 1))), (true, txPqo5, (.bi .sel (.fn 61 zPqo1) (.int 2))), (true, txPqo6, (.bi .sel (.fn 61 zPqo1) (.int 3))), (true, txPqo7, (.bi .sel (.fn 61 zPqo1) (.int 4))), (true, txPqo8, (.bi .sel (.fn 61 zPqo1) (.int 5))), (true, txPqo9, (.bi .sel (.fn 61 zPqo1) (.int 6))), (true, txPqo10, (.bi .sel (.fn 61 zPqo1) (.int 7))), (true, txPqo11, (.bi .sel (.fn 61 zPqo1) (.int 8))), (true, txPqo12, (.bi .sel (.fn 61 zPqo1) (.int 9))), (true, txPqo13, (.bi .sel (.fn 61 zPqo1) (.int 10))), (true, txPqo14, (.bi .sel (.fn 61 zPqo1) (.int 11))), (true, txPqo15, (.bi .sel (.fn 61 zPqo1) (.int 12))), (true, txPqo16, (.bi .sel (.fn 61 zPqo1) (.int 13))), (true, txPqo17, (.bi .sel (.fn 61 zPqo1) (.int 14))), (true, txPqo18, (.bi .sel (.fn 61 zPqo1) (.int 15)))]
theorem idCO_y0 : endC idCO [] 1000 (callC Tryd.prog (tellA idCO_t0) [] [(23, sumBO)] [] 3000 40 11 idCO) = some idCO_d0 := by kernel_rfl
theorem idCO_holds : CHolds Tryd.prog 11 idCO F := by
 refine cholds_of sound (tableNil _ _) (specsCons sumBO_holds (specsNil _ _)) (oversNil _ _) (fuel := 3000) (depth := 40) (by kernel_rfl) fun d hp hR hA => ?_
 have hp := allTold'_iff.2 hp
 simp only [idCO, tl] at hp hR hA
 refine ⟨tellA idCO_t0, _, _, _, tellA_ok (allTold'_iff.1 ?_), idCO_y0, dutiesTold_ok ?_⟩
 ·simp only [idCO_t0, tl]
  omega
 ·simp only [idCO_d0, F10, F61, tl]
  unfold idI
  and_intros <;> rfl

end Go.Proofs.YtidpndnehbhloaaDoor.Pqo
