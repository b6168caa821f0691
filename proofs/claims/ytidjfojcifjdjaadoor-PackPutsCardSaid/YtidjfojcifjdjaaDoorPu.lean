/-
 Contracts of this seat: what loops and calls leave, for all inputs. No condition.
-/
import Derived.Test.YtidjfojcifjdjaaDoorSycp
import Derived.Test.YtidjfojcifjdjaaDoorCo
import Derived.Test.YtidjfojcifjdjaaDoorP0
import Derived.Test.YtidjfojcifjdjaaDoorPa
set_option linter.unusedSimpArgs false
set_option linter.unusedVariables false
namespace Go.Proofs.YtidjfojcifjdjaaDoor.Pu
open Go.RowKit Go.Ev Go.Proofs.YtidjfojcifjdjaaDoor.Co

open Go.Proofs.YtidjfojcifjdjaaDoor.P0
open Go.Proofs.YtidjfojcifjdjaaDoor.Pa

abbrev dqPu (a b : E) (j : Int) : Duty := (true, .bi .sel a (.int j), .bi .sel b (.int j))
abbrev vu32Pu (a : E) (j : Int) : AV := .sint .u32 (.bi .sel a (.int j))
abbrev vu8Pu (a : E) (j : Int) : AV := .sint .u8 (.bi .sel a (.int j))
abbrev txPu0 : E := (.bi .pair (.var 3) (.bi .pair (.var 4) (.int 0)))
abbrev zPu2 : E := (.bi .add (.var 3) (.var 4))
abbrev txPu1 : E := (.tr .cut (.var 7) (.var 3) zPu2)
abbrev zPu1 : E := (.bi (.iop .rem .i64) (.var 2) (.int 64))
abbrev txPu2 : E := (.bi .sub (.int 64) zPu1)
abbrev txPu3 : E := (.fn 4 (argsE [.var 0, .var 1, .var 2, .var 7, .var 3, .var 4]))
abbrev txPu4 : E := (.fn 5 (argsE [.var 0, .var 1, .var 2, .var 7, .var 3, .var 4]))
abbrev txPu5 : E := (.bi .pair zPu2 (.bi .pair (.int 0) (.int 0)))
abbrev txPu6 : E := (.bi .pair (.var 2) (.bi .pair (.var 7) txPu0))
abbrev txPu7 : E := (.bi .pair (.bi .sub (.var 4) txPu2) (.int 0))
abbrev txPu8 : E := (.tr .splice (.var 1) zPu1 txPu1)
abbrev zPu0 : E := (.bi .add (.var 2) (.var 4))
abbrev txPu9 : E := (.bi .pair zPu0 (.bi .pair (.var 7) txPu5))
abbrev txPu10 : E := (.bi .pair (.var 0) (.bi .pair (.var 1) txPu6))
abbrev txPu11 : E := (.bi .pair (.var 0) (.bi .pair txPu8 (.int 0)))
abbrev txPu12 : E := (.tr .splice (.var 1) zPu1 (.tr .cut txPu1 (.int 0) txPu2))
abbrev txPu13 : E := (.bi .pair (.var 7) (.bi .pair (.bi .add (.var 3) txPu2) txPu7))
abbrev txPu14 : E := (.bi .pair (.var 0) (.bi .pair txPu12 (.int 0)))
abbrev txPu15 : E := (.bi .pair (.var 0) (.bi .pair txPu8 txPu9))
abbrev txPu16 : E := (.bi .pair (.bi .add (.var 2) txPu2) txPu13)
abbrev txPu17 : E := (.bi .pair (.fn 3 txPu11) (.bi .pair txPu8 txPu9))
abbrev txPu18 : E := (.bi .pair (.fn 3 txPu14) (.bi .pair txPu12 txPu16))
abbrev zPu3 : E := (.bi .sub (.var 5) (.var 4))
def takeK : LSpec := { n := 48, next := 2, pat := [(0, .ptr 1 0), (1, .sslice 3 (.var 3) (.var 4) (.var 5) true)], rows := [(1, .cells 91 0 false false [vu32Pu (.var 0) 0, vu32Pu (.var 0) 1, vu32Pu (.var 0) 2, vu32Pu (.var 0) 3, vu32Pu (.var 0) 4, vu32Pu (.var 0) 5, vu32Pu (.var 0) 6, vu32Pu (.var 0) 7, vu8Pu (.var 1) 0, vu8Pu (.var 1) 1, vu8Pu (.var 1) 2, vu8Pu (.var 1) 3, vu8Pu (.var 1) 4, vu8Pu (.var 1) 5, vu8Pu (.var 1) 6, vu8Pu (.var 1) 7, vu8Pu (.var 1) 8, vu8Pu (.var 1) 9, vu8Pu (.var 1) 10, vu8Pu (.var 1) 11, vu8Pu (.var 1) 12, vu8Pu (.var 1) 13, vu8Pu (.var 1) 14, vu8Pu (.var 1) 15, vu8Pu (.var 1) 16, vu8Pu (.var 1) 17, vu8Pu (.var 1) 18, vu8Pu (.var 1) 19, vu8Pu (.var 1) 20, vu8Pu (.var 1) 21, vu8Pu (.var 1) 22, vu8Pu (.var 1) 23, vu8Pu (.var 1) 24, vu8Pu (.var 1) 25, vu8Pu (.var 1) 26, vu8Pu (.var 1) 27, vu8Pu (.var 1) 28, vu8Pu (.var 1) 29, vu8Pu (.var 1) 30, vu8Pu (.var 1) 31, vu8Pu (.var 1) 32, vu8Pu (.var 1) 33, vu8Pu (.var 1) 34, vu8Pu (.var 1) 35, vu8Pu (.var 1) 36, vu8Pu (.var 1) 37, vu8Pu (.var 1) 38, vu8Pu (.var 1) 39, vu8Pu (.var 1) 40, vu8Pu (.var 1) 41, vu8Pu (.var 1) 42, vu8Pu (.var 1) 43, vu8Pu (.var 1) 44, vu8Pu (.var 1) 45, vu8Pu (.var 1) 46, vu8Pu (.var 1) 47, vu8Pu (.var 1) 48, vu8Pu (.var 1) 49, vu8Pu (.var 1) 50, vu8Pu (.var 1) 51, vu8Pu (.var 1) 52, vu8Pu (.var 1) 53, vu8Pu (.var 1) 54, vu8Pu (.var 1) 55, vu8Pu (.var 1) 56, vu8Pu (.var 1) 57, vu8Pu (.var 1) 58, vu8Pu (.var 1) 59, vu8Pu (.var 1) 60, vu8Pu (.var 1) 61, vu8Pu (.var 1) 62, vu8Pu (.var 1) 63, .sint .i64 (.var 2)]), (3, .eseq ⟨.u8, .var 6, .var 7⟩), (0, .ext cellsG)], pre := [(.le (.int 0) (.var 2), true), (.le zPu0 (.int 4611686018427387904), true), (.eq (.un .len (.var 1)) (.int 64), true), (.le zPu2 (.var 6), true)], x := 0, fin := [], frows := [(1, .cells 91 0 false false [vu32Pu txPu3 0, vu32Pu txPu3 1, vu32Pu txPu3 2, vu32Pu txPu3 3, vu32Pu txPu3 4, vu32Pu txPu3 5, vu32Pu txPu3 6, vu32Pu txPu3 7, vu8Pu txPu4 0, vu8Pu txPu4 1, vu8Pu txPu4 2, vu8Pu txPu4 3, vu8Pu txPu4 4, vu8Pu txPu4 5, vu8Pu txPu4 6, vu8Pu txPu4 7, vu8Pu txPu4 8, vu8Pu txPu4 9, vu8Pu txPu4 10, vu8Pu txPu4 11, vu8Pu txPu4 12, vu8Pu txPu4 13, vu8Pu txPu4 14, vu8Pu txPu4 15, vu8Pu txPu4 16, vu8Pu txPu4 17, vu8Pu txPu4 18, vu8Pu txPu4 19, vu8Pu txPu4 20, vu8Pu txPu4 21, vu8Pu txPu4 22, vu8Pu txPu4 23, vu8Pu txPu4 24, vu8Pu txPu4 25, vu8Pu txPu4 26, vu8Pu txPu4 27, vu8Pu txPu4 28, vu8Pu txPu4 29, vu8Pu txPu4 30, vu8Pu txPu4 31, vu8Pu txPu4 32, vu8Pu txPu4 33, vu8Pu txPu4 34, vu8Pu txPu4 35, vu8Pu txPu4 36, vu8Pu txPu4 37, vu8Pu txPu4 38, vu8Pu txPu4 39, vu8Pu txPu4 40, vu8Pu txPu4 41, vu8Pu txPu4 42, vu8Pu txPu4 43, vu8Pu txPu4 44, vu8Pu txPu4 45, vu8Pu txPu4 46, vu8Pu txPu4 47, vu8Pu txPu4 48, vu8Pu txPu4 49, vu8Pu txPu4 50, vu8Pu txPu4 51, vu8Pu txPu4 52, vu8Pu txPu4 53, vu8Pu txPu4 54, vu8Pu txPu4 55, vu8Pu txPu4 56, vu8Pu txPu4 57, vu8Pu txPu4 58, vu8Pu txPu4 59, vu8Pu txPu4 60, vu8Pu txPu4 61, vu8Pu txPu4 62, vu8Pu txPu4 63, .sint .i64 zPu0])], same := [1], chg := [0, 1, 4, 5, 6, 7, 8, 9, 10, 11, 12, 13, 14, 15, 16, 17, 18, 19, 20, 21, 22, 23, 24, 25, 26, 27, 28, 29, 30, 31, 32, 33, 34, 35, 36, 37, 38, 39, 40, 41, 42, 43, 44, 45, 46, 47] }
abbrev asPu0 : Q × Bool := ((.fit .i64 (.var 4)), true)
abbrev asPu1 : Q × Bool := ((.le (.var 4) (.int 0)), true)
def takeK_t0 : List (Q × Bool) := [asPu0, asPu1]
def takeK_d0 : List Duty := [dqPu (.var 0) (.fn 4 txPu10) 0, dqPu (.var 0) (.fn 4 txPu10) 1, dqPu (.var 0) (.fn 4 txPu10) 2, dqPu (.var 0) (.fn 4 txPu10) 3, dqPu (.var 0) (.fn 4 txPu10) 4, dqPu (.var 0) (.fn 4 txPu10) 5, dqPu (.var 0) (.fn 4 txPu10) 6, dqPu (.var 0) (.fn 4 txPu10) 7, dqPu (.var 1) (.fn 5 txPu10) 0, dqPu (.var 1) (.fn 5 txPu10) 1, dqPu (.var 1) (.fn 5 txPu10) 2, dqPu (.var 1) (.fn 5 txPu10) 3, dqPu (.var 1) (.fn 5 txPu10) 4, dqPu (.var 1) (.fn 5 txPu10) 5, dqPu (.var 1) (.fn 5 txPu10) 6, dqPu (.var 1) (.fn 5 txPu10) 7, dqPu (.var 1) (.fn 5 txPu10) 8, dqPu (.var 1) (.fn 5 txPu10) 9, dqPu (.var 1) (.fn 5 txPu10) 10, dqPu (.var 1) (.fn 5 txPu10) 11, dqPu (.var 1) (.fn 5 txPu10) 12, dqPu (.var 1) (.fn 5 txPu10) 13, dqPu (.var 1) (.fn 5 txPu10) 14, dqPu (.var 1) (.fn 5 txPu10) 15, dqPu (.var 1) (.fn 5 txPu10) 16, dqPu (.var 1) (.fn 5 txPu10) 17, dqPu (.var 1) (.fn 5 txPu10) 18, dqPu (.var 1) (.fn 5 txPu10) 19, dqPu (.var 1) (.fn 5 txPu10) 20, dqPu (.var 1) (.fn 5 txPu10) 21, dqPu (.var 1) (.fn 5 txPu10) 22, dqPu (.var 1) (.fn 5 txPu10) 23, dqPu (.var 1) (.fn 5 txPu10) 24, dqPu (.var 1) (.fn 5 txPu10) 25, dqPu (.var 1) (.fn 5 txPu10) 26, dqPu (.var 1) (.fn 5 txPu10) 27, dqPu (.var 1) (.fn 5 txPu10) 28, dqPu (.var 1) (.fn 5 txPu10) 29, dqPu (.var 1) (.fn 5 txPu10) 30, dqPu (.var 1) (.fn 5 txPu10) 31, dqPu (.var 1) (.fn 5 txPu10) 32, dqPu (.var 1) (.fn 5 txPu10) 33, dqPu (.var 1) (.fn 5 txPu10) 34, dqPu (.var 1) (.fn 5 txPu10) 35, dqPu (.var 1) (.fn 5 txPu10) 36, dqPu (.var 1) (.fn 5 txPu10) 37, dqPu (.var 1) (.fn 5 txPu10) 38, dqPu (.var 1) (.fn 5 txPu10) 39, dqPu (.var 1) (.fn 5 txPu10) 40, dqPu (.var 1) (.fn 5 txPu10) 41, dqPu (.var 1) (.fn 5 txPu10) 42, dqPu (.var 1) (.fn 5 txPu10) 43, dqPu (.var 1) (.fn 5 txPu10) 44, dqPu (.var 1) (.fn 5 txPu10) 45, dqPu (.var 1) (.fn 5 txPu10) 46, dqPu (.var 1) (.fn 5 txPu10) 47, dqPu (.var 1) (.fn 5 txPu10) 48, dqPu (.var 1) (.fn 5 txPu10) 49, dqPu (.var 1) (.fn 5 txPu10) 50, dqPu (.var 1) (.fn 5 txPu10) 51, dqPu (.var 1) (.fn 5 txPu10) 52, dqPu (.var 1) (.fn 5 txPu10) 53, dqPu (.var 1) (.fn 5 txPu10) 54, dqPu (.var 1) (.fn 5 txPu10) 55, dqPu (.var 1) (.fn 5 txPu10) 56, dqPu (.var 1) (.fn 5 txPu10) 57, dqPu (.var 1) (.fn 5 txPu10) 58, dqPu (.var 1) (.fn 5 txPu10) 59, dqPu (.var 1) (.fn 5 txPu10) 60, dqPu (.var 1) (.fn 5 txPu10) 61, dqPu (.var 1) (.fn 5 txPu10) 62, dqPu (.var 1) (.fn 5 txPu10) 63, (true, (.var 2), zPu0)]
noncomputable abbrev ltPu0 : List LEntry := [⟨70, [4, 1, 0, 1, 1, 1], sprL⟩, ⟨66, [4, 1, 0, 1, 1, 1], mixL⟩, ⟨54, [4, 1, 0, 1, 1, 1], moreL⟩, ⟨54, [4, 1, 0, 1, 1, 1], moreLO⟩]
theorem takeK_y0 : endD takeK [(3, 3), (1, 1)] 1000 (roundC Tryd.prog ltPu0 [(66, mixedC), (67, fillC), (68, bytesC), (62, tableC), (54, moreC), (54, moreCO), (32, putC), (32, putCO)] [] 3000 40 60 [4] (tellA takeK_t0) takeK) = some takeK_d0 := by kernel_rfl
abbrev asPu2 : Q × Bool := ((.le (.var 4) (.int 0)), false)
abbrev asPu3 : Q × Bool := ((.le (.int 0) zPu1), true)
abbrev asPu4 : Q × Bool := ((.le zPu1 (.int 64)), true)
abbrev asPu5 : Q × Bool := ((.le zPu2 (.var 6)), true)
abbrev asPu6 : Q × Bool := ((.le (.var 4) txPu2), true)
abbrev asPu7 : Q × Bool := ((.le (.bi .add zPu1 (.var 4)) (.int 64)), true)
abbrev asPu8 : Q × Bool := ((.le (.int 64) (.un .len (.var 1))), true)
abbrev asPu9 : Q × Bool := ((.fit .i64 zPu0), true)
abbrev asPu10 : Q × Bool := ((.le (.int 0) (.var 4)), true)
abbrev asPu11 : Q × Bool := ((.le (.var 4) (.var 5)), true)
abbrev asPu12 : Q × Bool := ((.eq (.bi (.iop .rem .i64) zPu0 (.int 64)) (.int 0)), false)
def takeK_t1 : List (Q × Bool) := [asPu0, asPu2, asPu3, asPu4, asPu5, asPu6, asPu7, asPu8, asPu9, asPu10, asPu11, asPu12]
def takeK_d1 : List Duty := [dqPu (.fn 4 txPu15) (.fn 4 txPu10) 0, dqPu (.fn 4 txPu15) (.fn 4 txPu10) 1, dqPu (.fn 4 txPu15) (.fn 4 txPu10) 2, dqPu (.fn 4 txPu15) (.fn 4 txPu10) 3, dqPu (.fn 4 txPu15) (.fn 4 txPu10) 4, dqPu (.fn 4 txPu15) (.fn 4 txPu10) 5, dqPu (.fn 4 txPu15) (.fn 4 txPu10) 6, dqPu (.fn 4 txPu15) (.fn 4 txPu10) 7, dqPu (.fn 5 txPu15) (.fn 5 txPu10) 0, dqPu (.fn 5 txPu15) (.fn 5 txPu10) 1, dqPu (.fn 5 txPu15) (.fn 5 txPu10) 2, dqPu (.fn 5 txPu15) (.fn 5 txPu10) 3, dqPu (.fn 5 txPu15) (.fn 5 txPu10) 4, dqPu (.fn 5 txPu15) (.fn 5 txPu10) 5, dqPu (.fn 5 txPu15) (.fn 5 txPu10) 6, dqPu (.fn 5 txPu15) (.fn 5 txPu10) 7, dqPu (.fn 5 txPu15) (.fn 5 txPu10) 8, dqPu (.fn 5 txPu15) (.fn 5 txPu10) 9, dqPu (.fn 5 txPu15) (.fn 5 txPu10) 10, dqPu (.fn 5 txPu15) (.fn 5 txPu10) 11, dqPu (.fn 5 txPu15) (.fn 5 txPu10) 12, dqPu (.fn 5 txPu15) (.fn 5 txPu10) 13, dqPu (.fn 5 txPu15) (.fn 5 txPu10) 14, dqPu (.fn 5 txPu15) (.fn 5 txPu10) 15, dqPu (.fn 5 txPu15) (.fn 5 txPu10) 16, dqPu (.fn 5 txPu15) (.fn 5 txPu10) 17, dqPu (.fn 5 txPu15) (.fn 5 txPu10) 18, dqPu (.fn 5 txPu15) (.fn 5 txPu10) 19, dqPu (.fn 5 txPu15) (.fn 5 txPu10) 20, dqPu (.fn 5 txPu15) (.fn 5 txPu10) 21, dqPu (.fn 5 txPu15) (.fn 5 txPu10) 22, dqPu (.fn 5 txPu15) (.fn 5 txPu10) 23, dqPu (.fn 5 txPu15) (.fn 5 txPu10) 24, dqPu (.fn 5 txPu15) (.fn 5 txPu10) 25, dqPu (.fn 5 txPu15) (.fn 5 txPu10) 26, dqPu (.fn 5 txPu15) (.fn 5 txPu10) 27, dqPu (.fn 5 txPu15) (.fn 5 txPu10) 28, dqPu (.fn 5 txPu15) (.fn 5 txPu10) 29, dqPu (.fn 5 txPu15) (.fn 5 txPu10) 30, dqPu (.fn 5 txPu15) (.fn 5 txPu10) 31, dqPu (.fn 5 txPu15) (.fn 5 txPu10) 32, dqPu (.fn 5 txPu15) (.fn 5 txPu10) 33, dqPu (.fn 5 txPu15) (.fn 5 txPu10) 34, dqPu (.fn 5 txPu15) (.fn 5 txPu10) 35, dqPu (.fn 5 txPu15) (.fn 5 txPu10) 36, dqPu (.fn 5 txPu15) (.fn 5 txPu10) 37, dqPu (.fn 5 txPu15) (.fn 5 txPu10) 38, dqPu (.fn 5 txPu15) (.fn 5 txPu10) 39, dqPu (.fn 5 txPu15) (.fn 5 txPu10) 40, dqPu (.fn 5 txPu15) (.fn 5 txPu10) 41, dqPu (.fn 5 txPu15) (.fn 5 txPu10) 42, dqPu (.fn 5 txPu15) (.fn 5 txPu10) 43, dqPu (.fn 5 txPu15) (.fn 5 txPu10) 44, dqPu (.fn 5 txPu15) (.fn 5 txPu10) 45, dqPu (.fn 5 txPu15) (.fn 5 txPu10) 46, dqPu (.fn 5 txPu15) (.fn 5 txPu10) 47, dqPu (.fn 5 txPu15) (.fn 5 txPu10) 48, dqPu (.fn 5 txPu15) (.fn 5 txPu10) 49, dqPu (.fn 5 txPu15) (.fn 5 txPu10) 50, dqPu (.fn 5 txPu15) (.fn 5 txPu10) 51, dqPu (.fn 5 txPu15) (.fn 5 txPu10) 52, dqPu (.fn 5 txPu15) (.fn 5 txPu10) 53, dqPu (.fn 5 txPu15) (.fn 5 txPu10) 54, dqPu (.fn 5 txPu15) (.fn 5 txPu10) 55, dqPu (.fn 5 txPu15) (.fn 5 txPu10) 56, dqPu (.fn 5 txPu15) (.fn 5 txPu10) 57, dqPu (.fn 5 txPu15) (.fn 5 txPu10) 58, dqPu (.fn 5 txPu15) (.fn 5 txPu10) 59, dqPu (.fn 5 txPu15) (.fn 5 txPu10) 60, dqPu (.fn 5 txPu15) (.fn 5 txPu10) 61, dqPu (.fn 5 txPu15) (.fn 5 txPu10) 62, dqPu (.fn 5 txPu15) (.fn 5 txPu10) 63, (true, (.bi .add zPu0 (.int 0)), zPu0)]
def takeK_h1 : List (Nat × E) := [(6, (.var 6)), (7, (.var 7)), (2, zPu0), (1, txPu8), (0, (.var 0)), (3, zPu2), (4, (.int 0)), (5, zPu3)]
theorem takeK_h1_a : lookE takeK_h1 0 = (.var 0) ∧ lookE takeK_h1 1 = txPu8 ∧ lookE takeK_h1 2 = zPu0 ∧ lookE takeK_h1 3 = zPu2 ∧ lookE takeK_h1 4 = (.int 0) ∧ lookE takeK_h1 5 = zPu3 ∧ lookE takeK_h1 6 = (.var 6) ∧ lookE takeK_h1 7 = (.var 7) := ⟨rfl, rfl, rfl, rfl, rfl, rfl, rfl, rfl⟩
noncomputable abbrev ltPu1 : List (FuncId × CSpec) := [(66, mixedC), (67, fillC), (68, bytesC), (62, tableC), (54, moreC), (54, moreCO), (32, putC), (32, putCO)]
theorem takeK_y1 : nextD takeK takeK_h1 [(3, 3), (1, 1)] (roundC Tryd.prog ltPu0 ltPu1 [] 3000 40 60 [4] (tellA takeK_t1) takeK) = some takeK_d1 := by kernel_rfl
abbrev asPu13 : Q × Bool := ((.eq (.bi (.iop .rem .i64) zPu0 (.int 64)) (.int 0)), true)
def takeK_t2 : List (Q × Bool) := [asPu0, asPu2, asPu3, asPu4, asPu5, asPu6, asPu7, asPu8, asPu9, asPu10, asPu11, asPu13]
def takeK_d2 : List Duty := [dqPu (.fn 4 txPu17) (.fn 4 txPu10) 0, dqPu (.fn 4 txPu17) (.fn 4 txPu10) 1, dqPu (.fn 4 txPu17) (.fn 4 txPu10) 2, dqPu (.fn 4 txPu17) (.fn 4 txPu10) 3, dqPu (.fn 4 txPu17) (.fn 4 txPu10) 4, dqPu (.fn 4 txPu17) (.fn 4 txPu10) 5, dqPu (.fn 4 txPu17) (.fn 4 txPu10) 6, dqPu (.fn 4 txPu17) (.fn 4 txPu10) 7, dqPu (.fn 5 txPu17) (.fn 5 txPu10) 0, dqPu (.fn 5 txPu17) (.fn 5 txPu10) 1, dqPu (.fn 5 txPu17) (.fn 5 txPu10) 2, dqPu (.fn 5 txPu17) (.fn 5 txPu10) 3, dqPu (.fn 5 txPu17) (.fn 5 txPu10) 4, dqPu (.fn 5 txPu17) (.fn 5 txPu10) 5, dqPu (.fn 5 txPu17) (.fn 5 txPu10) 6, dqPu (.fn 5 txPu17) (.fn 5 txPu10) 7, dqPu (.fn 5 txPu17) (.fn 5 txPu10) 8, dqPu (.fn 5 txPu17) (.fn 5 txPu10) 9, dqPu (.fn 5 txPu17) (.fn 5 txPu10) 10, dqPu (.fn 5 txPu17) (.fn 5 txPu10) 11, dqPu (.fn 5 txPu17) (.fn 5 txPu10) 12, dqPu (.fn 5 txPu17) (.fn 5 txPu10) 13, dqPu (.fn 5 txPu17) (.fn 5 txPu10) 14, dqPu (.fn 5 txPu17) (.fn 5 txPu10) 15, dqPu (.fn 5 txPu17) (.fn 5 txPu10) 16, dqPu (.fn 5 txPu17) (.fn 5 txPu10) 17, dqPu (.fn 5 txPu17) (.fn 5 txPu10) 18, dqPu (.fn 5 txPu17) (.fn 5 txPu10) 19, dqPu (.fn 5 txPu17) (.fn 5 txPu10) 20, dqPu (.fn 5 txPu17) (.fn 5 txPu10) 21, dqPu (.fn 5 txPu17) (.fn 5 txPu10) 22, dqPu (.fn 5 txPu17) (.fn 5 txPu10) 23, dqPu (.fn 5 txPu17) (.fn 5 txPu10) 24, dqPu (.fn 5 txPu17) (.fn 5 txPu10) 25, dqPu (.fn 5 txPu17) (.fn 5 txPu10) 26, dqPu (.fn 5 txPu17) (.fn 5 txPu10) 27, dqPu (.fn 5 txPu17) (.fn 5 txPu10) 28, dqPu (.fn 5 txPu17) (.fn 5 txPu10) 29, dqPu (.fn 5 txPu17) (.fn 5 txPu10) 30, dqPu (.fn 5 txPu17) (.fn 5 txPu10) 31, dqPu (.fn 5 txPu17) (.fn 5 txPu10) 32, dqPu (.fn 5 txPu17) (.fn 5 txPu10) 33, dqPu (.fn 5 txPu17) (.fn 5 txPu10) 34, dqPu (.fn 5 txPu17) (.fn 5 txPu10) 35, dqPu (.fn 5 txPu17) (.fn 5 txPu10) 36, dqPu (.fn 5 txPu17) (.fn 5 txPu10) 37, dqPu (.fn 5 txPu17) (.fn 5 txPu10) 38, dqPu (.fn 5 txPu17) (.fn 5 txPu10) 39, dqPu (.fn 5 txPu17) (.fn 5 txPu10) 40, dqPu (.fn 5 txPu17) (.fn 5 txPu10) 41, dqPu (.fn 5 txPu17) (.fn 5 txPu10) 42, dqPu (.fn 5 txPu17) (.fn 5 txPu10) 43, dqPu (.fn 5 txPu17) (.fn 5 txPu10) 44, dqPu (.fn 5 txPu17) (.fn 5 txPu10) 45, dqPu (.fn 5 txPu17) (.fn 5 txPu10) 46, dqPu (.fn 5 txPu17) (.fn 5 txPu10) 47, dqPu (.fn 5 txPu17) (.fn 5 txPu10) 48, dqPu (.fn 5 txPu17) (.fn 5 txPu10) 49, dqPu (.fn 5 txPu17) (.fn 5 txPu10) 50, dqPu (.fn 5 txPu17) (.fn 5 txPu10) 51, dqPu (.fn 5 txPu17) (.fn 5 txPu10) 52, dqPu (.fn 5 txPu17) (.fn 5 txPu10) 53, dqPu (.fn 5 txPu17) (.fn 5 txPu10) 54, dqPu (.fn 5 txPu17) (.fn 5 txPu10) 55, dqPu (.fn 5 txPu17) (.fn 5 txPu10) 56, dqPu (.fn 5 txPu17) (.fn 5 txPu10) 57, dqPu (.fn 5 txPu17) (.fn 5 txPu10) 58, dqPu (.fn 5 txPu17) (.fn 5 txPu10) 59, dqPu (.fn 5 txPu17) (.fn 5 txPu10) 60, dqPu (.fn 5 txPu17) (.fn 5 txPu10) 61, dqPu (.fn 5 txPu17) (.fn 5 txPu10) 62, dqPu (.fn 5 txPu17) (.fn 5 txPu10) 63, (true, (.bi .add zPu0 (.int 0)), zPu0)]
def takeK_h2 : List (Nat × E) := [(6, (.var 6)), (7, (.var 7)), (2, zPu0), (1, txPu8), (0, (.fn 3 txPu11)), (3, zPu2), (4, (.int 0)), (5, zPu3)]
theorem takeK_h2_a : lookE takeK_h2 0 = (.fn 3 txPu11) ∧ lookE takeK_h2 1 = txPu8 ∧ lookE takeK_h2 2 = zPu0 ∧ lookE takeK_h2 3 = zPu2 ∧ lookE takeK_h2 4 = (.int 0) ∧ lookE takeK_h2 5 = zPu3 ∧ lookE takeK_h2 6 = (.var 6) ∧ lookE takeK_h2 7 = (.var 7) := ⟨rfl, rfl, rfl, rfl, rfl, rfl, rfl, rfl⟩
theorem takeK_y2 : nextD takeK takeK_h2 [(3, 3), (1, 1)] (roundC Tryd.prog ltPu0 ltPu1 [] 3000 40 60 [4] (tellA takeK_t2) takeK) = some takeK_d2 := by kernel_rfl
abbrev asPu14 : Q × Bool := ((.le (.var 4) txPu2), false)
abbrev asPu15 : Q × Bool := ((.fit .i64 txPu2), true)
abbrev asPu16 : Q × Bool := ((.le (.bi .add zPu1 txPu2) (.int 64)), true)
abbrev asPu17 : Q × Bool := ((.fit .i64 (.bi .add (.var 2) txPu2)), true)
abbrev asPu18 : Q × Bool := ((.le (.int 0) txPu2), true)
abbrev asPu19 : Q × Bool := ((.le txPu2 (.var 4)), true)
abbrev asPu20 : Q × Bool := ((.eq (.bi (.iop .rem .i64) (.bi .add (.var 2) txPu2) (.int 64)) (.int 0)), true)
def takeK_t3 : List (Q × Bool) := [asPu0, asPu2, asPu3, asPu4, asPu5, asPu14, asPu15, asPu16, asPu8, asPu17, asPu18, asPu19, asPu11, asPu20]
def takeK_d3 : List Duty := [dqPu (.fn 4 txPu18) (.fn 4 txPu10) 0, dqPu (.fn 4 txPu18) (.fn 4 txPu10) 1, dqPu (.fn 4 txPu18) (.fn 4 txPu10) 2, dqPu (.fn 4 txPu18) (.fn 4 txPu10) 3, dqPu (.fn 4 txPu18) (.fn 4 txPu10) 4, dqPu (.fn 4 txPu18) (.fn 4 txPu10) 5, dqPu (.fn 4 txPu18) (.fn 4 txPu10) 6, dqPu (.fn 4 txPu18) (.fn 4 txPu10) 7, dqPu (.fn 5 txPu18) (.fn 5 txPu10) 0, dqPu (.fn 5 txPu18) (.fn 5 txPu10) 1, dqPu (.fn 5 txPu18) (.fn 5 txPu10) 2, dqPu (.fn 5 txPu18) (.fn 5 txPu10) 3, dqPu (.fn 5 txPu18) (.fn 5 txPu10) 4, dqPu (.fn 5 txPu18) (.fn 5 txPu10) 5, dqPu (.fn 5 txPu18) (.fn 5 txPu10) 6, dqPu (.fn 5 txPu18) (.fn 5 txPu10) 7, dqPu (.fn 5 txPu18) (.fn 5 txPu10) 8, dqPu (.fn 5 txPu18) (.fn 5 txPu10) 9, dqPu (.fn 5 txPu18) (.fn 5 txPu10) 10, dqPu (.fn 5 txPu18) (.fn 5 txPu10) 11, dqPu (.fn 5 txPu18) (.fn 5 txPu10) 12, dqPu (.fn 5 txPu18) (.fn 5 txPu10) 13, dqPu (.fn 5 txPu18) (.fn 5 txPu10) 14, dqPu (.fn 5 txPu18) (.fn 5 txPu10) 15, dqPu (.fn 5 txPu18) (.fn 5 txPu10) 16, dqPu (.fn 5 txPu18) (.fn 5 txPu10) 17, dqPu (.fn 5 txPu18) (.fn 5 txPu10) 18, dqPu (.fn 5 txPu18) (.fn 5 txPu10) 19, dqPu (.fn 5 txPu18) (.fn 5 txPu10) 20, dqPu (.fn 5 txPu18) (.fn 5 txPu10) 21, dqPu (.fn 5 txPu18) (.fn 5 txPu10) 22, dqPu (.fn 5 txPu18) (.fn 5 txPu10) 23, dqPu (.fn 5 txPu18) (.fn 5 txPu10) 24, dqPu (.fn 5 txPu18) (.fn 5 txPu10) 25, dqPu (.fn 5 txPu18) (.fn 5 txPu10) 26, dqPu (.fn 5 txPu18) (.fn 5 txPu10) 27, dqPu (.fn 5 txPu18) (.fn 5 txPu10) 28, dqPu (.fn 5 txPu18) (.fn 5 txPu10) 29, dqPu (.fn 5 txPu18) (.fn 5 txPu10) 30, dqPu (.fn 5 txPu18) (.fn 5 txPu10) 31, dqPu (.fn 5 txPu18) (.fn 5 txPu10) 32, dqPu (.fn 5 txPu18) (.fn 5 txPu10) 33, dqPu (.fn 5 txPu18) (.fn 5 txPu10) 34, dqPu (.fn 5 txPu18) (.fn 5 txPu10) 35, dqPu (.fn 5 txPu18) (.fn 5 txPu10) 36, dqPu (.fn 5 txPu18) (.fn 5 txPu10) 37, dqPu (.fn 5 txPu18) (.fn 5 txPu10) 38, dqPu (.fn 5 txPu18) (.fn 5 txPu10) 39, dqPu (.fn 5 txPu18) (.fn 5 txPu10) 40, dqPu (.fn 5 txPu18) (.fn 5 txPu10) 41, dqPu (.fn 5 txPu18) (.fn 5 txPu10) 42, dqPu (.fn 5 txPu18) (.fn 5 txPu10) 43, dqPu (.fn 5 txPu18) (.fn 5 txPu10) 44, dqPu (.fn 5 txPu18) (.fn 5 txPu10) 45, dqPu (.fn 5 txPu18) (.fn 5 txPu10) 46, dqPu (.fn 5 txPu18) (.fn 5 txPu10) 47, dqPu (.fn 5 txPu18) (.fn 5 txPu10) 48, dqPu (.fn 5 txPu18) (.fn 5 txPu10) 49, dqPu (.fn 5 txPu18) (.fn 5 txPu10) 50, dqPu (.fn 5 txPu18) (.fn 5 txPu10) 51, dqPu (.fn 5 txPu18) (.fn 5 txPu10) 52, dqPu (.fn 5 txPu18) (.fn 5 txPu10) 53, dqPu (.fn 5 txPu18) (.fn 5 txPu10) 54, dqPu (.fn 5 txPu18) (.fn 5 txPu10) 55, dqPu (.fn 5 txPu18) (.fn 5 txPu10) 56, dqPu (.fn 5 txPu18) (.fn 5 txPu10) 57, dqPu (.fn 5 txPu18) (.fn 5 txPu10) 58, dqPu (.fn 5 txPu18) (.fn 5 txPu10) 59, dqPu (.fn 5 txPu18) (.fn 5 txPu10) 60, dqPu (.fn 5 txPu18) (.fn 5 txPu10) 61, dqPu (.fn 5 txPu18) (.fn 5 txPu10) 62, dqPu (.fn 5 txPu18) (.fn 5 txPu10) 63, (true, (.bi .add (.bi .add (.var 2) txPu2) (.bi .sub (.var 4) txPu2)), zPu0)]
def takeK_h3 : List (Nat × E) := [(6, (.var 6)), (7, (.var 7)), (2, (.bi .add (.var 2) txPu2)), (1, txPu12), (0, (.fn 3 txPu14)), (3, (.bi .add (.var 3) txPu2)), (4, (.bi .sub (.var 4) txPu2)), (5, (.bi .sub (.var 5) txPu2))]
theorem takeK_h3_a : lookE takeK_h3 0 = (.fn 3 txPu14) ∧ lookE takeK_h3 1 = txPu12 ∧ lookE takeK_h3 2 = (.bi .add (.var 2) txPu2) ∧ lookE takeK_h3 3 = (.bi .add (.var 3) txPu2) ∧ lookE takeK_h3 4 = (.bi .sub (.var 4) txPu2) ∧ lookE takeK_h3 5 = (.bi .sub (.var 5) txPu2) ∧ lookE takeK_h3 6 = (.var 6) ∧ lookE takeK_h3 7 = (.var 7) := ⟨rfl, rfl, rfl, rfl, rfl, rfl, rfl, rfl⟩
theorem takeK_y3 : nextD takeK takeK_h3 [(3, 3), (1, 1)] (roundC Tryd.prog ltPu0 ltPu1 [] 3000 40 60 [4] (tellA takeK_t3) takeK) = some takeK_d3 := by kernel_rfl
theorem takeK_holds : LHolds Tryd.prog (loopAt Tryd.prog 60 [4]) takeK F := by
 refine loop_roundsC sound (tableCons sprL_holds (tableCons mixL_holds (tableCons moreL_holds (tableCons moreLO_holds (tableNil _ _))))) (specsCons mixedC_holds (specsCons fillC_holds (specsCons bytesC_holds (specsCons tableC_holds (specsCons moreC_holds (specsCons moreCO_holds (specsCons putC_holds (specsCons putCO_holds (specsNil _ _))))))))) (oversNil _ _) (fuel := 3000) (depth := 40) (by kernel_rfl) (by kernel_rfl) (by kernel_rfl) (fun d => (d 4).toInt.toNat) fun d hp hR hA => ?_
 have hp := allTold'_iff.2 hp
 simp only [takeK, tl] at hp hR hA
 have hl : ((prt (d 7).ints (d 3).toInt ((d 3).toInt + (d 4).toInt)).length : Int) = (d 4).toInt := by rw [prt_length (by omega) (by omega) (by omega)]; omega
 have hm := emod_in (x := (d 2).toInt) (n := 64) (by omega)
 by_cases h : (d 4).toInt ≤ 0
 ·refine ⟨tellA takeK_t0, tellA_ok (allTold'_iff.1 ?_), .inl ⟨_, _, _, takeK_y0, dutiesTold_ok ?_⟩⟩
  ·simp only [takeK_t0, tl]
   omega
  ·simp only [takeK_d0, F4, F5, tl]
   rw [take_nil (by omega)]
   and_intros <;> first | rfl | omega
 ·have hz : iopI .rem .i64 (d 2).toInt 64 = (d 2).toInt % 64 := rem_emod .i64 (by omega)
  by_cases h2 : (d 4).toInt ≤ 64 - (d 2).toInt % 64
  ·have hz2 : iopI .rem .i64 ((d 2).toInt + (d 4).toInt) 64 = ((d 2).toInt + (d 4).toInt) % 64 := rem_emod .i64 (by omega)
   have e := fun b' hb => take_one (S := (d 0).ints) (B := (d 1).ints) (X := (d 7).ints) (z := (d 2).toInt) (o := (d 3).toInt) (l := (d 4).toInt) (n := (d 4).toInt) (b' := b') (by omega) hl (by omega) (by rw [if_pos h2]) hb
   by_cases h3 : ((d 2).toInt + (d 4).toInt) % 64 = 0
   ·refine ⟨tellA takeK_t2, tellA_ok (allTold'_iff.1 ?_), .inr ⟨takeK_h2, _, _, takeK_y2, dutiesTold_ok ?_, allTold'_iff.1 ?_, ?_⟩⟩
    ·simp only [takeK_t2, hz, hz2, tl]
     omega
    ·simp only [takeK_d2, F3, F4, F5, hz, tl]
     generalize hB : D.ints (D.list _) = B'
     have e := e B' (by
      rw [← hB]
      rw [splice_prt (n := (d 4).toInt.toNat) (by omega), List.take_of_length_le (l := prt (d 7).ints (d 3).toInt ((d 3).toInt + (d 4).toInt)) (by omega)])
     rw [if_pos h3, show (d 4).toInt - (d 4).toInt = 0 by omega] at e
     unfold mix3 at e
     rw [e]
     and_intros <;> first | rfl | omega
    ·simp only [takeK, takeK_h2_a, hz, tl]
     simp only [List.length_append, List.length_take, List.length_drop, len_ints]
     omega
    ·simp only [takeK_h2_a, tl]
     omega
   ·refine ⟨tellA takeK_t1, tellA_ok (allTold'_iff.1 ?_), .inr ⟨takeK_h1, _, _, takeK_y1, dutiesTold_ok ?_, allTold'_iff.1 ?_, ?_⟩⟩
    ·simp only [takeK_t1, hz, hz2, tl]
     omega
    ·simp only [takeK_d1, F4, F5, hz, tl]
     generalize hB : D.ints (D.list _) = B'
     have e := e B' (by
      rw [← hB]
      rw [splice_prt (n := (d 4).toInt.toNat) (by omega), List.take_of_length_le (l := prt (d 7).ints (d 3).toInt ((d 3).toInt + (d 4).toInt)) (by omega)])
     rw [if_neg h3, show (d 4).toInt - (d 4).toInt = 0 by omega] at e
     rw [e]
     and_intros <;> first | rfl | omega
    ·simp only [takeK, takeK_h1_a, hz, tl]
     simp only [List.length_append, List.length_take, List.length_drop, len_ints]
     omega
    ·simp only [takeK_h1_a, tl]
     omega
  ·have hz2 : iopI .rem .i64 ((d 2).toInt + (64 - (d 2).toInt % 64)) 64 = ((d 2).toInt + (64 - (d 2).toInt % 64)) % 64 := rem_emod .i64 (by omega)
   have h3 : ((d 2).toInt + (64 - (d 2).toInt % 64)) % 64 = 0 := by omega
   have e := fun b' hb => take_one (S := (d 0).ints) (B := (d 1).ints) (X := (d 7).ints) (z := (d 2).toInt) (o := (d 3).toInt) (l := (d 4).toInt) (n := 64 - (d 2).toInt % 64) (b' := b') (by omega) hl (by omega) (by rw [if_neg h2]) hb
   refine ⟨tellA takeK_t3, tellA_ok (allTold'_iff.1 ?_), .inr ⟨takeK_h3, _, _, takeK_y3, dutiesTold_ok ?_, allTold'_iff.1 ?_, ?_⟩⟩
   ·simp only [takeK_t3, hz, hz2, tl]
    omega
   ·simp only [takeK_d3, F3, F4, F5, hz, tl]
    generalize hB : D.ints (D.list _) = B'
    have e := e B' (by
     rw [← hB]
     exact splice_prt2 (m := (64 - (d 2).toInt % 64).toNat) (by simp; omega))
    rw [if_pos h3] at e
    unfold mix3 at e
    rw [e]
    and_intros <;> first | rfl | omega
   ·simp only [takeK, takeK_h3_a, hz, tl]
    simp only [List.length_append, List.length_take, List.length_drop, len_ints]
    omega
   ·simp only [takeK_h3_a, hz, tl]
    omega

end Go.Proofs.YtidjfojcifjdjaaDoor.Pu

set_option linter.unusedSimpArgs false
set_option linter.unusedVariables false
namespace Go.Proofs.YtidjfojcifjdjaaDoor.Pud
open Go.RowKit Go.Ev Go.Proofs.YtidjfojcifjdjaaDoor.Co

open Go.Proofs.YtidjfojcifjdjaaDoor.P0
open Go.Proofs.YtidjfojcifjdjaaDoor.Pa

abbrev dqPud (a b : E) (j : Int) : Duty := (true, .bi .sel a (.int j), .bi .sel b (.int j))
abbrev vu32Pud (a : E) (j : Int) : AV := .sint .u32 (.bi .sel a (.int j))
abbrev vu8Pud (a : E) (j : Int) : AV := .sint .u8 (.bi .sel a (.int j))
abbrev txPud0 : E := (.bi .pair (.var 3) (.bi .pair (.var 4) (.int 0)))
abbrev zPud2 : E := (.bi .add (.var 3) (.var 4))
abbrev txPud1 : E := (.tr .cut (.var 7) (.var 3) zPud2)
abbrev zPud1 : E := (.bi (.iop .rem .i64) (.var 2) (.int 64))
abbrev txPud2 : E := (.bi .sub (.int 64) zPud1)
abbrev txPud3 : E := (.fn 4 (argsE [.var 0, .var 1, .var 2, .var 7, .var 3, .var 4]))
abbrev txPud4 : E := (.fn 5 (argsE [.var 0, .var 1, .var 2, .var 7, .var 3, .var 4]))
abbrev txPud5 : E := (.bi .pair zPud2 (.bi .pair (.int 0) (.int 0)))
abbrev txPud6 : E := (.bi .pair (.var 2) (.bi .pair (.var 7) txPud0))
abbrev zPud5 : E := (.bi .sub (.var 4) txPud2)
abbrev txPud7 : E := (.bi .pair zPud5 (.int 0))
abbrev txPud8 : E := (.tr .splice (.var 1) zPud1 txPud1)
abbrev zPud0 : E := (.bi .add (.var 2) (.var 4))
abbrev txPud9 : E := (.bi .pair zPud0 (.bi .pair (.var 7) txPud5))
abbrev txPud10 : E := (.bi .pair (.var 0) (.bi .pair (.var 1) txPud6))
abbrev txPud11 : E := (.bi .pair (.var 0) (.bi .pair txPud8 (.int 0)))
abbrev zPud6 : E := (.bi .add (.var 3) txPud2)
abbrev txPud12 : E := (.bi .pair zPud6 txPud7)
abbrev txPud13 : E := (.tr .splice (.var 1) zPud1 (.tr .cut txPud1 (.int 0) txPud2))
abbrev txPud14 : E := (.bi .pair (.var 0) (.bi .pair txPud13 (.int 0)))
abbrev txPud15 : E := (.bi .pair (.var 0) (.bi .pair txPud8 txPud9))
abbrev zPud3 : E := (.bi .add (.var 2) txPud2)
abbrev txPud16 : E := (.bi .pair zPud3 (.bi .pair (.var 7) txPud12))
abbrev txPud17 : E := (.bi .pair (.fn 3 txPud11) (.bi .pair txPud8 txPud9))
abbrev txPud18 : E := (.bi .pair (.fn 3 txPud14) (.bi .pair txPud13 txPud16))
abbrev zPud4 : E := (.bi .sub (.var 5) (.var 4))
def takeD : LSpec := { n := 48, next := 2, pat := [(0, .ptr 1 1), (1, .sslice 3 (.var 3) (.var 4) (.var 5) false)], rows := [(1, .cells 93 0 false false [.ptr 1 0, vu32Pud (.var 0) 0, vu32Pud (.var 0) 1, vu32Pud (.var 0) 2, vu32Pud (.var 0) 3, vu32Pud (.var 0) 4, vu32Pud (.var 0) 5, vu32Pud (.var 0) 6, vu32Pud (.var 0) 7, vu8Pud (.var 1) 0, vu8Pud (.var 1) 1, vu8Pud (.var 1) 2, vu8Pud (.var 1) 3, vu8Pud (.var 1) 4, vu8Pud (.var 1) 5, vu8Pud (.var 1) 6, vu8Pud (.var 1) 7, vu8Pud (.var 1) 8, vu8Pud (.var 1) 9, vu8Pud (.var 1) 10, vu8Pud (.var 1) 11, vu8Pud (.var 1) 12, vu8Pud (.var 1) 13, vu8Pud (.var 1) 14, vu8Pud (.var 1) 15, vu8Pud (.var 1) 16, vu8Pud (.var 1) 17, vu8Pud (.var 1) 18, vu8Pud (.var 1) 19, vu8Pud (.var 1) 20, vu8Pud (.var 1) 21, vu8Pud (.var 1) 22, vu8Pud (.var 1) 23, vu8Pud (.var 1) 24, vu8Pud (.var 1) 25, vu8Pud (.var 1) 26, vu8Pud (.var 1) 27, vu8Pud (.var 1) 28, vu8Pud (.var 1) 29, vu8Pud (.var 1) 30, vu8Pud (.var 1) 31, vu8Pud (.var 1) 32, vu8Pud (.var 1) 33, vu8Pud (.var 1) 34, vu8Pud (.var 1) 35, vu8Pud (.var 1) 36, vu8Pud (.var 1) 37, vu8Pud (.var 1) 38, vu8Pud (.var 1) 39, vu8Pud (.var 1) 40, vu8Pud (.var 1) 41, vu8Pud (.var 1) 42, vu8Pud (.var 1) 43, vu8Pud (.var 1) 44, vu8Pud (.var 1) 45, vu8Pud (.var 1) 46, vu8Pud (.var 1) 47, vu8Pud (.var 1) 48, vu8Pud (.var 1) 49, vu8Pud (.var 1) 50, vu8Pud (.var 1) 51, vu8Pud (.var 1) 52, vu8Pud (.var 1) 53, vu8Pud (.var 1) 54, vu8Pud (.var 1) 55, vu8Pud (.var 1) 56, vu8Pud (.var 1) 57, vu8Pud (.var 1) 58, vu8Pud (.var 1) 59, vu8Pud (.var 1) 60, vu8Pud (.var 1) 61, vu8Pud (.var 1) 62, vu8Pud (.var 1) 63, .sint .i64 (.var 2)]), (3, .eseq ⟨.u8, .var 6, .var 7⟩), (0, .ext cellsG)], pre := [(.le (.int 0) (.var 2), true), (.le zPud0 (.int 4611686018427387904), true), (.eq (.un .len (.var 1)) (.int 64), true), (.le zPud2 (.var 6), true)], x := 0, fin := [], frows := [(1, .cells 93 0 false false [.ptr 1 0, vu32Pud txPud3 0, vu32Pud txPud3 1, vu32Pud txPud3 2, vu32Pud txPud3 3, vu32Pud txPud3 4, vu32Pud txPud3 5, vu32Pud txPud3 6, vu32Pud txPud3 7, vu8Pud txPud4 0, vu8Pud txPud4 1, vu8Pud txPud4 2, vu8Pud txPud4 3, vu8Pud txPud4 4, vu8Pud txPud4 5, vu8Pud txPud4 6, vu8Pud txPud4 7, vu8Pud txPud4 8, vu8Pud txPud4 9, vu8Pud txPud4 10, vu8Pud txPud4 11, vu8Pud txPud4 12, vu8Pud txPud4 13, vu8Pud txPud4 14, vu8Pud txPud4 15, vu8Pud txPud4 16, vu8Pud txPud4 17, vu8Pud txPud4 18, vu8Pud txPud4 19, vu8Pud txPud4 20, vu8Pud txPud4 21, vu8Pud txPud4 22, vu8Pud txPud4 23, vu8Pud txPud4 24, vu8Pud txPud4 25, vu8Pud txPud4 26, vu8Pud txPud4 27, vu8Pud txPud4 28, vu8Pud txPud4 29, vu8Pud txPud4 30, vu8Pud txPud4 31, vu8Pud txPud4 32, vu8Pud txPud4 33, vu8Pud txPud4 34, vu8Pud txPud4 35, vu8Pud txPud4 36, vu8Pud txPud4 37, vu8Pud txPud4 38, vu8Pud txPud4 39, vu8Pud txPud4 40, vu8Pud txPud4 41, vu8Pud txPud4 42, vu8Pud txPud4 43, vu8Pud txPud4 44, vu8Pud txPud4 45, vu8Pud txPud4 46, vu8Pud txPud4 47, vu8Pud txPud4 48, vu8Pud txPud4 49, vu8Pud txPud4 50, vu8Pud txPud4 51, vu8Pud txPud4 52, vu8Pud txPud4 53, vu8Pud txPud4 54, vu8Pud txPud4 55, vu8Pud txPud4 56, vu8Pud txPud4 57, vu8Pud txPud4 58, vu8Pud txPud4 59, vu8Pud txPud4 60, vu8Pud txPud4 61, vu8Pud txPud4 62, vu8Pud txPud4 63, .sint .i64 zPud0])], same := [1], chg := [0, 1, 4, 5, 6, 7, 8, 9, 10, 11, 12, 13, 14, 15, 16, 17, 18, 19, 20, 21, 22, 23, 24, 25, 26, 27, 28, 29, 30, 31, 32, 33, 34, 35, 36, 37, 38, 39, 40, 41, 42, 43, 44, 45, 46, 47] }
abbrev asPud0 : Q × Bool := ((.fit .i64 (.var 4)), true)
abbrev asPud1 : Q × Bool := ((.le (.var 4) (.int 0)), true)
def takeD_t0 : List (Q × Bool) := [asPud0, asPud1]
def takeD_d0 : List Duty := [dqPud (.var 0) (.fn 4 txPud10) 0, dqPud (.var 0) (.fn 4 txPud10) 1, dqPud (.var 0) (.fn 4 txPud10) 2, dqPud (.var 0) (.fn 4 txPud10) 3, dqPud (.var 0) (.fn 4 txPud10) 4, dqPud (.var 0) (.fn 4 txPud10) 5, dqPud (.var 0) (.fn 4 txPud10) 6, dqPud (.var 0) (.fn 4 txPud10) 7, dqPud (.var 1) (.fn 5 txPud10) 0, dqPud (.var 1) (.fn 5 txPud10) 1, dqPud (.var 1) (.fn 5 txPud10) 2, dqPud (.var 1) (.fn 5 txPud10) 3, dqPud (.var 1) (.fn 5 txPud10) 4, dqPud (.var 1) (.fn 5 txPud10) 5, dqPud (.var 1) (.fn 5 txPud10) 6, dqPud (.var 1) (.fn 5 txPud10) 7, dqPud (.var 1) (.fn 5 txPud10) 8, dqPud (.var 1) (.fn 5 txPud10) 9, dqPud (.var 1) (.fn 5 txPud10) 10, dqPud (.var 1) (.fn 5 txPud10) 11, dqPud (.var 1) (.fn 5 txPud10) 12, dqPud (.var 1) (.fn 5 txPud10) 13, dqPud (.var 1) (.fn 5 txPud10) 14, dqPud (.var 1) (.fn 5 txPud10) 15, dqPud (.var 1) (.fn 5 txPud10) 16, dqPud (.var 1) (.fn 5 txPud10) 17, dqPud (.var 1) (.fn 5 txPud10) 18, dqPud (.var 1) (.fn 5 txPud10) 19, dqPud (.var 1) (.fn 5 txPud10) 20, dqPud (.var 1) (.fn 5 txPud10) 21, dqPud (.var 1) (.fn 5 txPud10) 22, dqPud (.var 1) (.fn 5 txPud10) 23, dqPud (.var 1) (.fn 5 txPud10) 24, dqPud (.var 1) (.fn 5 txPud10) 25, dqPud (.var 1) (.fn 5 txPud10) 26, dqPud (.var 1) (.fn 5 txPud10) 27, dqPud (.var 1) (.fn 5 txPud10) 28, dqPud (.var 1) (.fn 5 txPud10) 29, dqPud (.var 1) (.fn 5 txPud10) 30, dqPud (.var 1) (.fn 5 txPud10) 31, dqPud (.var 1) (.fn 5 txPud10) 32, dqPud (.var 1) (.fn 5 txPud10) 33, dqPud (.var 1) (.fn 5 txPud10) 34, dqPud (.var 1) (.fn 5 txPud10) 35, dqPud (.var 1) (.fn 5 txPud10) 36, dqPud (.var 1) (.fn 5 txPud10) 37, dqPud (.var 1) (.fn 5 txPud10) 38, dqPud (.var 1) (.fn 5 txPud10) 39, dqPud (.var 1) (.fn 5 txPud10) 40, dqPud (.var 1) (.fn 5 txPud10) 41, dqPud (.var 1) (.fn 5 txPud10) 42, dqPud (.var 1) (.fn 5 txPud10) 43, dqPud (.var 1) (.fn 5 txPud10) 44, dqPud (.var 1) (.fn 5 txPud10) 45, dqPud (.var 1) (.fn 5 txPud10) 46, dqPud (.var 1) (.fn 5 txPud10) 47, dqPud (.var 1) (.fn 5 txPud10) 48, dqPud (.var 1) (.fn 5 txPud10) 49, dqPud (.var 1) (.fn 5 txPud10) 50, dqPud (.var 1) (.fn 5 txPud10) 51, dqPud (.var 1) (.fn 5 txPud10) 52, dqPud (.var 1) (.fn 5 txPud10) 53, dqPud (.var 1) (.fn 5 txPud10) 54, dqPud (.var 1) (.fn 5 txPud10) 55, dqPud (.var 1) (.fn 5 txPud10) 56, dqPud (.var 1) (.fn 5 txPud10) 57, dqPud (.var 1) (.fn 5 txPud10) 58, dqPud (.var 1) (.fn 5 txPud10) 59, dqPud (.var 1) (.fn 5 txPud10) 60, dqPud (.var 1) (.fn 5 txPud10) 61, dqPud (.var 1) (.fn 5 txPud10) 62, dqPud (.var 1) (.fn 5 txPud10) 63, (true, (.var 2), zPud0)]
noncomputable abbrev ltPud0 : List LEntry := [⟨70, [4, 1, 0, 1, 1, 1], sprL⟩, ⟨66, [4, 1, 0, 1, 1, 1], mixL⟩, ⟨54, [4, 1, 0, 1, 1, 1], moreL⟩, ⟨54, [4, 1, 0, 1, 1, 1], moreLO⟩]
theorem takeD_y0 : endD takeD [(3, 3), (1, 1)] 1000 (roundC Tryd.prog ltPud0 [(66, mixedC), (67, fillC), (68, bytesC), (62, tableC), (54, moreC), (54, moreCO), (32, putC), (32, putCO)] [] 3000 40 60 [4] (tellA takeD_t0) takeD) = some takeD_d0 := by kernel_rfl
abbrev asPud2 : Q × Bool := ((.le (.var 4) (.int 0)), false)
abbrev asPud3 : Q × Bool := ((.le (.int 0) zPud1), true)
abbrev asPud4 : Q × Bool := ((.le zPud1 (.int 64)), true)
abbrev asPud5 : Q × Bool := ((.le zPud2 (.var 6)), true)
abbrev asPud6 : Q × Bool := ((.le (.var 4) txPud2), true)
abbrev asPud7 : Q × Bool := ((.le (.bi .add zPud1 (.var 4)) (.int 64)), true)
abbrev asPud8 : Q × Bool := ((.le (.int 64) (.un .len (.var 1))), true)
abbrev asPud9 : Q × Bool := ((.fit .i64 zPud0), true)
abbrev asPud10 : Q × Bool := ((.le (.int 0) (.var 4)), true)
abbrev asPud11 : Q × Bool := ((.le (.var 4) (.var 5)), true)
abbrev asPud12 : Q × Bool := ((.eq (.bi (.iop .rem .i64) zPud0 (.int 64)) (.int 0)), false)
def takeD_t1 : List (Q × Bool) := [asPud0, asPud2, asPud3, asPud4, asPud5, asPud6, asPud7, asPud8, asPud9, asPud10, asPud11, asPud12]
def takeD_d1 : List Duty := [dqPud (.fn 4 txPud15) (.fn 4 txPud10) 0, dqPud (.fn 4 txPud15) (.fn 4 txPud10) 1, dqPud (.fn 4 txPud15) (.fn 4 txPud10) 2, dqPud (.fn 4 txPud15) (.fn 4 txPud10) 3, dqPud (.fn 4 txPud15) (.fn 4 txPud10) 4, dqPud (.fn 4 txPud15) (.fn 4 txPud10) 5, dqPud (.fn 4 txPud15) (.fn 4 txPud10) 6, dqPud (.fn 4 txPud15) (.fn 4 txPud10) 7, dqPud (.fn 5 txPud15) (.fn 5 txPud10) 0, dqPud (.fn 5 txPud15) (.fn 5 txPud10) 1, dqPud (.fn 5 txPud15) (.fn 5 txPud10) 2, dqPud (.fn 5 txPud15) (.fn 5 txPud10) 3, dqPud (.fn 5 txPud15) (.fn 5 txPud10) 4, dqPud (.fn 5 txPud15) (.fn 5 txPud10) 5, dqPud (.fn 5 txPud15) (.fn 5 txPud10) 6, dqPud (.fn 5 txPud15) (.fn 5 txPud10) 7, dqPud (.fn 5 txPud15) (.fn 5 txPud10) 8, dqPud (.fn 5 txPud15) (.fn 5 txPud10) 9, dqPud (.fn 5 txPud15) (.fn 5 txPud10) 10, dqPud (.fn 5 txPud15) (.fn 5 txPud10) 11, dqPud (.fn 5 txPud15) (.fn 5 txPud10) 12, dqPud (.fn 5 txPud15) (.fn 5 txPud10) 13, dqPud (.fn 5 txPud15) (.fn 5 txPud10) 14, dqPud (.fn 5 txPud15) (.fn 5 txPud10) 15, dqPud (.fn 5 txPud15) (.fn 5 txPud10) 16, dqPud (.fn 5 txPud15) (.fn 5 txPud10) 17, dqPud (.fn 5 txPud15) (.fn 5 txPud10) 18, dqPud (.fn 5 txPud15) (.fn 5 txPud10) 19, dqPud (.fn 5 txPud15) (.fn 5 txPud10) 20, dqPud (.fn 5 txPud15) (.fn 5 txPud10) 21, dqPud (.fn 5 txPud15) (.fn 5 txPud10) 22, dqPud (.fn 5 txPud15) (.fn 5 txPud10) 23, dqPud (.fn 5 txPud15) (.fn 5 txPud10) 24, dqPud (.fn 5 txPud15) (.fn 5 txPud10) 25, dqPud (.fn 5 txPud15) (.fn 5 txPud10) 26, dqPud (.fn 5 txPud15) (.fn 5 txPud10) 27, dqPud (.fn 5 txPud15) (.fn 5 txPud10) 28, dqPud (.fn 5 txPud15) (.fn 5 txPud10) 29, dqPud (.fn 5 txPud15) (.fn 5 txPud10) 30, dqPud (.fn 5 txPud15) (.fn 5 txPud10) 31, dqPud (.fn 5 txPud15) (.fn 5 txPud10) 32, dqPud (.fn 5 txPud15) (.fn 5 txPud10) 33, dqPud (.fn 5 txPud15) (.fn 5 txPud10) 34, dqPud (.fn 5 txPud15) (.fn 5 txPud10) 35, dqPud (.fn 5 txPud15) (.fn 5 txPud10) 36, dqPud (.fn 5 txPud15) (.fn 5 txPud10) 37, dqPud (.fn 5 txPud15) (.fn 5 txPud10) 38, dqPud (.fn 5 txPud15) (.fn 5 txPud10) 39, dqPud (.fn 5 txPud15) (.fn 5 txPud10) 40, dqPud (.fn 5 txPud15) (.fn 5 txPud10) 41, dqPud (.fn 5 txPud15) (.fn 5 txPud10) 42, dqPud (.fn 5 txPud15) (.fn 5 txPud10) 43, dqPud (.fn 5 txPud15) (.fn 5 txPud10) 44, dqPud (.fn 5 txPud15) (.fn 5 txPud10) 45, dqPud (.fn 5 txPud15) (.fn 5 txPud10) 46, dqPud (.fn 5 txPud15) (.fn 5 txPud10) 47, dqPud (.fn 5 txPud15) (.fn 5 txPud10) 48, dqPud (.fn 5 txPud15) (.fn 5 txPud10) 49, dqPud (.fn 5 txPud15) (.fn 5 txPud10) 50, dqPud (.fn 5 txPud15) (.fn 5 txPud10) 51, dqPud (.fn 5 txPud15) (.fn 5 txPud10) 52, dqPud (.fn 5 txPud15) (.fn 5 txPud10) 53, dqPud (.fn 5 txPud15) (.fn 5 txPud10) 54, dqPud (.fn 5 txPud15) (.fn 5 txPud10) 55, dqPud (.fn 5 txPud15) (.fn 5 txPud10) 56, dqPud (.fn 5 txPud15) (.fn 5 txPud10) 57, dqPud (.fn 5 txPud15) (.fn 5 txPud10) 58, dqPud (.fn 5 txPud15) (.fn 5 txPud10) 59, dqPud (.fn 5 txPud15) (.fn 5 txPud10) 60, dqPud (.fn 5 txPud15) (.fn 5 txPud10) 61, dqPud (.fn 5 txPud15) (.fn 5 txPud10) 62, dqPud (.fn 5 txPud15) (.fn 5 txPud10) 63, (true, (.bi .add zPud0 (.int 0)), zPud0)]
def takeD_h1 : List (Nat × E) := [(6, (.var 6)), (7, (.var 7)), (2, zPud0), (1, txPud8), (0, (.var 0)), (3, zPud2), (4, (.int 0)), (5, zPud4)]
theorem takeD_h1_a : lookE takeD_h1 0 = (.var 0) ∧ lookE takeD_h1 1 = txPud8 ∧ lookE takeD_h1 2 = zPud0 ∧ lookE takeD_h1 3 = zPud2 ∧ lookE takeD_h1 4 = (.int 0) ∧ lookE takeD_h1 5 = zPud4 ∧ lookE takeD_h1 6 = (.var 6) ∧ lookE takeD_h1 7 = (.var 7) := ⟨rfl, rfl, rfl, rfl, rfl, rfl, rfl, rfl⟩
noncomputable abbrev ltPud1 : List (FuncId × CSpec) := [(66, mixedC), (67, fillC), (68, bytesC), (62, tableC), (54, moreC), (54, moreCO), (32, putC), (32, putCO)]
theorem takeD_y1 : nextD takeD takeD_h1 [(3, 3), (1, 1)] (roundC Tryd.prog ltPud0 ltPud1 [] 3000 40 60 [4] (tellA takeD_t1) takeD) = some takeD_d1 := by kernel_rfl
abbrev asPud13 : Q × Bool := ((.eq (.bi (.iop .rem .i64) zPud0 (.int 64)) (.int 0)), true)
def takeD_t2 : List (Q × Bool) := [asPud0, asPud2, asPud3, asPud4, asPud5, asPud6, asPud7, asPud8, asPud9, asPud10, asPud11, asPud13]
def takeD_d2 : List Duty := [dqPud (.fn 4 txPud17) (.fn 4 txPud10) 0, dqPud (.fn 4 txPud17) (.fn 4 txPud10) 1, dqPud (.fn 4 txPud17) (.fn 4 txPud10) 2, dqPud (.fn 4 txPud17) (.fn 4 txPud10) 3, dqPud (.fn 4 txPud17) (.fn 4 txPud10) 4, dqPud (.fn 4 txPud17) (.fn 4 txPud10) 5, dqPud (.fn 4 txPud17) (.fn 4 txPud10) 6, dqPud (.fn 4 txPud17) (.fn 4 txPud10) 7, dqPud (.fn 5 txPud17) (.fn 5 txPud10) 0, dqPud (.fn 5 txPud17) (.fn 5 txPud10) 1, dqPud (.fn 5 txPud17) (.fn 5 txPud10) 2, dqPud (.fn 5 txPud17) (.fn 5 txPud10) 3, dqPud (.fn 5 txPud17) (.fn 5 txPud10) 4, dqPud (.fn 5 txPud17) (.fn 5 txPud10) 5, dqPud (.fn 5 txPud17) (.fn 5 txPud10) 6, dqPud (.fn 5 txPud17) (.fn 5 txPud10) 7, dqPud (.fn 5 txPud17) (.fn 5 txPud10) 8, dqPud (.fn 5 txPud17) (.fn 5 txPud10) 9, dqPud (.fn 5 txPud17) (.fn 5 txPud10) 10, dqPud (.fn 5 txPud17) (.fn 5 txPud10) 11, dqPud (.fn 5 txPud17) (.fn 5 txPud10) 12, dqPud (.fn 5 txPud17) (.fn 5 txPud10) 13, dqPud (.fn 5 txPud17) (.fn 5 txPud10) 14, dqPud (.fn 5 txPud17) (.fn 5 txPud10) 15, dqPud (.fn 5 txPud17) (.fn 5 txPud10) 16, dqPud (.fn 5 txPud17) (.fn 5 txPud10) 17, dqPud (.fn 5 txPud17) (.fn 5 txPud10) 18, dqPud (.fn 5 txPud17) (.fn 5 txPud10) 19, dqPud (.fn 5 txPud17) (.fn 5 txPud10) 20, dqPud (.fn 5 txPud17) (.fn 5 txPud10) 21, dqPud (.fn 5 txPud17) (.fn 5 txPud10) 22, dqPud (.fn 5 txPud17) (.fn 5 txPud10) 23, dqPud (.fn 5 txPud17) (.fn 5 txPud10) 24, dqPud (.fn 5 txPud17) (.fn 5 txPud10) 25, dqPud (.fn 5 txPud17) (.fn 5 txPud10) 26, dqPud (.fn 5 txPud17) (.fn 5 txPud10) 27, dqPud (.fn 5 txPud17) (.fn 5 txPud10) 28, dqPud (.fn 5 txPud17) (.fn 5 txPud10) 29, dqPud (.fn 5 txPud17) (.fn 5 txPud10) 30, dqPud (.fn 5 txPud17) (.fn 5 txPud10) 31, dqPud (.fn 5 txPud17) (.fn 5 txPud10) 32, dqPud (.fn 5 txPud17) (.fn 5 txPud10) 33, dqPud (.fn 5 txPud17) (.fn 5 txPud10) 34, dqPud (.fn 5 txPud17) (.fn 5 txPud10) 35, dqPud (.fn 5 txPud17) (.fn 5 txPud10) 36, dqPud (.fn 5 txPud17) (.fn 5 txPud10) 37, dqPud (.fn 5 txPud17) (.fn 5 txPud10) 38, dqPud (.fn 5 txPud17) (.fn 5 txPud10) 39, dqPud (.fn 5 txPud17) (.fn 5 txPud10) 40, dqPud (.fn 5 txPud17) (.fn 5 txPud10) 41, dqPud (.fn 5 txPud17) (.fn 5 txPud10) 42, dqPud (.fn 5 txPud17) (.fn 5 txPud10) 43, dqPud (.fn 5 txPud17) (.fn 5 txPud10) 44, dqPud (.fn 5 txPud17) (.fn 5 txPud10) 45, dqPud (.fn 5 txPud17) (.fn 5 txPud10) 46, dqPud (.fn 5 txPud17) (.fn 5 txPud10) 47, dqPud (.fn 5 txPud17) (.fn 5 txPud10) 48, dqPud (.fn 5 txPud17) (.fn 5 txPud10) 49, dqPud (.fn 5 txPud17) (.fn 5 txPud10) 50, dqPud (.fn 5 txPud17) (.fn 5 txPud10) 51, dqPud (.fn 5 txPud17) (.fn 5 txPud10) 52, dqPud (.fn 5 txPud17) (.fn 5 txPud10) 53, dqPud (.fn 5 txPud17) (.fn 5 txPud10) 54, dqPud (.fn 5 txPud17) (.fn 5 txPud10) 55, dqPud (.fn 5 txPud17) (.fn 5 txPud10) 56, dqPud (.fn 5 txPud17) (.fn 5 txPud10) 57, dqPud (.fn 5 txPud17) (.fn 5 txPud10) 58, dqPud (.fn 5 txPud17) (.fn 5 txPud10) 59, dqPud (.fn 5 txPud17) (.fn 5 txPud10) 60, dqPud (.fn 5 txPud17) (.fn 5 txPud10) 61, dqPud (.fn 5 txPud17) (.fn 5 txPud10) 62, dqPud (.fn 5 txPud17) (.fn 5 txPud10) 63, (true, (.bi .add zPud0 (.int 0)), zPud0)]
def takeD_h2 : List (Nat × E) := [(6, (.var 6)), (7, (.var 7)), (2, zPud0), (1, txPud8), (0, (.fn 3 txPud11)), (3, zPud2), (4, (.int 0)), (5, zPud4)]
theorem takeD_h2_a : lookE takeD_h2 0 = (.fn 3 txPud11) ∧ lookE takeD_h2 1 = txPud8 ∧ lookE takeD_h2 2 = zPud0 ∧ lookE takeD_h2 3 = zPud2 ∧ lookE takeD_h2 4 = (.int 0) ∧ lookE takeD_h2 5 = zPud4 ∧ lookE takeD_h2 6 = (.var 6) ∧ lookE takeD_h2 7 = (.var 7) := ⟨rfl, rfl, rfl, rfl, rfl, rfl, rfl, rfl⟩
theorem takeD_y2 : nextD takeD takeD_h2 [(3, 3), (1, 1)] (roundC Tryd.prog ltPud0 ltPud1 [] 3000 40 60 [4] (tellA takeD_t2) takeD) = some takeD_d2 := by kernel_rfl
abbrev asPud14 : Q × Bool := ((.le (.var 4) txPud2), false)
abbrev asPud15 : Q × Bool := ((.fit .i64 txPud2), true)
abbrev asPud16 : Q × Bool := ((.le (.bi .add zPud1 txPud2) (.int 64)), true)
abbrev asPud17 : Q × Bool := ((.fit .i64 zPud3), true)
abbrev asPud18 : Q × Bool := ((.le (.int 0) txPud2), true)
abbrev asPud19 : Q × Bool := ((.le txPud2 (.var 4)), true)
abbrev asPud20 : Q × Bool := ((.eq (.bi (.iop .rem .i64) zPud3 (.int 64)) (.int 0)), true)
def takeD_t3 : List (Q × Bool) := [asPud0, asPud2, asPud3, asPud4, asPud5, asPud14, asPud15, asPud16, asPud8, asPud17, asPud18, asPud19, asPud11, asPud20]
def takeD_d3 : List Duty := [dqPud (.fn 4 txPud18) (.fn 4 txPud10) 0, dqPud (.fn 4 txPud18) (.fn 4 txPud10) 1, dqPud (.fn 4 txPud18) (.fn 4 txPud10) 2, dqPud (.fn 4 txPud18) (.fn 4 txPud10) 3, dqPud (.fn 4 txPud18) (.fn 4 txPud10) 4, dqPud (.fn 4 txPud18) (.fn 4 txPud10) 5, dqPud (.fn 4 txPud18) (.fn 4 txPud10) 6, dqPud (.fn 4 txPud18) (.fn 4 txPud10) 7, dqPud (.fn 5 txPud18) (.fn 5 txPud10) 0, dqPud (.fn 5 txPud18) (.fn 5 txPud10) 1, dqPud (.fn 5 txPud18) (.fn 5 txPud10) 2, dqPud (.fn 5 txPud18) (.fn 5 txPud10) 3, dqPud (.fn 5 txPud18) (.fn 5 txPud10) 4, dqPud (.fn 5 txPud18) (.fn 5 txPud10) 5, dqPud (.fn 5 txPud18) (.fn 5 txPud10) 6, dqPud (.fn 5 txPud18) (.fn 5 txPud10) 7, dqPud (.fn 5 txPud18) (.fn 5 txPud10) 8, dqPud (.fn 5 txPud18) (.fn 5 txPud10) 9, dqPud (.fn 5 txPud18) (.fn 5 txPud10) 10, dqPud (.fn 5 txPud18) (.fn 5 txPud10) 11, dqPud (.fn 5 txPud18) (.fn 5 txPud10) 12, dqPud (.fn 5 txPud18) (.fn 5 txPud10) 13, dqPud (.fn 5 txPud18) (.fn 5 txPud10) 14, dqPud (.fn 5 txPud18) (.fn 5 txPud10) 15, dqPud (.fn 5 txPud18) (.fn 5 txPud10) 16, dqPud (.fn 5 txPud18) (.fn 5 txPud10) 17, dqPud (.fn 5 txPud18) (.fn 5 txPud10) 18, dqPud (.fn 5 txPud18) (.fn 5 txPud10) 19, dqPud (.fn 5 txPud18) (.fn 5 txPud10) 20, dqPud (.fn 5 txPud18) (.fn 5 txPud10) 21, dqPud (.fn 5 txPud18) (.fn 5 txPud10) 22, dqPud (.fn 5 txPud18) (.fn 5 txPud10) 23, dqPud (.fn 5 txPud18) (.fn 5 txPud10) 24, dqPud (.fn 5 txPud18) (.fn 5 txPud10) 25, dqPud (.fn 5 txPud18) (.fn 5 txPud10) 26, dqPud (.fn 5 txPud18) (.fn 5 txPud10) 27, dqPud (.fn 5 txPud18) (.fn 5 txPud10) 28, dqPud (.fn 5 txPud18) (.fn 5 txPud10) 29, dqPud (.fn 5 txPud18) (.fn 5 txPud10) 30, dqPud (.fn 5 txPud18) (.fn 5 txPud10) 31, dqPud (.fn 5 txPud18) (.fn 5 txPud10) 32, dqPud (.fn 5 txPud18) (.fn 5 txPud10) 33, dqPud (.fn 5 txPud18) (.fn 5 txPud10) 34, dqPud (.fn 5 txPud18) (.fn 5 txPud10) 35, dqPud (.fn 5 txPud18) (.fn 5 txPud10) 36, dqPud (.fn 5 txPud18) (.fn 5 txPud10) 37, dqPud (.fn 5 txPud18) (.fn 5 txPud10) 38, dqPud (.fn 5 txPud18) (.fn 5 txPud10) 39, dqPud (.fn 5 txPud18) (.fn 5 txPud10) 40, dqPud (.fn 5 txPud18) (.fn 5 txPud10) 41, dqPud (.fn 5 txPud18) (.fn 5 txPud10) 42, dqPud (.fn 5 txPud18) (.fn 5 txPud10) 43, dqPud (.fn 5 txPud18) (.fn 5 txPud10) 44, dqPud (.fn 5 txPud18) (.fn 5 txPud10) 45, dqPud (.fn 5 txPud18) (.fn 5 txPud10) 46, dqPud (.fn 5 txPud18) (.fn 5 txPud10) 47, dqPud (.fn 5 txPud18) (.fn 5 txPud10) 48, dqPud (.fn 5 txPud18) (.fn 5 txPud10) 49, dqPud (.fn 5 txPud18) (.fn 5 txPud10) 50, dqPud (.fn 5 txPud18) (.fn 5 txPud10) 51, dqPud (.fn 5 txPud18) (.fn 5 txPud10) 52, dqPud (.fn 5 txPud18) (.fn 5 txPud10) 53, dqPud (.fn 5 txPud18) (.fn 5 txPud10) 54, dqPud (.fn 5 txPud18) (.fn 5 txPud10) 55, dqPud (.fn 5 txPud18) (.fn 5 txPud10) 56, dqPud (.fn 5 txPud18) (.fn 5 txPud10) 57, dqPud (.fn 5 txPud18) (.fn 5 txPud10) 58, dqPud (.fn 5 txPud18) (.fn 5 txPud10) 59, dqPud (.fn 5 txPud18) (.fn 5 txPud10) 60, dqPud (.fn 5 txPud18) (.fn 5 txPud10) 61, dqPud (.fn 5 txPud18) (.fn 5 txPud10) 62, dqPud (.fn 5 txPud18) (.fn 5 txPud10) 63, (true, (.bi .add zPud3 zPud5), zPud0)]
def takeD_h3 : List (Nat × E) := [(6, (.var 6)), (7, (.var 7)), (2, zPud3), (1, txPud13), (0, (.fn 3 txPud14)), (3, zPud6), (4, zPud5), (5, (.bi .sub (.var 5) txPud2))]
theorem takeD_h3_a : lookE takeD_h3 0 = (.fn 3 txPud14) ∧ lookE takeD_h3 1 = txPud13 ∧ lookE takeD_h3 2 = zPud3 ∧ lookE takeD_h3 3 = zPud6 ∧ lookE takeD_h3 4 = zPud5 ∧ lookE takeD_h3 5 = (.bi .sub (.var 5) txPud2) ∧ lookE takeD_h3 6 = (.var 6) ∧ lookE takeD_h3 7 = (.var 7) := ⟨rfl, rfl, rfl, rfl, rfl, rfl, rfl, rfl⟩
theorem takeD_y3 : nextD takeD takeD_h3 [(3, 3), (1, 1)] (roundC Tryd.prog ltPud0 ltPud1 [] 3000 40 60 [4] (tellA takeD_t3) takeD) = some takeD_d3 := by kernel_rfl
theorem takeD_holds : LHolds Tryd.prog (loopAt Tryd.prog 60 [4]) takeD F := by
 refine loop_roundsC sound (tableCons sprL_holds (tableCons mixL_holds (tableCons moreL_holds (tableCons moreLO_holds (tableNil _ _))))) (specsCons mixedC_holds (specsCons fillC_holds (specsCons bytesC_holds (specsCons tableC_holds (specsCons moreC_holds (specsCons moreCO_holds (specsCons putC_holds (specsCons putCO_holds (specsNil _ _))))))))) (oversNil _ _) (fuel := 3000) (depth := 40) (by kernel_rfl) (by kernel_rfl) (by kernel_rfl) (fun d => (d 4).toInt.toNat) fun d hp hR hA => ?_
 have hp := allTold'_iff.2 hp
 simp only [takeD, tl] at hp hR hA
 have hl : ((prt (d 7).ints (d 3).toInt ((d 3).toInt + (d 4).toInt)).length : Int) = (d 4).toInt := by rw [prt_length (by omega) (by omega) (by omega)]; omega
 have hm := emod_in (x := (d 2).toInt) (n := 64) (by omega)
 by_cases h : (d 4).toInt ≤ 0
 ·refine ⟨tellA takeD_t0, tellA_ok (allTold'_iff.1 ?_), .inl ⟨_, _, _, takeD_y0, dutiesTold_ok ?_⟩⟩
  ·simp only [takeD_t0, tl]
   omega
  ·simp only [takeD_d0, F4, F5, tl]
   rw [take_nil (by omega)]
   and_intros <;> first | rfl | omega
 ·have hz : iopI .rem .i64 (d 2).toInt 64 = (d 2).toInt % 64 := rem_emod .i64 (by omega)
  by_cases h2 : (d 4).toInt ≤ 64 - (d 2).toInt % 64
  ·have hz2 : iopI .rem .i64 ((d 2).toInt + (d 4).toInt) 64 = ((d 2).toInt + (d 4).toInt) % 64 := rem_emod .i64 (by omega)
   have e := fun b' hb => take_one (S := (d 0).ints) (B := (d 1).ints) (X := (d 7).ints) (z := (d 2).toInt) (o := (d 3).toInt) (l := (d 4).toInt) (n := (d 4).toInt) (b' := b') (by omega) hl (by omega) (by rw [if_pos h2]) hb
   by_cases h3 : ((d 2).toInt + (d 4).toInt) % 64 = 0
   ·refine ⟨tellA takeD_t2, tellA_ok (allTold'_iff.1 ?_), .inr ⟨takeD_h2, _, _, takeD_y2, dutiesTold_ok ?_, allTold'_iff.1 ?_, ?_⟩⟩
    ·simp only [takeD_t2, hz, hz2, tl]
     omega
    ·simp only [takeD_d2, F3, F4, F5, hz, tl]
     generalize hB : D.ints (D.list _) = B'
     have e := e B' (by
      rw [← hB]
      rw [splice_prt (n := (d 4).toInt.toNat) (by omega), List.take_of_length_le (l := prt (d 7).ints (d 3).toInt ((d 3).toInt + (d 4).toInt)) (by omega)])
     rw [if_pos h3, show (d 4).toInt - (d 4).toInt = 0 by omega] at e
     unfold mix3 at e
     rw [e]
     and_intros <;> first | rfl | omega
    ·simp only [takeD, takeD_h2_a, hz, tl]
     simp only [List.length_append, List.length_take, List.length_drop, len_ints]
     omega
    ·simp only [takeD_h2_a, tl]
     omega
   ·refine ⟨tellA takeD_t1, tellA_ok (allTold'_iff.1 ?_), .inr ⟨takeD_h1, _, _, takeD_y1, dutiesTold_ok ?_, allTold'_iff.1 ?_, ?_⟩⟩
    ·simp only [takeD_t1, hz, hz2, tl]
     omega
    ·simp only [takeD_d1, F4, F5, hz, tl]
     generalize hB : D.ints (D.list _) = B'
     have e := e B' (by
      rw [← hB]
      rw [splice_prt (n := (d 4).toInt.toNat) (by omega), List.take_of_length_le (l := prt (d 7).ints (d 3).toInt ((d 3).toInt + (d 4).toInt)) (by omega)])
     rw [if_neg h3, show (d 4).toInt - (d 4).toInt = 0 by omega] at e
     rw [e]
     and_intros <;> first | rfl | omega
    ·simp only [takeD, takeD_h1_a, hz, tl]
     simp only [List.length_append, List.length_take, List.length_drop, len_ints]
     omega
    ·simp only [takeD_h1_a, tl]
     omega
  ·have hz2 : iopI .rem .i64 ((d 2).toInt + (64 - (d 2).toInt % 64)) 64 = ((d 2).toInt + (64 - (d 2).toInt % 64)) % 64 := rem_emod .i64 (by omega)
   have h3 : ((d 2).toInt + (64 - (d 2).toInt % 64)) % 64 = 0 := by omega
   have e := fun b' hb => take_one (S := (d 0).ints) (B := (d 1).ints) (X := (d 7).ints) (z := (d 2).toInt) (o := (d 3).toInt) (l := (d 4).toInt) (n := 64 - (d 2).toInt % 64) (b' := b') (by omega) hl (by omega) (by rw [if_neg h2]) hb
   refine ⟨tellA takeD_t3, tellA_ok (allTold'_iff.1 ?_), .inr ⟨takeD_h3, _, _, takeD_y3, dutiesTold_ok ?_, allTold'_iff.1 ?_, ?_⟩⟩
   ·simp only [takeD_t3, hz, hz2, tl]
    omega
   ·simp only [takeD_d3, F3, F4, F5, hz, tl]
    generalize hB : D.ints (D.list _) = B'
    have e := e B' (by
     rw [← hB]
     exact splice_prt2 (m := (64 - (d 2).toInt % 64).toNat) (by simp; omega))
    rw [if_pos h3] at e
    unfold mix3 at e
    rw [e]
    and_intros <;> first | rfl | omega
   ·simp only [takeD, takeD_h3_a, hz, tl]
    simp only [List.length_append, List.length_take, List.length_drop, len_ints]
    omega
   ·simp only [takeD_h3_a, hz, tl]
    omega

end Go.Proofs.YtidjfojcifjdjaaDoor.Pud
