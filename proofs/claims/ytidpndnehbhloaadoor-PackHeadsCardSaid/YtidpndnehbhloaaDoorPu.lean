/-
 Contracts of this seat: what loops and calls leave, for all inputs. No condition.
-/
import Derived.Test.YtidpndnehbhloaaDoorSycp
import Derived.Test.YtidpndnehbhloaaDoorCo
import Derived.Test.YtidpndnehbhloaaDoorP0
import Derived.Test.YtidpndnehbhloaaDoorPa
set_option linter.unusedSimpArgs false
set_option linter.unusedVariables false
namespace Go.Proofs.YtidpndnehbhloaaDoor.Pu
open Go.RowKit Go.Ev Go.Proofs.YtidpndnehbhloaaDoor.Co

open Go.Proofs.YtidpndnehbhloaaDoor.P0
open Go.Proofs.YtidpndnehbhloaaDoor.Pa

abbrev dqPu (a b : E) (j : Int) : Duty := (true, .bi .sel a (.int j), .bi .sel b (.int j))
abbrev vu32Pu (a : E) (j : Int) : AV := .sint .u32 (.bi .sel a (.int j))
abbrev vu8Pu (a : E) (j : Int) : AV := .sint .u8 (.bi .sel a (.int j))
abbrev txPu0 : E := (.bi .pair (.var 3) (.bi .pair (.var 4) (.int 0)))
abbrev zPu2 : E := (.bi .add (.var 3) (.var 4))
abbrev txPu1 : E := (.tr .cut (.var 7) (.var 3) zPu2)
abbrev zPu1 : E := (.bi (.iop .rem .i64) (.var 2) (.int 64))
abbrev txPu2 : E := (.bi .sub (.int 64) zPu1)
abbrev txPu3 : E := (.fn 4 (argsE [.var 0, .var 1, .var 2, .var 7, .var 3, .var 4]))
abbrev txPu4 : E := (.fn 5 (argsE [.var 0, .var 1, .var 2, .var 7, .var 3, .var 4]))
abbrev txPu5 : E := (.bi .pair zPu2 (.bi .pair (.int 0) (.int 0)))
abbrev txPu6 : E := (.bi .pair (.var 2) (.bi .pair (.var 7) txPu0))
abbrev txPu7 : E := (.bi .pair (.bi .sub (.var 4) txPu2) (.int 0))
abbrev txPu8 : E := (.tr .splice (.var 1) zPu1 txPu1)
abbrev zPu0 : E := (.bi .add (.var 2) (.var 4))
abbrev txPu9 : E := (.bi .pair zPu0 (.bi .pair (.var 7) txPu5))
abbrev txPu10 : E := (.bi .pair (.var 0) (.bi .pair (.var 1) txPu6))
abbrev txPu11 : E := (.bi .pair (.var 0) (.bi .pair txPu8 (.int 0)))
abbrev txPu12 : E := (.tr .splice (.var 1) zPu1 (.tr .cut txPu1 (.int 0) txPu2))
abbrev txPu13 : E := (.bi .pair (.var 7) (.bi .pair (.bi .add (.var 3) txPu2) txPu7))
abbrev txPu14 : E := (.bi .pair (.var 0) (.bi .pair txPu12 (.int 0)))
abbrev txPu15 : E := (.bi .pair (.var 0) (.bi .pair txPu8 txPu9))
abbrev txPu16 : E := (.bi .pair (.bi .add (.var 2) txPu2) txPu13)
abbrev txPu17 : E := (.bi .pair (.fn 3 txPu11) (.bi .pair txPu8 txPu9))
abbrev txPu18 : E := (.bi .pair (.fn 3 txPu14) (.bi .pair txPu12 txPu16))
abbrev zPu3 : E := (.bi .sub (.var 5) (.var 4))
def takeK : LSpec := { n := 48, next := 2, pat := [(0, .ptr 1 0), (1, .sslice 3 (.var 3) (.var 4) (.var 5) true)], rows := [(1, .cells 81 0 false false [vu32Pu (.var 0) 0, vu32Pu (.var 0) 1, vu32Pu (.var 0) 2, vu32Pu (.var 0) 3, vu32Pu (.var 0) 4, vu32Pu (.var 0) 5, vu32Pu (.var 0) 6, vu32Pu (.var 0) 7, vu8Pu (.var 1) 0, vu8Pu (.var 1) 1, vu8Pu (.var 1) 2, vu8Pu (.var 1) 3, vu8Pu (.var 1) 4, vu8Pu (.var 1) 5, vu8Pu (.var 1) 6, vu8Pu (.var 1) 7, vu8Pu (.var 1) 8, vu8Pu (.var 1) 9, vu8Pu (.var 1) 10, vu8Pu (.var 1) 11, vu8Pu (.var 1) 12, vu8Pu (.var 1) 13, vu8Pu (.var 1) 14, vu8Pu (.var 1) 15, vu8Pu (.var 1) 16, vu8Pu (.var 1) 17, vu8Pu (.var 1) 18, vu8Pu (.var 1) 19, vu8Pu (.var 1) 20, vu8Pu (.var 1) 21, vu8Pu (.var 1) 22, vu8Pu (.var 1) 23, vu8Pu (.var 1) 24, vu8Pu (.var 1) 25, vu8Pu (.var 1) 26, vu8Pu (.var 1) 27, vu8Pu (.var 1) 28, vu8Pu (.var 1) 29, vu8Pu (.var 1) 30, vu8Pu (.var 1) 31, vu8Pu (.var 1) 32, vu8Pu (.var 1) 33, vu8Pu (.var 1) 34, vu8Pu (.var 1) 35, vu8Pu (.var 1) 36, vu8Pu (.var 1) 37, vu8Pu (.var 1) 38, vu8Pu (.var 1) 39, vu8Pu (.var 1) 40, vu8Pu (.var 1) 41, vu8Pu (.var 1) 42, vu8Pu (.var 1) 43, vu8Pu (.var 1) 44, vu8Pu (.var 1) 45, vu8Pu (.var 1) 46, vu8Pu (.var 1) 47, vu8Pu (.var 1) 48, vu8Pu (.var 1) 49, vu8Pu (.var 1) 50, vu8Pu (.var 1) 51, vu8Pu (.var 1) 52, vu8Pu (.var 1) 53, vu8Pu (.var 1) 54, vu8Pu (.var 1) 55, vu8Pu (.var 1) 56, vu8Pu (.var 1) 57, vu8Pu (.var 1) 58, vu8Pu (.var 1) 59, vu8Pu (.var 1) 60, vu8Pu (.var 1) 61, vu8Pu (.var 1) 62, vu8Pu (.var 1) 63, .sint .i64 (.var 2)]), (3, .eseq ⟨.u8, .var 6, .var 7⟩), (0, .ext cellsG)], pre := [(.le (.int 0) (.var 2), true), (.le zPu0 (.int 4611686018427387904), true), (.eq (.un .len (.var 1)) (.int 64), true), (.le zPu2 (.var 6), true)], x := 0, fin := [], frows := [(1, .cells 81 0 false false [vu32Pu txPu3 0, vu32Pu txPu3 1, vu32Pu txPu3 2, vu32Pu txPu3 3, vu32Pu txPu3 4, vu32Pu txPu3 5, vu32Pu txPu3 6, vu32Pu txPu3 7, vu8Pu txPu4 0, vu8Pu txPu4 1, vu8Pu txPu4 2, vu8Pu txPu4 3, vu8Pu txPu4 4, vu8Pu txPu4 5, vu8Pu txPu4 6, vu8Pu txPu4 7, vu8Pu txPu4 8, vu8Pu txPu4 9, vu8Pu txPu4 10, vu8Pu txPu4 11, vu8Pu txPu4 12, vu8Pu txPu4 13, vu8Pu txPu4 14, vu8Pu txPu4 15, vu8Pu txPu4 16, vu8Pu txPu4 17, vu8Pu txPu4 18, vu8Pu txPu4 19, vu8Pu txPu4 20, vu8Pu txPu4 21, vu8Pu txPu4 22, vu8Pu txPu4 23, vu8Pu txPu4 24, vu8Pu txPu4 25, vu8Pu txPu4 26, vu8Pu txPu4 27, vu8Pu txPu4 28, vu8Pu txPu4 29, vu8Pu txPu4 30, vu8Pu txPu4 31, vu8Pu txPu4 32, vu8Pu txPu4 33, vu8Pu txPu4 34, vu8Pu txPu4 35, vu8Pu txPu4 36, vu8Pu txPu4 37, vu8Pu txPu4 38, vu8Pu txPu4 39, vu8Pu txPu4 40, vu8Pu txPu4 41, vu8Pu txPu4 42, vu8Pu txPu4 43, vu8Pu txPu4 44, vu8Pu txPu4 45, vu8Pu txPu4 46, vu8Pu txPu4 47, vu8Pu txPu4 48, vu8Pu txPu4 49, vu8Pu txPu4 50, vu8Pu txPu4 51, vu8Pu txPu4 52, vu8Pu txPu4 53, vu8Pu txPu4 54, vu8Pu txPu4 55, vu8Pu txPu4 56, vu8Pu txPu4 57, vu8Pu txPu4 58, vu8Pu txPu4 59, vu8Pu txPu4 60, vu8Pu txPu4 61, vu8Pu txPu4 62, vu8Pu txPu4 63, .sint .i64 zPu0])], same := [1], chg := [0, 1, 4, 5, 6, 7, 8, 9, 10, 11, 12, 13, 14, 15, 16, 17, 18, 19, 20, 21, 22, 23, 24, 25, 26, 27, 28, 29, 30, 31, 32, 33, 34, 35, 36, 37, 38, 39, 40, 41, 42, 43, 44, 45, 46, 47] }
abbrev asPu0 : Q × Bool := ((.fit .i64 (.var 4)), true)
abbrev asPu1 : Q × Bool := ((.le (.var 4) (.int 0)), true)
def takeK_t0 : List (Q × Bool) := [asPu0, asPu1]
def takeK_d0 : List Duty := [dqPu (.var 0) (.fn 4 txPu10) 0, dqPu (.var 0) (.fn 4 txPu10) 1, dqPu (.var 0) (.fn 4 txPu10) 2, dqPu (.var 0) (.fn 4 txPu10) 3, dqPu (.var 0) (.fn 4 txPu10) 4, dqPu (.var 0) (.fn 4 txPu10) 5, dqPu (.var 0) (.fn 4 txPu10) 6, dqPu (.var 0) (.fn 4 txPu10) 7, dqPu (.var 1) (.fn 5 txPu10) 0, dqPu (.var 1) (.fn 5 txPu10) 1, dqPu (.var 1) (.fn 5 txPu10) 2, dqPu (.var 1) (.fn 5 txPu10) 3, dqPu (.var 1) (.fn 5 txPu10) 4, dqPu (.var 1) (.fn 5 txPu10) 5, dqPu (.var 1) (.fn 5 txPu10) 6, dqPu (.var 1) (.fn 5 txPu10) 7, dqPu (.var 1) (.fn 5 txPu10) 8, dqPu (.var 1) (.fn 5 txPu10) 9, dqPu (.var 1) (.fn 5 txPu10) 10, dqPu (.var 1) (.fn 5 txPu10) 11, dqPu (.var 1) (.fn 5 txPu10) 12, dqPu (.var 1) (.fn 5 txPu10) 13, dqPu (.var 1) (.fn 5 txPu10) 14, dqPu (.var 1) (.fn 5 txPu10) 15, dqPu (.var 1) (.fn 5 txPu10) 16, dqPu (.var 1) (.fn 5 txPu10) 17, dqPu (.var 1) (.fn 5 txPu10) 18, dqPu (.var 1) (.fn 5 txPu10) 19, dqPu (.var 1) (.fn 5 txPu10) 20, dqPu (.var 1) (.fn 5 txPu10) 21, dqPu (.var 1) (.fn 5 txPu10) 22, dqPu (.var 1) (.fn 5 txPu10) 23, dqPu (.var 1) (.fn 5 txPu10) 24, dqPu (.var 1) (.fn 5 txPu10) 25, dqPu (.var 1) (.fn 5 txPu10) 26, dqPu (.var 1) (.fn 5 txPu10) 27, dqPu (.var 1) (.fn 5 txPu10) 28, dqPu (.var 1) (.fn 5 txPu10) 29, dqPu (.var 1) (.fn 5 txPu10) 30, dqPu (.var 1) (.fn 5 txPu10) 31, dqPu (.var 1) (.fn 5 txPu10) 32, dqPu (.var 1) (.fn 5 txPu10) 33, dqPu (.var 1) (.fn 5 txPu10) 34, dqPu (.var 1) (.fn 5 txPu10) 35, dqPu (.var 1) (.fn 5 txPu10) 36, dqPu (.var 1) (.fn 5 txPu10) 37, dqPu (.var 1) (.fn 5 txPu10) 38, dqPu (.var 1) (.fn 5 txPu10) 39, dqPu (.var 1) (.fn 5 txPu10) 40, dqPu (.var 1) (.fn 5 txPu10) 41, dqPu (.var 1) (.fn 5 txPu10) 42, dqPu (.var 1) (.fn 5 txPu10) 43, dqPu (.var 1) (.fn 5 txPu10) 44, dqPu (.var 1) (.fn 5 txPu10) 45, dqPu (.var 1) (.fn 5 txPu10) 46, dqPu (.var 1) (.fn 5 txPu10) 47, dqPu (.var 1) (.fn 5 txPu10) 48, dqPu (.var 1) (.fn 5 txPu10) 49, dqPu (.var 1) (.fn 5 txPu10) 50, dqPu (.var 1) (.fn 5 txPu10) 51, dqPu (.var 1) (.fn 5 txPu10) 52, dqPu (.var 1) (.fn 5 txPu10) 53, dqPu (.var 1) (.fn 5 txPu10) 54, dqPu (.var 1) (.fn 5 txPu10) 55, dqPu (.var 1) (.fn 5 txPu10) 56, dqPu (.var 1) (.fn 5 txPu10) 57, dqPu (.var 1) (.fn 5 txPu10) 58, dqPu (.var 1) (.fn 5 txPu10) 59, dqPu (.var 1) (.fn 5 txPu10) 60, dqPu (.var 1) (.fn 5 txPu10) 61, dqPu (.var 1) (.fn 5 txPu10) 62, dqPu (.var 1) (.fn 5 txPu10) 63, (true, (.var 2), zPu0)]
noncomputable abbrev ltPu0 : List LEntry := [⟨46, [4, 1, 0, 1, 1, 1], sprL⟩, ⟨42, [4, 1, 0, 1, 1, 1], mixL⟩, ⟨41, [4, 1, 0, 1, 1, 1], moreL⟩, ⟨41, [4, 1, 0, 1, 1, 1], moreLO⟩]
theorem takeK_y0 : endD takeK [(3, 3), (1, 1)] 1000 (roundC Tryd.prog ltPu0 [(42, mixedC), (43, fillC), (44, bytesC), (45, tableC), (41, moreC), (41, moreCO), (25, putC), (25, putCO)] [] 3000 40 39 [4] (tellA takeK_t0) takeK) = some takeK_d0 := by kernel_rfl
abbrev asPu2 : Q × Bool := ((.le (.var 4) (.int 0)), false)
abbrev asPu3 : Q × Bool := ((.le (.int 0) zPu1), true)
abbrev asPu4 : Q × Bool := ((.le zPu1 (.int 64)), true)
abbrev asPu5 : Q × Bool := ((.le zPu2 (.var 6)), true)
abbrev asPu6 : Q × Bool := ((.le (.var 4) txPu2), true)
abbrev asPu7 : Q × Bool := ((.le (.bi .add zPu1 (.var 4)) (.int 64)), true)
abbrev asPu8 : Q × Bool := ((.le (.int 64) (.un .len (.var 1))), true)
abbrev asPu9 : Q × Bool := ((.fit .i64 zPu0), true)
abbrev asPu10 : Q × Bool := ((.le (.int 0) (.var 4)), true)
abbrev asPu11 : Q × Bool := ((.le (.var 4) (.var 5)), true)
abbrev asPu12 : Q × Bool := ((.eq (.bi (.iop .rem .i64) zPu0 (.int 64)) (.int 0)), false)
def takeK_t1 : List (Q × Bool) := [asPu0, asPu2, asPu3, asPu4, asPu5, asPu6, asPu7, asPu8, asPu9, asPu10, asPu11, asPu12]
def takeK_d1 : List Duty := [dqPu (.fn 4 txPu15) (.fn 4 txPu10) 0, dqPu (.fn 4 txPu15) (.fn 4 txPu10) 1, dqPu (.fn 4 txPu15) (.fn 4 txPu10) 2, dqPu (.fn 4 txPu15) (.fn 4 txPu10) 3, dqPu (.fn 4 txPu15) (.fn 4 txPu10) 4, dqPu (.fn 4 txPu15) (.fn 4 txPu10) 5, dqPu (.fn 4 txPu15) (.fn 4 txPu10) 6, dqPu (.fn 4 txPu15) (.fn 4 txPu10) 7, dqPu (.fn 5 txPu15) (.fn 5 txPu10) 0, dqPu (.fn 5 txPu15) (.fn 5 txPu10) 1, dqPu (.fn 5 txPu15) (.fn 5 txPu10) 2, dqPu (.fn 5 txPu15) (.fn 5 txPu10) 3, dqPu (.fn 5 txPu15) (.fn 5 txPu10) 4, dqPu (.fn 5 txPu15) (.fn 5 txPu10) 5, dqPu (.fn 5 txPu15) (.fn 5 txPu10) 6, dqPu (.fn 5 txPu15) (.fn 5 txPu10) 7, dqPu (.fn 5 txPu15) (.fn 5 txPu10) 8, dqPu (.fn 5 txPu15) (.fn 5 txPu10) 9, dqPu (.fn 5 txPu15) (.fn 5 txPu10) 10, dqPu (.fn 5 txPu15) (.fn 5 txPu10) 11, dqPu (.fn 5 txPu15) (.fn 5 txPu10) 12, dqPu (.fn 5 txPu15) (.fn 5 txPu10) 13, dqPu (.fn 5 txPu15) (.fn 5 txPu10) 14, dqPu (.fn 5 txPu15) (.fn 5 txPu10) 15, dqPu (.fn 5 txPu15) (.fn 5 txPu10) 16, dqPu (.fn 5 txPu15) (.fn 5 txPu10) 17, dqPu (.fn 5 txPu15) (.fn 5 txPu10) 18, dqPu (.fn 5 txPu15) (.fn 5 txPu10) 19, dqPu (.fn 5 txPu15) (.fn 5 txPu10) 20, dqPu (.fn 5 txPu15) (.fn 5 txPu10) 21, dqPu (.fn 5 txPu15) (.fn 5 txPu10) 22, dqPu (.fn 5 txPu15) (.fn 5 txPu10) 23, dqPu (.fn 5 txPu15) (.fn 5 txPu10) 24, dqPu (.fn 5 txPu15) (.fn 5 txPu10) 25, dqPu (.fn 5 txPu15) (.fn 5 txPu10) 26, dqPu (.fn 5 txPu15) (.fn 5 txPu10) 27, dqPu (.fn 5 txPu15) (.fn 5 txPu10) 28, dqPu (.fn 5 txPu15) (.fn 5 txPu10) 29, dqPu (.fn 5 txPu15) (.fn 5 txPu10) 30, dqPu (.fn 5 txPu15) (.fn 5 txPu10) 31, dqPu (.fn 5 txPu15) (.fn 5 txPu10) 32, dqPu (.fn 5 txPu15) (.fn 5 txPu10) 33, dqPu (.fn 5 txPu15) (.fn 5 txPu10) 34, dqPu (.fn 5 txPu15) (.fn 5 txPu10) 35, dqPu (.fn 5 txPu15) (.fn 5 txPu10) 36, dqPu (.fn 5 txPu15) (.fn 5 txPu10) 37, dqPu (.fn 5 txPu15) (.fn 5 txPu10) 38, dqPu (.fn 5 txPu15) (.fn 5 txPu10) 39, dqPu (.fn 5 txPu15) (.fn 5 txPu10) 40, dqPu (.fn 5 txPu15) (.fn 5 txPu10) 41, dqPu (.fn 5 txPu15) (.fn 5 txPu10) 42, dqPu (.fn 5 txPu15) (.fn 5 txPu10) 43, dqPu (.fn 5 txPu15) (.fn 5 txPu10) 44, dqPu (.fn 5 txPu15) (.fn 5 txPu10) 45, dqPu (.fn 5 txPu15) (.fn 5 txPu10) 46, dqPu (.fn 5 txPu15) (.fn 5 txPu10) 47, dqPu (.fn 5 txPu15) (.fn 5 txPu10) 48, dqPu (.fn 5 txPu15) (.fn 5 txPu10) 49, dqPu (.fn 5 txPu15) (.fn 5 txPu10) 50, dqPu (.fn 5 txPu15) (.fn 5 txPu10) 51, dqPu (.fn 5 txPu15) (.fn 5 txPu10) 52, dqPu (.fn 5 txPu15) (.fn 5 txPu10) 53, dqPu (.fn 5 txPu15) (.fn 5 txPu10) 54, dqPu (.fn 5 txPu15) (.fn 5 txPu10) 55, dqPu (.fn 5 txPu15) (.fn 5 txPu10) 56, dqPu (.fn 5 txPu15) (.fn 5 txPu10) 57, dqPu (.fn 5 txPu15) (.fn 5 txPu10) 58, dqPu (.fn 5 txPu15) (.fn 5 txPu10) 59, dqPu (.fn 5 txPu15) (.fn 5 txPu10) 60, dqPu (.fn 5 txPu15) (.fn 5 txPu10) 61, dqPu (.fn 5 txPu15) (.fn 5 txPu10) 62, dqPu (.fn 5 txPu15) (.fn 5 txPu10) 63, (true, (.bi .add zPu0 (.int 0)), zPu0)]
def takeK_h1 : List (Nat × E) := [(6, (.var 6)), (7, (.var 7)), (2, zPu0), (1, txPu8), (0, (.var 0)), (3, zPu2), (4, (.int 0)), (5, zPu3)]
theorem takeK_h1_a : lookE takeK_h1 0 = (.var 0) ∧ lookE takeK_h1 1 = txPu8 ∧ lookE takeK_h1 2 = zPu0 ∧ lookE takeK_h1 3 = zPu2 ∧ lookE takeK_h1 4 = (.int 0) ∧ lookE takeK_h1 5 = zPu3 ∧ lookE takeK_h1 6 = (.var 6) ∧ lookE takeK_h1 7 = (.var 7) := ⟨rfl, rfl, rfl, rfl, rfl, rfl, rfl, rfl⟩
noncomputable abbrev ltPu1 : List (FuncId × CSpec) := [(42, mixedC), (43, fillC), (44, bytesC), (45, tableC), (41, moreC), (41, moreCO), (25, putC), (25, putCO)]
theorem takeK_y1 : nextD takeK takeK_h1 [(3, 3), (1, 1)] (roundC Tryd.prog ltPu0 ltPu1 [] 3000 40 39 [4] (tellA takeK_t1) takeK) = some takeK_d1 := by kernel_rfl
abbrev asPu13 : Q × Bool := ((.eq (.bi (.iop .rem .i64) zPu0 (.int 64)) (.int 0)), true)
def takeK_t2 : List (Q × Bool) := [asPu0, asPu2, asPu3, asPu4, asPu5, asPu6, asPu7, asPu8, asPu9, asPu10, asPu11, asPu13]
def takeK_d2 : List Duty := [dqPu (.fn 4 txPu17) (.fn 4 txPu10) 0, dqPu (.fn 4 txPu17) (.fn 4 txPu10) 1, dqPu (.fn 4 txPu17) (.fn 4 txPu10) 2, dqPu (.fn 4 txPu17) (.fn 4 txPu10) 3, dqPu (.fn 4 txPu17) (.fn 4 txPu10) 4, dqPu (.fn 4 txPu17) (.fn 4 txPu10) 5, dqPu (.fn 4 txPu17) (.fn 4 txPu10) 6, dqPu (.fn 4 txPu17) (.fn 4 txPu10) 7, dqPu (.fn 5 txPu17) (.fn 5 txPu10) 0, dqPu (.fn 5 txPu17) (.fn 5 txPu10) 1, dqPu (.fn 5 txPu17) (.fn 5 txPu10) 2, dqPu (.fn 5 txPu17) (.fn 5 txPu10) 3, dqPu (.fn 5 txPu17) (.fn 5 txPu10) 4, dqPu (.fn 5 txPu17) (.fn 5 txPu10) 5, dqPu (.fn 5 txPu17) (.fn 5 txPu10) 6, dqPu (.fn 5 txPu17) (.fn 5 txPu10) 7, dqPu (.fn 5 txPu17) (.fn 5 txPu10) 8, dqPu (.fn 5 txPu17) (.fn 5 txPu10) 9, dqPu (.fn 5 txPu17) (.fn 5 txPu10) 10, dqPu (.fn 5 txPu17) (.fn 5 txPu10) 11, dqPu (.fn 5 txPu17) (.fn 5 txPu10) 12, dqPu (.fn 5 txPu17) (.fn 5 txPu10) 13, dqPu (.fn 5 txPu17) (.fn 5 txPu10) 14, dqPu (.fn 5 txPu17) (.fn 5 txPu10) 15, dqPu (.fn 5 txPu17) (.fn 5 txPu10) 16, dqPu (.fn 5 txPu17) (.fn 5 txPu10) 17, dqPu (.fn 5 txPu17) (.fn 5 txPu10) 18, dqPu (.fn 5 txPu17) (.fn 5 txPu10) 19, dqPu (.fn 5 txPu17) (.fn 5 txPu10) 20, dqPu (.fn 5 txPu17) (.fn 5 txPu10) 21, dqPu (.fn 5 txPu17) (.fn 5 txPu10) 22, dqPu (.fn 5 txPu17) (.fn 5 txPu10) 23, dqPu (.fn 5 txPu17) (.fn 5 txPu10) 24, dqPu (.fn 5 txPu17) (.fn 5 txPu10) 25, dqPu (.fn 5 txPu17) (.fn 5 txPu10) 26, dqPu (.fn 5 txPu17) (.fn 5 txPu10) 27, dqPu (.fn 5 txPu17) (.fn 5 txPu10) 28, dqPu (.fn 5 txPu17) (.fn 5 txPu10) 29, dqPu (.fn 5 txPu17) (.fn 5 txPu10) 30, dqPu (.fn 5 txPu17) (.fn 5 txPu10) 31, dqPu (.fn 5 txPu17) (.fn 5 txPu10) 32, dqPu (.fn 5 txPu17) (.fn 5 txPu10) 33, dqPu (.fn 5 txPu17) (.fn 5 txPu10) 34, dqPu (.fn 5 txPu17) (.fn 5 txPu10) 35, dqPu (.fn 5 txPu17) (.fn 5 txPu10) 36, dqPu (.fn 5 txPu17) (.fn 5 txPu10) 37, dqPu (.fn 5 txPu17) (.fn 5 txPu10) 38, dqPu (.fn 5 txPu17) (.fn 5 txPu10) 39, dqPu (.fn 5 txPu17) (.fn 5 txPu10) 40, dqPu (.fn 5 txPu17) (.fn 5 txPu10) 41, dqPu (.fn 5 txPu17) (.fn 5 txPu10) 42, dqPu (.fn 5 txPu17) (.fn 5 txPu10) 43, dqPu (.fn 5 txPu17) (.fn 5 txPu10) 44, dqPu (.fn 5 txPu17) (.fn 5 txPu10) 45, dqPu (.fn 5 txPu17) (.fn 5 txPu10) 46, dqPu (.fn 5 txPu17) (.fn 5 txPu10) 47, dqPu (.fn 5 txPu17) (.fn 5 txPu10) 48, dqPu (.fn 5 txPu17) (.fn 5 txPu10) 49, dqPu (.fn 5 txPu17) (.fn 5 txPu10) 50, dqPu (.fn 5 txPu17) (.fn 5 txPu10) 51, dqPu (.fn 5 txPu17) (.fn 5 txPu10) 52, dqPu (.fn 5 txPu17) (.fn 5 txPu10) 53, dqPu (.fn 5 txPu17) (.fn 5 txPu10) 54, dqPu (.fn 5 txPu17) (.fn 5 txPu10) 55, dqPu (.fn 5 txPu17) (.fn 5 txPu10) 56, dqPu (.fn 5 txPu17) (.fn 5 txPu10) 57, dqPu (.fn 5 txPu17) (.fn 5 txPu10) 58, dqPu (.fn 5 txPu17) (.fn 5 txPu10) 59, dqPu (.fn 5 txPu17) (.fn 5 txPu10) 60, dqPu (.fn 5 txPu17) (.fn 5 txPu10) 61, dqPu (.fn 5 txPu17) (.fn 5 txPu10) 62, dqPu (.fn 5 txPu17) (.fn 5 txPu10) 63, (true, (.bi .add zPu0 (.int 0)), zPu0)]
def takeK_h2 : List (Nat × E) := [(6, (.var 6)), (7, (.var 7)), (2, zPu0), (1, txPu8), (0, (.fn 3 txPu11)), (3, zPu2), (4, (.int 0)), (5, zPu3)]
theorem takeK_h2_a : lookE takeK_h2 0 = (.fn 3 txPu11) ∧ lookE takeK_h2 1 = txPu8 ∧ lookE takeK_h2 2 = zPu0 ∧ lookE takeK_h2 3 = zPu2 ∧ lookE takeK_h2 4 = (.int 0) ∧ lookE takeK_h2 5 = zPu3 ∧ lookE takeK_h2 6 = (.var 6) ∧ lookE takeK_h2 7 = (.var 7) := ⟨rfl, rfl, rfl, rfl, rfl, rfl, rfl, rfl⟩
theorem takeK_y2 : nextD takeK takeK_h2 [(3, 3), (1, 1)] (roundC Tryd.prog ltPu0 ltPu1 [] 3000 40 39 [4] (tellA takeK_t2) takeK) = some takeK_d2 := by kernel_rfl
abbrev asPu14 : Q × Bool := ((.le (.var 4) txPu2), false)
abbrev asPu15 : Q × Bool := ((.fit .i64 txPu2), true)
abbrev asPu16 : Q × Bool := ((.le (.bi .add zPu1 txPu2) (.int 64)), true)
abbrev asPu17 : Q × Bool := ((.fit .i64 (.bi .add (.var 2) txPu2)), true)
abbrev asPu18 : Q × Bool := ((.le (.int 0) txPu2), true)
abbrev asPu19 : Q × Bool := ((.le txPu2 (.var 4)), true)
abbrev asPu20 : Q × Bool := ((.eq (.bi (.iop .rem .i64) (.bi .add (.var 2) txPu2) (.int 64)) (.int 0)), true)
def takeK_t3 : List (Q × Bool) := [asPu0, asPu2, asPu3, asPu4, asPu5, asPu14, asPu15, asPu16, asPu8, asPu17, asPu18, asPu19, asPu11, asPu20]
def takeK_d3 : List Duty := [dqPu (.fn 4 txPu18) (.fn 4 txPu10) 0, dqPu (.fn 4 txPu18) (.fn 4 txPu10) 1, dqPu (.fn 4 txPu18) (.fn 4 txPu10) 2, dqPu (.fn 4 txPu18) (.fn 4 txPu10) 3, dqPu (.fn 4 txPu18) (.fn 4 txPu10) 4, dqPu (.fn 4 txPu18) (.fn 4 txPu10) 5, dqPu (.fn 4 txPu18) (.fn 4 txPu10) 6, dqPu (.fn 4 txPu18) (.fn 4 txPu10) 7, dqPu (.fn 5 txPu18) (.fn 5 txPu10) 0, dqPu (.fn 5 txPu18) (.fn 5 txPu10) 1, dqPu (.fn 5 txPu18) (.fn 5 txPu10) 2, dqPu (.fn 5 txPu18) (.fn 5 txPu10) 3, dqPu (.fn 5 txPu18) (.fn 5 txPu10) 4, dqPu (.fn 5 txPu18) (.fn 5 txPu10) 5, dqPu (.fn 5 txPu18) (.fn 5 txPu10) 6, dqPu (.fn 5 txPu18) (.fn 5 txPu10) 7, dqPu (.fn 5 txPu18) (.fn 5 txPu10) 8, dqPu (.fn 5 txPu18) (.fn 5 txPu10) 9, dqPu (.fn 5 txPu18) (.fn 5 txPu10) 10, dqPu (.fn 5 txPu18) (.fn 5 txPu10) 11, dqPu (.fn 5 txPu18) (.fn 5 txPu10) 12, dqPu (.fn 5 txPu18) (.fn 5 txPu10) 13, dqPu (.fn 5 txPu18) (.fn 5 txPu10) 14, dqPu (.fn 5 txPu18) (.fn 5 txPu10) 15, dqPu (.fn 5 txPu18) (.fn 5 txPu10) 16, dqPu (.fn 5 txPu18) (.fn 5 txPu10) 17, dqPu (.fn 5 txPu18) (.fn 5 txPu10) 18, dqPu (.fn 5 txPu18) (.fn 5 txPu10) 19, dqPu (.fn 5 txPu18) (.fn 5 txPu10) 20, dqPu (.fn 5 txPu18) (.fn 5 txPu10) 21, dqPu (.fn 5 txPu18) (.fn 5 txPu10) 22, dqPu (.fn 5 txPu18) (.fn 5 txPu10) 23, dqPu (.fn 5 txPu18) (.fn 5 txPu10) 24, dqPu (.fn 5 txPu18) (.fn 5 txPu10) 25, dqPu (.fn 5 txPu18) (.fn 5 txPu10) 26, dqPu (.fn 5 txPu18) (.fn 5 txPu10) 27, dqPu (.fn 5 txPu18) (.fn 5 txPu10) 28, dqPu (.fn 5 txPu18) (.fn 5 txPu10) 29, dqPu (.fn 5 txPu18) (.fn 5 txPu10) 30, dqPu (.fn 5 txPu18) (.fn 5 txPu10) 31, dqPu (.fn 5 txPu18) (.fn 5 txPu10) 32, dqPu (.fn 5 txPu18) (.fn 5 txPu10) 33, dqPu (.fn 5 txPu18) (.fn 5 txPu10) 34, dqPu (.fn 5 txPu18) (.fn 5 txPu10) 35, dqPu (.fn 5 txPu18) (.fn 5 txPu10) 36, dqPu (.fn 5 txPu18) (.fn 5 txPu10) 37, dqPu (.fn 5 txPu18) (.fn 5 txPu10) 38, dqPu (.fn 5 txPu18) (.fn 5 txPu10) 39, dqPu (.fn 5 txPu18) (.fn 5 txPu10) 40, dqPu (.fn 5 txPu18) (.fn 5 txPu10) 41, dqPu (.fn 5 txPu18) (.fn 5 txPu10) 42, dqPu (.fn 5 txPu18) (.fn 5 txPu10) 43, dqPu (.fn 5 txPu18) (.fn 5 txPu10) 44, dqPu (.fn 5 txPu18) (.fn 5 txPu10) 45, dqPu (.fn 5 txPu18) (.fn 5 txPu10) 46, dqPu (.fn 5 txPu18) (.fn 5 txPu10) 47, dqPu (.fn 5 txPu18) (.fn 5 txPu10) 48, dqPu (.fn 5 txPu18) (.fn 5 txPu10) 49, dqPu (.fn 5 txPu18) (.fn 5 txPu10) 50, dqPu (.fn 5 txPu18) (.fn 5 txPu10) 51, dqPu (.fn 5 txPu18) (.fn 5 txPu10) 52, dqPu (.fn 5 txPu18) (.fn 5 txPu10) 53, dqPu (.fn 5 txPu18) (.fn 5 txPu10) 54, dqPu (.fn 5 txPu18) (.fn 5 txPu10) 55, dqPu (.fn 5 txPu18) (.fn 5 txPu10) 56, dqPu (.fn 5 txPu18) (.fn 5 txPu10) 57, dqPu (.fn 5 txPu18) (.fn 5 txPu10) 58, dqPu (.fn 5 txPu18) (.fn 5 txPu10) 59, dqPu (.fn 5 txPu18) (.fn 5 txPu10) 60, dqPu (.fn 5 txPu18) (.fn 5 txPu10) 61, dqPu (.fn 5 txPu18) (.fn 5 txPu10) 62, dqPu (.fn 5 txPu18) (.fn 5 txPu10) 63, (true, (.bi .add (.bi .add (.var 2) txPu2) (.bi .sub (.var 4) txPu2)), zPu0)]
def takeK_h3 : List (Nat × E) := [(6, (.var 6)), (7, (.var 7)), (2, (.bi .add (.var 2) txPu2)), (1, txPu12), (0, (.fn 3 txPu14)), (3, (.bi .add (.var 3) txPu2)), (4, (.bi .sub (.var 4) txPu2)), (5, (.bi .sub (.var 5) txPu2))]
theorem takeK_h3_a : lookE takeK_h3 0 = (.fn 3 txPu14) ∧ lookE takeK_h3 1 = txPu12 ∧ lookE takeK_h3 2 = (.bi .add (.var 2) txPu2) ∧ lookE takeK_h3 3 = (.bi .add (.var 3) txPu2) ∧ lookE takeK_h3 4 = (.bi .sub (.var 4) txPu2) ∧ lookE takeK_h3 5 = (.bi .sub (.var 5) txPu2) ∧ lookE takeK_h3 6 = (.var 6) ∧ lookE takeK_h3 7 = (.var 7) := ⟨rfl, rfl, rfl, rfl, rfl, rfl, rfl, rfl⟩
theorem takeK_y3 : nextD takeK takeK_h3 [(3, 3), (1, 1)] (roundC Tryd.prog ltPu0 ltPu1 [] 3000 40 39 [4] (tellA takeK_t3) takeK) = some takeK_d3 := by kernel_rfl
theorem takeK_holds : LHolds Tryd.prog (loopAt Tryd.prog 39 [4]) takeK F := by
 refine loop_roundsC sound (tableCons sprL_holds (tableCons mixL_holds (tableCons moreL_holds (tableCons moreLO_holds (tableNil _ _))))) (specsCons mixedC_holds (specsCons fillC_holds (specsCons bytesC_holds (specsCons tableC_holds (specsCons moreC_holds (specsCons moreCO_holds (specsCons putC_holds (specsCons putCO_holds (specsNil _ _))))))))) (oversNil _ _) (fuel := 3000) (depth := 40) (by kernel_rfl) (by kernel_rfl) (by kernel_rfl) (fun d => (d 4).toInt.toNat) fun d hp hR hA => ?_
 have hp := allTold'_iff.2 hp
 simp only [takeK, tl] at hp hR hA
 have hl : ((prt (d 7).ints (d 3).toInt ((d 3).toInt + (d 4).toInt)).length : Int) = (d 4).toInt := by rw [prt_length (by omega) (by omega) (by omega)]; omega
 have hm := emod_in (x := (d 2).toInt) (n := 64) (by omega)
 by_cases h : (d 4).toInt ≤ 0
 ·refine ⟨tellA takeK_t0, tellA_ok (allTold'_iff.1 ?_), .inl ⟨_, _, _, takeK_y0, dutiesTold_ok ?_⟩⟩
  ·simp only [takeK_t0, tl]
   omega
  ·simp only [takeK_d0, F4, F5, tl]
   rw [take_nil (by omega)]
   and_intros <;> first | rfl | omega
 ·have hz : iopI .rem .i64 (d 2).toInt 64 = (d 2).toInt % 64 := rem_emod .i64 (by omega)
  by_cases h2 : (d 4).toInt ≤ 64 - (d 2).toInt % 64
  ·have hz2 : iopI .rem .i64 ((d 2).toInt + (d 4).toInt) 64 = ((d 2).toInt + (d 4).toInt) % 64 := rem_emod .i64 (by omega)
   have e := fun b' hb => take_one (S := (d 0).ints) (B := (d 1).ints) (X := (d 7).ints) (z := (d 2).toInt) (o := (d 3).toInt) (l := (d 4).toInt) (n := (d 4).toInt) (b' := b') (by omega) hl (by omega) (by rw [if_pos h2]) hb
   by_cases h3 : ((d 2).toInt + (d 4).toInt) % 64 = 0
   ·refine ⟨tellA takeK_t2, tellA_ok (allTold'_iff.1 ?_), .inr ⟨takeK_h2, _, _, takeK_y2, dutiesTold_ok ?_, allTold'_iff.1 ?_, ?_⟩⟩
    ·simp only [takeK_t2, hz, hz2, tl]
     omega
    ·simp only [takeK_d2, F3, F4, F5, hz, tl]
     generalize hB : D.ints (D.list _) = B'
     have e := e B' (by
      rw [← hB]
      rw [splice_prt (n := (d 4).toInt.toNat) (by omega), List.take_of_length_le (l := prt (d 7).ints (d 3).toInt ((d 3).toInt + (d 4).toInt)) (by omega)])
     rw [if_pos h3, show (d 4).toInt - (d 4).toInt = 0 by omega] at e
     unfold mix3 at e
     rw [e]
     and_intros <;> first | rfl | omega
    ·simp only [takeK, takeK_h2_a, hz, tl]
     simp only [List.length_append, List.length_take, List.length_drop, len_ints]
     omega
    ·simp only [takeK_h2_a, tl]
     omega
   ·refine ⟨tellA takeK_t1, tellA_ok (allTold'_iff.1 ?_), .inr ⟨takeK_h1, _, _, takeK_y1, dutiesTold_ok ?_, allTold'_iff.1 ?_, ?_⟩⟩
    ·simp only [takeK_t1, hz, hz2, tl]
     omega
    ·simp only [takeK_d1, F4, F5, hz, tl]
     generalize hB : D.ints (D.list _) = B'
     have e := e B' (by
      rw [← hB]
      rw [splice_prt (n := (d 4).toInt.toNat) (by omega), List.take_of_length_le (l := prt (d 7).ints (d 3).toInt ((d 3).toInt + (d 4).toInt)) (by omega)])
     rw [if_neg h3, show (d 4).toInt - (d 4).toInt = 0 by omega] at e
     rw [e]
     and_intros <;> first | rfl | omega
    ·simp only [takeK, takeK_h1_a, hz, tl]
     simp only [List.length_append, List.length_take, List.length_drop, len_ints]
     omega
    ·simp only [takeK_h1_a, tl]
     omega
  ·have hz2 : iopI .rem .i64 ((d 2).toInt + (64 - (d 2).toInt % 64)) 64 = ((d 2).toInt + (64 - (d 2).toInt % 64)) % 64 := rem_emod .i64 (by omega)
   have h3 : ((d 2).toInt + (64 - (d 2).toInt % 64)) % 64 = 0 := by omega
   have e := fun b' hb => take_one (S := (d 0).ints) (B := (d 1).ints) (X := (d 7).ints) (z := (d 2).toInt) (o := (d 3).toInt) (l := (d 4).toInt) (n := 64 - (d 2).toInt % 64) (b' := b') (by omega) hl (by omega) (by rw [if_neg h2]) hb
   refine ⟨tellA takeK_t3, tellA_ok (allTold'_iff.1 ?_), .inr ⟨takeK_h3, _, _, takeK_y3, dutiesTold_ok ?_, allTold'_iff.1 ?_, ?_⟩⟩
   ·simp only [takeK_t3, hz, hz2, tl]
    omega
   ·simp only [takeK_d3, F3, F4, F5, hz, tl]
    generalize hB : D.ints (D.list _) = B'
    have e := e B' (by
     rw [← hB]
     exact splice_prt2 (m := (64 - (d 2).toInt % 64).toNat) (by simp; omega))
    rw [if_pos h3] at e
    unfold mix3 at e
    rw [e]
    and_intros <;> first | rfl | omega
   ·simp only [takeK, takeK_h3_a, hz, tl]
    simp only [List.length_append, List.length_take, List.length_drop, len_ints]
    omega
   ·simp only [takeK_h3_a, hz, tl]
    omega

end Go.Proofs.YtidpndnehbhloaaDoor.Pu

set_option linter.unusedSimpArgs false
set_option linter.unusedVariables false
namespace Go.Proofs.YtidpndnehbhloaaDoor.Puo
open Go.RowKit Go.Ev Go.Proofs.YtidpndnehbhloaaDoor.Co

open Go.Proofs.YtidpndnehbhloaaDoor.P0
open Go.Proofs.YtidpndnehbhloaaDoor.Pa

abbrev dqPuo (a b : E) (j : Int) : Duty := (true, .bi .sel a (.int j), .bi .sel b (.int j))
abbrev vu32Puo (a : E) (j : Int) : AV := .sint .u32 (.bi .sel a (.int j))
abbrev vu8Puo (a : E) (j : Int) : AV := .sint .u8 (.bi .sel a (.int j))
abbrev txPuo0 : E := (.bi .pair (.var 3) (.bi .pair (.var 4) (.int 0)))
abbrev zPuo2 : E := (.bi .add (.var 3) (.var 4))
abbrev txPuo1 : E := (.tr .cut (.var 7) (.var 3) zPuo2)
abbrev zPuo1 : E := (.bi (.iop .rem .i64) (.var 2) (.int 64))
abbrev txPuo2 : E := (.bi .sub (.int 64) zPuo1)
abbrev txPuo3 : E := (.fn 4 (argsE [.var 0, .var 1, .var 2, .var 7, .var 3, .var 4]))
abbrev txPuo4 : E := (.fn 5 (argsE [.var 0, .var 1, .var 2, .var 7, .var 3, .var 4]))
abbrev txPuo5 : E := (.bi .pair zPuo2 (.bi .pair (.int 0) (.int 0)))
abbrev txPuo6 : E := (.bi .pair (.var 2) (.bi .pair (.var 7) txPuo0))
abbrev zPuo5 : E := (.bi .sub (.var 4) txPuo2)
abbrev txPuo7 : E := (.bi .pair zPuo5 (.int 0))
abbrev txPuo8 : E := (.tr .splice (.var 1) zPuo1 txPuo1)
abbrev zPuo0 : E := (.bi .add (.var 2) (.var 4))
abbrev txPuo9 : E := (.bi .pair zPuo0 (.bi .pair (.var 7) txPuo5))
abbrev txPuo10 : E := (.bi .pair (.var 0) (.bi .pair (.var 1) txPuo6))
abbrev txPuo11 : E := (.bi .pair (.var 0) (.bi .pair txPuo8 (.int 0)))
abbrev zPuo6 : E := (.bi .add (.var 3) txPuo2)
abbrev txPuo12 : E := (.bi .pair zPuo6 txPuo7)
abbrev txPuo13 : E := (.tr .splice (.var 1) zPuo1 (.tr .cut txPuo1 (.int 0) txPuo2))
abbrev txPuo14 : E := (.bi .pair (.var 0) (.bi .pair txPuo13 (.int 0)))
abbrev txPuo15 : E := (.bi .pair (.var 0) (.bi .pair txPuo8 txPuo9))
abbrev zPuo3 : E := (.bi .add (.var 2) txPuo2)
abbrev txPuo16 : E := (.bi .pair zPuo3 (.bi .pair (.var 7) txPuo12))
abbrev txPuo17 : E := (.bi .pair (.fn 3 txPuo11) (.bi .pair txPuo8 txPuo9))
abbrev txPuo18 : E := (.bi .pair (.fn 3 txPuo14) (.bi .pair txPuo13 txPuo16))
abbrev zPuo4 : E := (.bi .sub (.var 5) (.var 4))
def takeDO : LSpec := { n := 48, next := 2, pat := [(0, .ptr 1 1), (1, .sslice 3 (.var 3) (.var 4) (.var 5) true)], rows := [(1, .cells 83 0 false false [.ptr 1 0, vu32Puo (.var 0) 0, vu32Puo (.var 0) 1, vu32Puo (.var 0) 2, vu32Puo (.var 0) 3, vu32Puo (.var 0) 4, vu32Puo (.var 0) 5, vu32Puo (.var 0) 6, vu32Puo (.var 0) 7, vu8Puo (.var 1) 0, vu8Puo (.var 1) 1, vu8Puo (.var 1) 2, vu8Puo (.var 1) 3, vu8Puo (.var 1) 4, vu8Puo (.var 1) 5, vu8Puo (.var 1) 6, vu8Puo (.var 1) 7, vu8Puo (.var 1) 8, vu8Puo (.var 1) 9, vu8Puo (.var 1) 10, vu8Puo (.var 1) 11, vu8Puo (.var 1) 12, vu8Puo (.var 1) 13, vu8Puo (.var 1) 14, vu8Puo (.var 1) 15, vu8Puo (.var 1) 16, vu8Puo (.var 1) 17, vu8Puo (.var 1) 18, vu8Puo (.var 1) 19, vu8Puo (.var 1) 20, vu8Puo (.var 1) 21, vu8Puo (.var 1) 22, vu8Puo (.var 1) 23, vu8Puo (.var 1) 24, vu8Puo (.var 1) 25, vu8Puo (.var 1) 26, vu8Puo (.var 1) 27, vu8Puo (.var 1) 28, vu8Puo (.var 1) 29, vu8Puo (.var 1) 30, vu8Puo (.var 1) 31, vu8Puo (.var 1) 32, vu8Puo (.var 1) 33, vu8Puo (.var 1) 34, vu8Puo (.var 1) 35, vu8Puo (.var 1) 36, vu8Puo (.var 1) 37, vu8Puo (.var 1) 38, vu8Puo (.var 1) 39, vu8Puo (.var 1) 40, vu8Puo (.var 1) 41, vu8Puo (.var 1) 42, vu8Puo (.var 1) 43, vu8Puo (.var 1) 44, vu8Puo (.var 1) 45, vu8Puo (.var 1) 46, vu8Puo (.var 1) 47, vu8Puo (.var 1) 48, vu8Puo (.var 1) 49, vu8Puo (.var 1) 50, vu8Puo (.var 1) 51, vu8Puo (.var 1) 52, vu8Puo (.var 1) 53, vu8Puo (.var 1) 54, vu8Puo (.var 1) 55, vu8Puo (.var 1) 56, vu8Puo (.var 1) 57, vu8Puo (.var 1) 58, vu8Puo (.var 1) 59, vu8Puo (.var 1) 60, vu8Puo (.var 1) 61, vu8Puo (.var 1) 62, vu8Puo (.var 1) 63, .sint .i64 (.var 2)]), (3, .eseq ⟨.u8, .var 6, .var 7⟩), (0, .ext cellsG)], pre := [(.le (.int 0) (.var 2), true), (.le zPuo0 (.int 4611686018427387904), true), (.eq (.un .len (.var 1)) (.int 64), true), (.le zPuo2 (.var 6), true)], x := 0, fin := [], frows := [(1, .cells 83 0 false false [.ptr 1 0, vu32Puo txPuo3 0, vu32Puo txPuo3 1, vu32Puo txPuo3 2, vu32Puo txPuo3 3, vu32Puo txPuo3 4, vu32Puo txPuo3 5, vu32Puo txPuo3 6, vu32Puo txPuo3 7, vu8Puo txPuo4 0, vu8Puo txPuo4 1, vu8Puo txPuo4 2, vu8Puo txPuo4 3, vu8Puo txPuo4 4, vu8Puo txPuo4 5, vu8Puo txPuo4 6, vu8Puo txPuo4 7, vu8Puo txPuo4 8, vu8Puo txPuo4 9, vu8Puo txPuo4 10, vu8Puo txPuo4 11, vu8Puo txPuo4 12, vu8Puo txPuo4 13, vu8Puo txPuo4 14, vu8Puo txPuo4 15, vu8Puo txPuo4 16, vu8Puo txPuo4 17, vu8Puo txPuo4 18, vu8Puo txPuo4 19, vu8Puo txPuo4 20, vu8Puo txPuo4 21, vu8Puo txPuo4 22, vu8Puo txPuo4 23, vu8Puo txPuo4 24, vu8Puo txPuo4 25, vu8Puo txPuo4 26, vu8Puo txPuo4 27, vu8Puo txPuo4 28, vu8Puo txPuo4 29, vu8Puo txPuo4 30, vu8Puo txPuo4 31, vu8Puo txPuo4 32, vu8Puo txPuo4 33, vu8Puo txPuo4 34, vu8Puo txPuo4 35, vu8Puo txPuo4 36, vu8Puo txPuo4 37, vu8Puo txPuo4 38, vu8Puo txPuo4 39, vu8Puo txPuo4 40, vu8Puo txPuo4 41, vu8Puo txPuo4 42, vu8Puo txPuo4 43, vu8Puo txPuo4 44, vu8Puo txPuo4 45, vu8Puo txPuo4 46, vu8Puo txPuo4 47, vu8Puo txPuo4 48, vu8Puo txPuo4 49, vu8Puo txPuo4 50, vu8Puo txPuo4 51, vu8Puo txPuo4 52, vu8Puo txPuo4 53, vu8Puo txPuo4 54, vu8Puo txPuo4 55, vu8Puo txPuo4 56, vu8Puo txPuo4 57, vu8Puo txPuo4 58, vu8Puo txPuo4 59, vu8Puo txPuo4 60, vu8Puo txPuo4 61, vu8Puo txPuo4 62, vu8Puo txPuo4 63, .sint .i64 zPuo0])], same := [1], chg := [0, 1, 4, 5, 6, 7, 8, 9, 10, 11, 12, 13, 14, 15, 16, 17, 18, 19, 20, 21, 22, 23, 24, 25, 26, 27, 28, 29, 30, 31, 32, 33, 34, 35, 36, 37, 38, 39, 40, 41, 42, 43, 44, 45, 46, 47] }
abbrev asPuo0 : Q × Bool := ((.fit .i64 (.var 4)), true)
abbrev asPuo1 : Q × Bool := ((.le (.var 4) (.int 0)), true)
def takeDO_t0 : List (Q × Bool) := [asPuo0, asPuo1]
def takeDO_d0 : List Duty := [dqPuo (.var 0) (.fn 4 txPuo10) 0, dqPuo (.var 0) (.fn 4 txPuo10) 1, dqPuo (.var 0) (.fn 4 txPuo10) 2, dqPuo (.var 0) (.fn 4 txPuo10) 3, dqPuo (.var 0) (.fn 4 txPuo10) 4, dqPuo (.var 0) (.fn 4 txPuo10) 5, dqPuo (.var 0) (.fn 4 txPuo10) 6, dqPuo (.var 0) (.fn 4 txPuo10) 7, dqPuo (.var 1) (.fn 5 txPuo10) 0, dqPuo (.var 1) (.fn 5 txPuo10) 1, dqPuo (.var 1) (.fn 5 txPuo10) 2, dqPuo (.var 1) (.fn 5 txPuo10) 3, dqPuo (.var 1) (.fn 5 txPuo10) 4, dqPuo (.var 1) (.fn 5 txPuo10) 5, dqPuo (.var 1) (.fn 5 txPuo10) 6, dqPuo (.var 1) (.fn 5 txPuo10) 7, dqPuo (.var 1) (.fn 5 txPuo10) 8, dqPuo (.var 1) (.fn 5 txPuo10) 9, dqPuo (.var 1) (.fn 5 txPuo10) 10, dqPuo (.var 1) (.fn 5 txPuo10) 11, dqPuo (.var 1) (.fn 5 txPuo10) 12, dqPuo (.var 1) (.fn 5 txPuo10) 13, dqPuo (.var 1) (.fn 5 txPuo10) 14, dqPuo (.var 1) (.fn 5 txPuo10) 15, dqPuo (.var 1) (.fn 5 txPuo10) 16, dqPuo (.var 1) (.fn 5 txPuo10) 17, dqPuo (.var 1) (.fn 5 txPuo10) 18, dqPuo (.var 1) (.fn 5 txPuo10) 19, dqPuo (.var 1) (.fn 5 txPuo10) 20, dqPuo (.var 1) (.fn 5 txPuo10) 21, dqPuo (.var 1) (.fn 5 txPuo10) 22, dqPuo (.var 1) (.fn 5 txPuo10) 23, dqPuo (.var 1) (.fn 5 txPuo10) 24, dqPuo (.var 1) (.fn 5 txPuo10) 25, dqPuo (.var 1) (.fn 5 txPuo10) 26, dqPuo (.var 1) (.fn 5 txPuo10) 27, dqPuo (.var 1) (.fn 5 txPuo10) 28, dqPuo (.var 1) (.fn 5 txPuo10) 29, dqPuo (.var 1) (.fn 5 txPuo10) 30, dqPuo (.var 1) (.fn 5 txPuo10) 31, dqPuo (.var 1) (.fn 5 txPuo10) 32, dqPuo (.var 1) (.fn 5 txPuo10) 33, dqPuo (.var 1) (.fn 5 txPuo10) 34, dqPuo (.var 1) (.fn 5 txPuo10) 35, dqPuo (.var 1) (.fn 5 txPuo10) 36, dqPuo (.var 1) (.fn 5 txPuo10) 37, dqPuo (.var 1) (.fn 5 txPuo10) 38, dqPuo (.var 1) (.fn 5 txPuo10) 39, dqPuo (.var 1) (.fn 5 txPuo10) 40, dqPuo (.var 1) (.fn 5 txPuo10) 41, dqPuo (.var 1) (.fn 5 txPuo10) 42, dqPuo (.var 1) (.fn 5 txPuo10) 43, dqPuo (.var 1) (.fn 5 txPuo10) 44, dqPuo (.var 1) (.fn 5 txPuo10) 45, dqPuo (.var 1) (.fn 5 txPuo10) 46, dqPuo (.var 1) (.fn 5 txPuo10) 47, dqPuo (.var 1) (.fn 5 txPuo10) 48, dqPuo (.var 1) (.fn 5 txPuo10) 49, dqPuo (.var 1) (.fn 5 txPuo10) 50, dqPuo (.var 1) (.fn 5 txPuo10) 51, dqPuo (.var 1) (.fn 5 txPuo10) 52, dqPuo (.var 1) (.fn 5 txPuo10) 53, dqPuo (.var 1) (.fn 5 txPuo10) 54, dqPuo (.var 1) (.fn 5 txPuo10) 55, dqPuo (.var 1) (.fn 5 txPuo10) 56, dqPuo (.var 1) (.fn 5 txPuo10) 57, dqPuo (.var 1) (.fn 5 txPuo10) 58, dqPuo (.var 1) (.fn 5 txPuo10) 59, dqPuo (.var 1) (.fn 5 txPuo10) 60, dqPuo (.var 1) (.fn 5 txPuo10) 61, dqPuo (.var 1) (.fn 5 txPuo10) 62, dqPuo (.var 1) (.fn 5 txPuo10) 63, (true, (.var 2), zPuo0)]
noncomputable abbrev ltPuo0 : List LEntry := [⟨46, [4, 1, 0, 1, 1, 1], sprL⟩, ⟨42, [4, 1, 0, 1, 1, 1], mixL⟩, ⟨41, [4, 1, 0, 1, 1, 1], moreL⟩, ⟨41, [4, 1, 0, 1, 1, 1], moreLO⟩]
theorem takeDO_y0 : endD takeDO [(3, 3), (1, 1)] 1000 (roundC Tryd.prog ltPuo0 [(42, mixedC), (43, fillC), (44, bytesC), (45, tableC), (41, moreC), (41, moreCO), (25, putC), (25, putCO)] [] 3000 40 39 [4] (tellA takeDO_t0) takeDO) = some takeDO_d0 := by kernel_rfl
abbrev asPuo2 : Q × Bool := ((.le (.var 4) (.int 0)), false)
abbrev asPuo3 : Q × Bool := ((.le (.int 0) zPuo1), true)
abbrev asPuo4 : Q × Bool := ((.le zPuo1 (.int 64)), true)
abbrev asPuo5 : Q × Bool := ((.le zPuo2 (.var 6)), true)
abbrev asPuo6 : Q × Bool := ((.le (.var 4) txPuo2), true)
abbrev asPuo7 : Q × Bool := ((.le (.bi .add zPuo1 (.var 4)) (.int 64)), true)
abbrev asPuo8 : Q × Bool := ((.le (.int 64) (.un .len (.var 1))), true)
abbrev asPuo9 : Q × Bool := ((.fit .i64 zPuo0), true)
abbrev asPuo10 : Q × Bool := ((.le (.int 0) (.var 4)), true)
abbrev asPuo11 : Q × Bool := ((.le (.var 4) (.var 5)), true)
abbrev asPuo12 : Q × Bool := ((.eq (.bi (.iop .rem .i64) zPuo0 (.int 64)) (.int 0)), false)
def takeDO_t1 : List (Q × Bool) := [asPuo0, asPuo2, asPuo3, asPuo4, asPuo5, asPuo6, asPuo7, asPuo8, asPuo9, asPuo10, asPuo11, asPuo12]
def takeDO_d1 : List Duty := [dqPuo (.fn 4 txPuo15) (.fn 4 txPuo10) 0, dqPuo (.fn 4 txPuo15) (.fn 4 txPuo10) 1, dqPuo (.fn 4 txPuo15) (.fn 4 txPuo10) 2, dqPuo (.fn 4 txPuo15) (.fn 4 txPuo10) 3, dqPuo (.fn 4 txPuo15) (.fn 4 txPuo10) 4, dqPuo (.fn 4 txPuo15) (.fn 4 txPuo10) 5, dqPuo (.fn 4 txPuo15) (.fn 4 txPuo10) 6, dqPuo (.fn 4 txPuo15) (.fn 4 txPuo10) 7, dqPuo (.fn 5 txPuo15) (.fn 5 txPuo10) 0, dqPuo (.fn 5 txPuo15) (.fn 5 txPuo10) 1, dqPuo (.fn 5 txPuo15) (.fn 5 txPuo10) 2, dqPuo (.fn 5 txPuo15) (.fn 5 txPuo10) 3, dqPuo (.fn 5 txPuo15) (.fn 5 txPuo10) 4, dqPuo (.fn 5 txPuo15) (.fn 5 txPuo10) 5, dqPuo (.fn 5 txPuo15) (.fn 5 txPuo10) 6, dqPuo (.fn 5 txPuo15) (.fn 5 txPuo10) 7, dqPuo (.fn 5 txPuo15) (.fn 5 txPuo10) 8, dqPuo (.fn 5 txPuo15) (.fn 5 txPuo10) 9, dqPuo (.fn 5 txPuo15) (.fn 5 txPuo10) 10, dqPuo (.fn 5 txPuo15) (.fn 5 txPuo10) 11, dqPuo (.fn 5 txPuo15) (.fn 5 txPuo10) 12, dqPuo (.fn 5 txPuo15) (.fn 5 txPuo10) 13, dqPuo (.fn 5 txPuo15) (.fn 5 txPuo10) 14, dqPuo (.fn 5 txPuo15) (.fn 5 txPuo10) 15, dqPuo (.fn 5 txPuo15) (.fn 5 txPuo10) 16, dqPuo (.fn 5 txPuo15) (.fn 5 txPuo10) 17, dqPuo (.fn 5 txPuo15) (.fn 5 txPuo10) 18, dqPuo (.fn 5 txPuo15) (.fn 5 txPuo10) 19, dqPuo (.fn 5 txPuo15) (.fn 5 txPuo10) 20, dqPuo (.fn 5 txPuo15) (.fn 5 txPuo10) 21, dqPuo (.fn 5 txPuo15) (.fn 5 txPuo10) 22, dqPuo (.fn 5 txPuo15) (.fn 5 txPuo10) 23, dqPuo (.fn 5 txPuo15) (.fn 5 txPuo10) 24, dqPuo (.fn 5 txPuo15) (.fn 5 txPuo10) 25, dqPuo (.fn 5 txPuo15) (.fn 5 txPuo10) 26, dqPuo (.fn 5 txPuo15) (.fn 5 txPuo10) 27, dqPuo (.fn 5 txPuo15) (.fn 5 txPuo10) 28, dqPuo (.fn 5 txPuo15) (.fn 5 txPuo10) 29, dqPuo (.fn 5 txPuo15) (.fn 5 txPuo10) 30, dqPuo (.fn 5 txPuo15) (.fn 5 txPuo10) 31, dqPuo (.fn 5 txPuo15) (.fn 5 txPuo10) 32, dqPuo (.fn 5 txPuo15) (.fn 5 txPuo10) 33, dqPuo (.fn 5 txPuo15) (.fn 5 txPuo10) 34, dqPuo (.fn 5 txPuo15) (.fn 5 txPuo10) 35, dqPuo (.fn 5 txPuo15) (.fn 5 txPuo10) 36, dqPuo (.fn 5 txPuo15) (.fn 5 txPuo10) 37, dqPuo (.fn 5 txPuo15) (.fn 5 txPuo10) 38, dqPuo (.fn 5 txPuo15) (.fn 5 txPuo10) 39, dqPuo (.fn 5 txPuo15) (.fn 5 txPuo10) 40, dqPuo (.fn 5 txPuo15) (.fn 5 txPuo10) 41, dqPuo (.fn 5 txPuo15) (.fn 5 txPuo10) 42, dqPuo (.fn 5 txPuo15) (.fn 5 txPuo10) 43, dqPuo (.fn 5 txPuo15) (.fn 5 txPuo10) 44, dqPuo (.fn 5 txPuo15) (.fn 5 txPuo10) 45, dqPuo (.fn 5 txPuo15) (.fn 5 txPuo10) 46, dqPuo (.fn 5 txPuo15) (.fn 5 txPuo10) 47, dqPuo (.fn 5 txPuo15) (.fn 5 txPuo10) 48, dqPuo (.fn 5 txPuo15) (.fn 5 txPuo10) 49, dqPuo (.fn 5 txPuo15) (.fn 5 txPuo10) 50, dqPuo (.fn 5 txPuo15) (.fn 5 txPuo10) 51, dqPuo (.fn 5 txPuo15) (.fn 5 txPuo10) 52, dqPuo (.fn 5 txPuo15) (.fn 5 txPuo10) 53, dqPuo (.fn 5 txPuo15) (.fn 5 txPuo10) 54, dqPuo (.fn 5 txPuo15) (.fn 5 txPuo10) 55, dqPuo (.fn 5 txPuo15) (.fn 5 txPuo10) 56, dqPuo (.fn 5 txPuo15) (.fn 5 txPuo10) 57, dqPuo (.fn 5 txPuo15) (.fn 5 txPuo10) 58, dqPuo (.fn 5 txPuo15) (.fn 5 txPuo10) 59, dqPuo (.fn 5 txPuo15) (.fn 5 txPuo10) 60, dqPuo (.fn 5 txPuo15) (.fn 5 txPuo10) 61, dqPuo (.fn 5 txPuo15) (.fn 5 txPuo10) 62, dqPuo (.fn 5 txPuo15) (.fn 5 txPuo10) 63, (true, (.bi .add zPuo0 (.int 0)), zPuo0)]
def takeDO_h1 : List (Nat × E) := [(6, (.var 6)), (7, (.var 7)), (2, zPuo0), (1, txPuo8), (0, (.var 0)), (3, zPuo2), (4, (.int 0)), (5, zPuo4)]
theorem takeDO_h1_a : lookE takeDO_h1 0 = (.var 0) ∧ lookE takeDO_h1 1 = txPuo8 ∧ lookE takeDO_h1 2 = zPuo0 ∧ lookE takeDO_h1 3 = zPuo2 ∧ lookE takeDO_h1 4 = (.int 0) ∧ lookE takeDO_h1 5 = zPuo4 ∧ lookE takeDO_h1 6 = (.var 6) ∧ lookE takeDO_h1 7 = (.var 7) := ⟨rfl, rfl, rfl, rfl, rfl, rfl, rfl, rfl⟩
noncomputable abbrev ltPuo1 : List (FuncId × CSpec) := [(42, mixedC), (43, fillC), (44, bytesC), (45, tableC), (41, moreC), (41, moreCO), (25, putC), (25, putCO)]
theorem takeDO_y1 : nextD takeDO takeDO_h1 [(3, 3), (1, 1)] (roundC Tryd.prog ltPuo0 ltPuo1 [] 3000 40 39 [4] (tellA takeDO_t1) takeDO) = some takeDO_d1 := by kernel_rfl
abbrev asPuo13 : Q × Bool := ((.eq (.bi (.iop .rem .i64) zPuo0 (.int 64)) (.int 0)), true)
def takeDO_t2 : List (Q × Bool) := [asPuo0, asPuo2, asPuo3, asPuo4, asPuo5, asPuo6, asPuo7, asPuo8, asPuo9, asPuo10, asPuo11, asPuo13]
def takeDO_d2 : List Duty := [dqPuo (.fn 4 txPuo17) (.fn 4 txPuo10) 0, dqPuo (.fn 4 txPuo17) (.fn 4 txPuo10) 1, dqPuo (.fn 4 txPuo17) (.fn 4 txPuo10) 2, dqPuo (.fn 4 txPuo17) (.fn 4 txPuo10) 3, dqPuo (.fn 4 txPuo17) (.fn 4 txPuo10) 4, dqPuo (.fn 4 txPuo17) (.fn 4 txPuo10) 5, dqPuo (.fn 4 txPuo17) (.fn 4 txPuo10) 6, dqPuo (.fn 4 txPuo17) (.fn 4 txPuo10) 7, dqPuo (.fn 5 txPuo17) (.fn 5 txPuo10) 0, dqPuo (.fn 5 txPuo17) (.fn 5 txPuo10) 1, dqPuo (.fn 5 txPuo17) (.fn 5 txPuo10) 2, dqPuo (.fn 5 txPuo17) (.fn 5 txPuo10) 3, dqPuo (.fn 5 txPuo17) (.fn 5 txPuo10) 4, dqPuo (.fn 5 txPuo17) (.fn 5 txPuo10) 5, dqPuo (.fn 5 txPuo17) (.fn 5 txPuo10) 6, dqPuo (.fn 5 txPuo17) (.fn 5 txPuo10) 7, dqPuo (.fn 5 txPuo17) (.fn 5 txPuo10) 8, dqPuo (.fn 5 txPuo17) (.fn 5 txPuo10) 9, dqPuo (.fn 5 txPuo17) (.fn 5 txPuo10) 10, dqPuo (.fn 5 txPuo17) (.fn 5 txPuo10) 11, dqPuo (.fn 5 txPuo17) (.fn 5 txPuo10) 12, dqPuo (.fn 5 txPuo17) (.fn 5 txPuo10) 13, dqPuo (.fn 5 txPuo17) (.fn 5 txPuo10) 14, dqPuo (.fn 5 txPuo17) (.fn 5 txPuo10) 15, dqPuo (.fn 5 txPuo17) (.fn 5 txPuo10) 16, dqPuo (.fn 5 txPuo17) (.fn 5 txPuo10) 17, dqPuo (.fn 5 txPuo17) (.fn 5 txPuo10) 18, dqPuo (.fn 5 txPuo17) (.fn 5 txPuo10) 19, dqPuo (.fn 5 txPuo17) (.fn 5 txPuo10) 20, dqPuo (.fn 5 txPuo17) (.fn 5 txPuo10) 21, dqPuo (.fn 5 txPuo17) (.fn 5 txPuo10) 22, dqPuo (.fn 5 txPuo17) (.fn 5 txPuo10) 23, dqPuo (.fn 5 txPuo17) (.fn 5 txPuo10) 24, dqPuo (.fn 5 txPuo17) (.fn 5 txPuo10) 25, dqPuo (.fn 5 txPuo17) (.fn 5 txPuo10) 26, dqPuo (.fn 5 txPuo17) (.fn 5 txPuo10) 27, dqPuo (.fn 5 txPuo17) (.fn 5 txPuo10) 28, dqPuo (.fn 5 txPuo17) (.fn 5 txPuo10) 29, dqPuo (.fn 5 txPuo17) (.fn 5 txPuo10) 30, dqPuo (.fn 5 txPuo17) (.fn 5 txPuo10) 31, dqPuo (.fn 5 txPuo17) (.fn 5 txPuo10) 32, dqPuo (.fn 5 txPuo17) (.fn 5 txPuo10) 33, dqPuo (.fn 5 txPuo17) (.fn 5 txPuo10) 34, dqPuo (.fn 5 txPuo17) (.fn 5 txPuo10) 35, dqPuo (.fn 5 txPuo17) (.fn 5 txPuo10) 36, dqPuo (.fn 5 txPuo17) (.fn 5 txPuo10) 37, dqPuo (.fn 5 txPuo17) (.fn 5 txPuo10) 38, dqPuo (.fn 5 txPuo17) (.fn 5 txPuo10) 39, dqPuo (.fn 5 txPuo17) (.fn 5 txPuo10) 40, dqPuo (.fn 5 txPuo17) (.fn 5 txPuo10) 41, dqPuo (.fn 5 txPuo17) (.fn 5 txPuo10) 42, dqPuo (.fn 5 txPuo17) (.fn 5 txPuo10) 43, dqPuo (.fn 5 txPuo17) (.fn 5 txPuo10) 44, dqPuo (.fn 5 txPuo17) (.fn 5 txPuo10) 45, dqPuo (.fn 5 txPuo17) (.fn 5 txPuo10) 46, dqPuo (.fn 5 txPuo17) (.fn 5 txPuo10) 47, dqPuo (.fn 5 txPuo17) (.fn 5 txPuo10) 48, dqPuo (.fn 5 txPuo17) (.fn 5 txPuo10) 49, dqPuo (.fn 5 txPuo17) (.fn 5 txPuo10) 50, dqPuo (.fn 5 txPuo17) (.fn 5 txPuo10) 51, dqPuo (.fn 5 txPuo17) (.fn 5 txPuo10) 52, dqPuo (.fn 5 txPuo17) (.fn 5 txPuo10) 53, dqPuo (.fn 5 txPuo17) (.fn 5 txPuo10) 54, dqPuo (.fn 5 txPuo17) (.fn 5 txPuo10) 55, dqPuo (.fn 5 txPuo17) (.fn 5 txPuo10) 56, dqPuo (.fn 5 txPuo17) (.fn 5 txPuo10) 57, dqPuo (.fn 5 txPuo17) (.fn 5 txPuo10) 58, dqPuo (.fn 5 txPuo17) (.fn 5 txPuo10) 59, dqPuo (.fn 5 txPuo17) (.fn 5 txPuo10) 60, dqPuo (.fn 5 txPuo17) (.fn 5 txPuo10) 61, dqPuo (.fn 5 txPuo17) (.fn 5 txPuo10) 62, dqPuo (.fn 5 txPuo17) (.fn 5 txPuo10) 63, (true, (.bi .add zPuo0 (.int 0)), zPuo0)]
def takeDO_h2 : List (Nat × E) := [(6, (.var 6)), (7, (.var 7)), (2, zPuo0), (1, txPuo8), (0, (.fn 3 txPuo11)), (3, zPuo2), (4, (.int 0)), (5, zPuo4)]
theorem takeDO_h2_a : lookE takeDO_h2 0 = (.fn 3 txPuo11) ∧ lookE takeDO_h2 1 = txPuo8 ∧ lookE takeDO_h2 2 = zPuo0 ∧ lookE takeDO_h2 3 = zPuo2 ∧ lookE takeDO_h2 4 = (.int 0) ∧ lookE takeDO_h2 5 = zPuo4 ∧ lookE takeDO_h2 6 = (.var 6) ∧ lookE takeDO_h2 7 = (.var 7) := ⟨rfl, rfl, rfl, rfl, rfl, rfl, rfl, rfl⟩
theorem takeDO_y2 : nextD takeDO takeDO_h2 [(3, 3), (1, 1)] (roundC Tryd.prog ltPuo0 ltPuo1 [] 3000 40 39 [4] (tellA takeDO_t2) takeDO) = some takeDO_d2 := by kernel_rfl
abbrev asPuo14 : Q × Bool := ((.le (.var 4) txPuo2), false)
abbrev asPuo15 : Q × Bool := ((.fit .i64 txPuo2), true)
abbrev asPuo16 : Q × Bool := ((.le (.bi .add zPuo1 txPuo2) (.int 64)), true)
abbrev asPuo17 : Q × Bool := ((.fit .i64 zPuo3), true)
abbrev asPuo18 : Q × Bool := ((.le (.int 0) txPuo2), true)
abbrev asPuo19 : Q × Bool := ((.le txPuo2 (.var 4)), true)
abbrev asPuo20 : Q × Bool := ((.eq (.bi (.iop .rem .i64) zPuo3 (.int 64)) (.int 0)), true)
def takeDO_t3 : List (Q × Bool) := [asPuo0, asPuo2, asPuo3, asPuo4, asPuo5, asPuo14, asPuo15, asPuo16, asPuo8, asPuo17, asPuo18, asPuo19, asPuo11, asPuo20]
def takeDO_d3 : List Duty := [dqPuo (.fn 4 txPuo18) (.fn 4 txPuo10) 0, dqPuo (.fn 4 txPuo18) (.fn 4 txPuo10) 1, dqPuo (.fn 4 txPuo18) (.fn 4 txPuo10) 2, dqPuo (.fn 4 txPuo18) (.fn 4 txPuo10) 3, dqPuo (.fn 4 txPuo18) (.fn 4 txPuo10) 4, dqPuo (.fn 4 txPuo18) (.fn 4 txPuo10) 5, dqPuo (.fn 4 txPuo18) (.fn 4 txPuo10) 6, dqPuo (.fn 4 txPuo18) (.fn 4 txPuo10) 7, dqPuo (.fn 5 txPuo18) (.fn 5 txPuo10) 0, dqPuo (.fn 5 txPuo18) (.fn 5 txPuo10) 1, dqPuo (.fn 5 txPuo18) (.fn 5 txPuo10) 2, dqPuo (.fn 5 txPuo18) (.fn 5 txPuo10) 3, dqPuo (.fn 5 txPuo18) (.fn 5 txPuo10) 4, dqPuo (.fn 5 txPuo18) (.fn 5 txPuo10) 5, dqPuo (.fn 5 txPuo18) (.fn 5 txPuo10) 6, dqPuo (.fn 5 txPuo18) (.fn 5 txPuo10) 7, dqPuo (.fn 5 txPuo18) (.fn 5 txPuo10) 8, dqPuo (.fn 5 txPuo18) (.fn 5 txPuo10) 9, dqPuo (.fn 5 txPuo18) (.fn 5 txPuo10) 10, dqPuo (.fn 5 txPuo18) (.fn 5 txPuo10) 11, dqPuo (.fn 5 txPuo18) (.fn 5 txPuo10) 12, dqPuo (.fn 5 txPuo18) (.fn 5 txPuo10) 13, dqPuo (.fn 5 txPuo18) (.fn 5 txPuo10) 14, dqPuo (.fn 5 txPuo18) (.fn 5 txPuo10) 15, dqPuo (.fn 5 txPuo18) (.fn 5 txPuo10) 16, dqPuo (.fn 5 txPuo18) (.fn 5 txPuo10) 17, dqPuo (.fn 5 txPuo18) (.fn 5 txPuo10) 18, dqPuo (.fn 5 txPuo18) (.fn 5 txPuo10) 19, dqPuo (.fn 5 txPuo18) (.fn 5 txPuo10) 20, dqPuo (.fn 5 txPuo18) (.fn 5 txPuo10) 21, dqPuo (.fn 5 txPuo18) (.fn 5 txPuo10) 22, dqPuo (.fn 5 txPuo18) (.fn 5 txPuo10) 23, dqPuo (.fn 5 txPuo18) (.fn 5 txPuo10) 24, dqPuo (.fn 5 txPuo18) (.fn 5 txPuo10) 25, dqPuo (.fn 5 txPuo18) (.fn 5 txPuo10) 26, dqPuo (.fn 5 txPuo18) (.fn 5 txPuo10) 27, dqPuo (.fn 5 txPuo18) (.fn 5 txPuo10) 28, dqPuo (.fn 5 txPuo18) (.fn 5 txPuo10) 29, dqPuo (.fn 5 txPuo18) (.fn 5 txPuo10) 30, dqPuo (.fn 5 txPuo18) (.fn 5 txPuo10) 31, dqPuo (.fn 5 txPuo18) (.fn 5 txPuo10) 32, dqPuo (.fn 5 txPuo18) (.fn 5 txPuo10) 33, dqPuo (.fn 5 txPuo18) (.fn 5 txPuo10) 34, dqPuo (.fn 5 txPuo18) (.fn 5 txPuo10) 35, dqPuo (.fn 5 txPuo18) (.fn 5 txPuo10) 36, dqPuo (.fn 5 txPuo18) (.fn 5 txPuo10) 37, dqPuo (.fn 5 txPuo18) (.fn 5 txPuo10) 38, dqPuo (.fn 5 txPuo18) (.fn 5 txPuo10) 39, dqPuo (.fn 5 txPuo18) (.fn 5 txPuo10) 40, dqPuo (.fn 5 txPuo18) (.fn 5 txPuo10) 41, dqPuo (.fn 5 txPuo18) (.fn 5 txPuo10) 42, dqPuo (.fn 5 txPuo18) (.fn 5 txPuo10) 43, dqPuo (.fn 5 txPuo18) (.fn 5 txPuo10) 44, dqPuo (.fn 5 txPuo18) (.fn 5 txPuo10) 45, dqPuo (.fn 5 txPuo18) (.fn 5 txPuo10) 46, dqPuo (.fn 5 txPuo18) (.fn 5 txPuo10) 47, dqPuo (.fn 5 txPuo18) (.fn 5 txPuo10) 48, dqPuo (.fn 5 txPuo18) (.fn 5 txPuo10) 49, dqPuo (.fn 5 txPuo18) (.fn 5 txPuo10) 50, dqPuo (.fn 5 txPuo18) (.fn 5 txPuo10) 51, dqPuo (.fn 5 txPuo18) (.fn 5 txPuo10) 52, dqPuo (.fn 5 txPuo18) (.fn 5 txPuo10) 53, dqPuo (.fn 5 txPuo18) (.fn 5 txPuo10) 54, dqPuo (.fn 5 txPuo18) (.fn 5 txPuo10) 55, dqPuo (.fn 5 txPuo18) (.fn 5 txPuo10) 56, dqPuo (.fn 5 txPuo18) (.fn 5 txPuo10) 57, dqPuo (.fn 5 txPuo18) (.fn 5 txPuo10) 58, dqPuo (.fn 5 txPuo18) (.fn 5 txPuo10) 59, dqPuo (.fn 5 txPuo18) (.fn 5 txPuo10) 60, dqPuo (.fn 5 txPuo18) (.fn 5 txPuo10) 61, dqPuo (.fn 5 txPuo18) (.fn 5 txPuo10) 62, dqPuo (.fn 5 txPuo18) (.fn 5 txPuo10) 63, (true, (.bi .add zPuo3 zPuo5), zPuo0)]
def takeDO_h3 : List (Nat × E) := [(6, (.var 6)), (7, (.var 7)), (2, zPuo3), (1, txPuo13), (0, (.fn 3 txPuo14)), (3, zPuo6), (4, zPuo5), (5, (.bi .sub (.var 5) txPuo2))]
theorem takeDO_h3_a : lookE takeDO_h3 0 = (.fn 3 txPuo14) ∧ lookE takeDO_h3 1 = txPuo13 ∧ lookE takeDO_h3 2 = zPuo3 ∧ lookE takeDO_h3 3 = zPuo6 ∧ lookE takeDO_h3 4 = zPuo5 ∧ lookE takeDO_h3 5 = (.bi .sub (.var 5) txPuo2) ∧ lookE takeDO_h3 6 = (.var 6) ∧ lookE takeDO_h3 7 = (.var 7) := ⟨rfl, rfl, rfl, rfl, rfl, rfl, rfl, rfl⟩
theorem takeDO_y3 : nextD takeDO takeDO_h3 [(3, 3), (1, 1)] (roundC Tryd.prog ltPuo0 ltPuo1 [] 3000 40 39 [4] (tellA takeDO_t3) takeDO) = some takeDO_d3 := by kernel_rfl
theorem takeDO_holds : LHolds Tryd.prog (loopAt Tryd.prog 39 [4]) takeDO F := by
 refine loop_roundsC sound (tableCons sprL_holds (tableCons mixL_holds (tableCons moreL_holds (tableCons moreLO_holds (tableNil _ _))))) (specsCons mixedC_holds (specsCons fillC_holds (specsCons bytesC_holds (specsCons tableC_holds (specsCons moreC_holds (specsCons moreCO_holds (specsCons putC_holds (specsCons putCO_holds (specsNil _ _))))))))) (oversNil _ _) (fuel := 3000) (depth := 40) (by kernel_rfl) (by kernel_rfl) (by kernel_rfl) (fun d => (d 4).toInt.toNat) fun d hp hR hA => ?_
 have hp := allTold'_iff.2 hp
 simp only [takeDO, tl] at hp hR hA
 have hl : ((prt (d 7).ints (d 3).toInt ((d 3).toInt + (d 4).toInt)).length : Int) = (d 4).toInt := by rw [prt_length (by omega) (by omega) (by omega)]; omega
 have hm := emod_in (x := (d 2).toInt) (n := 64) (by omega)
 by_cases h : (d 4).toInt ≤ 0
 ·refine ⟨tellA takeDO_t0, tellA_ok (allTold'_iff.1 ?_), .inl ⟨_, _, _, takeDO_y0, dutiesTold_ok ?_⟩⟩
  ·simp only [takeDO_t0, tl]
   omega
  ·simp only [takeDO_d0, F4, F5, tl]
   rw [take_nil (by omega)]
   and_intros <;> first | rfl | omega
 ·have hz : iopI .rem .i64 (d 2).toInt 64 = (d 2).toInt % 64 := rem_emod .i64 (by omega)
  by_cases h2 : (d 4).toInt ≤ 64 - (d 2).toInt % 64
  ·have hz2 : iopI .rem .i64 ((d 2).toInt + (d 4).toInt) 64 = ((d 2).toInt + (d 4).toInt) % 64 := rem_emod .i64 (by omega)
   have e := fun b' hb => take_one (S := (d 0).ints) (B := (d 1).ints) (X := (d 7).ints) (z := (d 2).toInt) (o := (d 3).toInt) (l := (d 4).toInt) (n := (d 4).toInt) (b' := b') (by omega) hl (by omega) (by rw [if_pos h2]) hb
   by_cases h3 : ((d 2).toInt + (d 4).toInt) % 64 = 0
   ·refine ⟨tellA takeDO_t2, tellA_ok (allTold'_iff.1 ?_), .inr ⟨takeDO_h2, _, _, takeDO_y2, dutiesTold_ok ?_, allTold'_iff.1 ?_, ?_⟩⟩
    ·simp only [takeDO_t2, hz, hz2, tl]
     omega
    ·simp only [takeDO_d2, F3, F4, F5, hz, tl]
     generalize hB : D.ints (D.list _) = B'
     have e := e B' (by
      rw [← hB]
      rw [splice_prt (n := (d 4).toInt.toNat) (by omega), List.take_of_length_le (l := prt (d 7).ints (d 3).toInt ((d 3).toInt + (d 4).toInt)) (by omega)])
     rw [if_pos h3, show (d 4).toInt - (d 4).toInt = 0 by omega] at e
     unfold mix3 at e
     rw [e]
     and_intros <;> first | rfl | omega
    ·simp only [takeDO, takeDO_h2_a, hz, tl]
     simp only [List.length_append, List.length_take, List.length_drop, len_ints]
     omega
    ·simp only [takeDO_h2_a, tl]
     omega
   ·refine ⟨tellA takeDO_t1, tellA_ok (allTold'_iff.1 ?_), .inr ⟨takeDO_h1, _, _, takeDO_y1, dutiesTold_ok ?_, allTold'_iff.1 ?_, ?_⟩⟩
    ·simp only [takeDO_t1, hz, hz2, tl]
     omega
    ·simp only [takeDO_d1, F4, F5, hz, tl]
     generalize hB : D.ints (D.list _) = B'
     have e := e B' (by
      rw [← hB]
      rw [splice_prt (n := (d 4).toInt.toNat) (by omega), List.take_of_length_le (l := prt (d 7).ints (d 3).toInt ((d 3).toInt + (d 4).toInt)) (by omega)])
     rw [if_neg h3, show (d 4).toInt - (d 4).toInt = 0 by omega] at e
     rw [e]
     and_intros <;> first | rfl | omega
    ·simp only [takeDO, takeDO_h1_a, hz, tl]
     simp only [List.length_append, List.length_take, List.length_drop, len_ints]
     omega
    ·simp only [takeDO_h1_a, tl]
     omega
  ·have hz2 : iopI .rem .i64 ((d 2).toInt + (64 - (d 2).toInt % 64)) 64 = ((d 2).toInt + (64 - (d 2).toInt % 64)) % 64 := rem_emod .i64 (by omega)
   have h3 : ((d 2).toInt + (64 - (d 2).toInt % 64)) % 64 = 0 := by omega
   have e := fun b' hb => take_one (S := (d 0).ints) (B := (d 1).ints) (X := (d 7).ints) (z := (d 2).toInt) (o := (d 3).toInt) (l := (d 4).toInt) (n := 64 - (d 2).toInt % 64) (b' := b') (by omega) hl (by omega) (by rw [if_neg h2]) hb
   refine ⟨tellA takeDO_t3, tellA_ok (allTold'_iff.1 ?_), .inr ⟨takeDO_h3, _, _, takeDO_y3, dutiesTold_ok ?_, allTold'_iff.1 ?_, ?_⟩⟩
   ·simp only [takeDO_t3, hz, hz2, tl]
    omega
   ·simp only [takeDO_d3, F3, F4, F5, hz, tl]
    generalize hB : D.ints (D.list _) = B'
    have e := e B' (by
     rw [← hB]
     exact splice_prt2 (m := (64 - (d 2).toInt % 64).toNat) (by simp; omega))
    rw [if_pos h3] at e
    unfold mix3 at e
    rw [e]
    and_intros <;> first | rfl | omega
   ·simp only [takeDO, takeDO_h3_a, hz, tl]
    simp only [List.length_append, List.length_take, List.length_drop, len_ints]
    omega
   ·simp only [takeDO_h3_a, hz, tl]
    omega

end Go.Proofs.YtidpndnehbhloaaDoor.Puo
