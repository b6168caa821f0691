/-
 Contracts of this seat: what loops and calls leave, for all inputs. No condition.
-/
import Derived.Test.YtceealenelhaiaaSycp
import Derived.Test.YtceealenelhaiaaSyfm
import Derived.Test.YtceealenelhaiaaCo
import Derived.Test.YtceealenelhaiaaGa
set_option linter.unusedSimpArgs false
set_option linter.unusedVariables false
namespace Go.Proofs.Ytceealenelhaiaa.Ha
open Go.RowKit Go.Ev Go.Proofs.Ytceealenelhaiaa.Co

open Go.Proofs.Ytceealenelhaiaa.Ga

abbrev vu8Ha (a : E) (j : Int) : AV := .sint .u8 (.bi .sel a (.int j))
abbrev zHa16 : E := (.bi .add (.var 3) (.var 0))
abbrev txHa0 : E := (.bi .add zHa16 (.int 1))
abbrev zHa11 : E := (.bi .add (.var 3) (.var 4))
abbrev txHa1 : E := (.bi .add zHa11 (.int 1))
abbrev zHa3 : E := (.bi .add (.var 0) (.int 1))
abbrev txHa2 : E := (.bi .add (.var 3) zHa3)
abbrev txHa3 : E := (.bi .sel (.var 2) zHa16)
abbrev zHa12 : E := (.bi .add (.var 1) (.int 1))
abbrev txHa4 : E := (.bi .pair zHa12 (.int 0))
abbrev txHa5 : E := (.bi .pair (.var 1) (.bi .pair (.var 10) (.int 0)))
abbrev txHa6 : E := (.bi .pair (.int 0) (.bi .pair (.lits []) (.int 0)))
abbrev zHa54 : E := (.bi (.iop .rem .i64) (.var 8) (.int 16))
abbrev txHa7 : E := (.bi .sel (.var 7) zHa54)
abbrev txHa8 : E := (.bi .pair zHa16 (.bi .pair (.int 0) (.int 0)))
abbrev txHa9 : E := (.bi .pair zHa16 (.bi .pair (.var 1) (.int 0)))
abbrev txHa10 : E := (.bi .pair (.int 0) (.bi .pair txHa0 (.int 0)))
abbrev txHa11 : E := (.bi .pair (.int 0) (.bi .pair txHa1 (.int 0)))
abbrev txHa12 : E := (.bi .pair txHa2 (.bi .pair (.int 1) (.int 0)))
abbrev txHa13 : E := (.bi .pair txHa2 (.bi .pair (.int 0) (.int 0)))
abbrev txHa14 : E := (.bi .pair zHa16 txHa5)
abbrev txHa15 : E := (.bi .pair zHa16 txHa6)
abbrev zHa14 : E := (.bi .app (.un .one txHa3) (.lits []))
abbrev txHa16 : E := (.bi .pair zHa14 (.int 0))
abbrev txHa17 : E := (.bi .app (.var 10) zHa14)
abbrev txHa18 : E := (.tr .upd (.var 7) zHa54 txHa3)
abbrev txHa19 : E := (.bi .pair zHa11 txHa8)
abbrev txHa20 : E := (.bi .pair zHa11 txHa9)
abbrev txHa21 : E := (.bi (.iop .add .u32) (.bi (.iop .mul .u32) (.int 2) txHa3) (.int 1))
abbrev txHa22 : E := (.bi (.iop .add .u32) (.bi (.iop .mul .u32) (.int 2) txHa7) (.int 1))
abbrev txHa23 : E := (.bi .pair zHa11 txHa12)
abbrev txHa24 : E := (.bi .pair zHa11 txHa13)
abbrev txHa25 : E := (.bi .pair zHa11 txHa14)
abbrev txHa26 : E := (.bi .pair zHa11 txHa15)
abbrev zHa18 : E := (.bi .pair (.var 2) txHa11)
abbrev txHa27 : E := (.bi .sel (.fn 9 zHa18) (.int 0))
abbrev txHa28 : E := (.bi .sel (.fn 9 zHa18) (.int 1))
abbrev txHa29 : E := (.bi .sel (.fn 9 zHa18) (.int 2))
abbrev txHa30 : E := (.bi .sel (.fn 9 zHa18) (.int 3))
abbrev txHa31 : E := (.bi .sel (.fn 9 zHa18) (.int 4))
abbrev txHa32 : E := (.bi .sel (.fn 9 zHa18) (.int 5))
abbrev txHa33 : E := (.bi .sel (.fn 9 zHa18) (.int 6))
abbrev txHa34 : E := (.bi .sel (.fn 9 zHa18) (.int 7))
abbrev txHa35 : E := (.bi .sel (.fn 9 zHa18) (.int 8))
abbrev txHa36 : E := (.bi .sel (.fn 9 zHa18) (.int 9))
abbrev txHa37 : E := (.bi .sel (.fn 9 zHa18) (.int 10))
abbrev txHa38 : E := (.bi .sel (.fn 9 zHa18) (.int 11))
abbrev txHa39 : E := (.bi .sel (.fn 9 zHa18) (.int 12))
abbrev txHa40 : E := (.bi .sel (.fn 9 zHa18) (.int 13))
abbrev txHa41 : E := (.bi .sel (.fn 9 zHa18) (.int 14))
abbrev txHa42 : E := (.bi .sel (.fn 9 zHa18) (.int 15))
abbrev txHa43 : E := (.bi .pair zHa11 (.bi .pair txHa2 txHa4))
abbrev txHa44 : E := (.bi .pair (.var 2) (.bi .pair (.int 0) txHa19))
abbrev txHa45 : E := (.bi .pair (.var 2) (.bi .pair (.int 0) txHa20))
abbrev txHa46 : E := (.bi (.iop .mul .u32) txHa21 (.int 2654435761))
abbrev txHa47 : E := (.bi .pair zHa11 (.bi .pair txHa2 txHa6))
abbrev txHa48 : E := (.bi .pair zHa12 (.bi .pair txHa17 (.int 0)))
abbrev txHa49 : E := (.bi (.iop .mul .u32) txHa22 (.int 2654435761))
abbrev txHa50 : E := (.bi .pair (.var 2) (.bi .pair (.int 0) txHa23))
abbrev txHa51 : E := (.bi .pair (.var 2) (.bi .pair (.int 0) txHa24))
abbrev txHa52 : E := (.bi .pair (.var 2) (.bi .pair (.int 0) txHa25))
abbrev txHa53 : E := (.bi .pair (.var 2) (.bi .pair (.int 0) txHa26))
abbrev txHa54 : E := (.bi .pair txHa2 (.bi .pair (.int 1) txHa16))
abbrev txHa55 : E := (.bi .pair (.var 2) (.bi .pair (.int 0) txHa43))
abbrev txHa56 : E := (.bi .pair (.var 2) (.bi .pair (.int 0) txHa47))
abbrev txHa57 : E := (.bi (.iop .mul .u32) txHa49 (.int 14348907))
abbrev zHa33 : E := (.un .len (.fn 30 txHa52))
abbrev txHa58 : E := (.bi .add (.var 11) zHa33)
abbrev txHa59 : E := (.bi (.iop .add .u32) (.bi (.iop .mul .u32) (.int 3) (.var 9)) txHa46)
abbrev zHa36 : E := (.un .len (.fn 30 txHa53))
abbrev txHa60 : E := (.bi .add (.var 11) zHa36)
abbrev txHa61 : E := (.un .code (.bi .app (.var 12) (.fn 30 txHa52)))
abbrev txHa62 : E := (.un .code (.bi .app (.var 12) (.fn 30 txHa53)))
abbrev txHa63 : E := (.bi .pair zHa11 txHa54)
abbrev txHa64 : E := (.bi .add (.int 1) (.un .len (.fn 30 txHa56)))
abbrev zHa26 : E := (.bi .add (.var 11) (.int 1))
abbrev txHa65 : E := (.bi .add zHa26 (.un .len (.fn 30 txHa56)))
abbrev txHa66 : E := (.bi .pair zHa11 (.bi .pair txHa2 txHa48))
abbrev txHa67 : E := (.bi .pair (.var 2) (.bi .pair (.int 0) txHa63))
abbrev txHa68 : E := (.bi (.iop .mul .u32) (.int 3) (.bi (.iop .sub .u32) (.var 9) txHa57))
abbrev txHa69 : E := (.bi .pair (.var 2) (.bi .pair (.int 0) txHa66))
abbrev txHa70 : E := (.bi .add (.var 11) (.un .len (.fn 30 txHa67)))
abbrev txHa71 : E := (.un .code (.bi .app (.var 12) (.fn 30 txHa67)))
abbrev zHa29 : E := (.bi .snoc (.var 12) txHa17)
abbrev txHa72 : E := (.bi .app zHa29 (.fn 30 txHa56))
abbrev zHa28 : E := (.bi .snoc (.lits []) txHa17)
abbrev txHa73 : E := (.bi .app zHa28 (.fn 30 txHa56))
abbrev txHa74 : E := (.bi .add (.var 11) (.un .len (.fn 30 txHa69)))
abbrev txHa75 : E := (.un .code (.bi .app (.var 12) (.fn 30 txHa69)))
abbrev zHa0 : Nat × RW := (1, .cells 52 0 false false [.ptr 1 0, .bool true, vu8Ha (.var 7) 0, vu8Ha (.var 7) 1, vu8Ha (.var 7) 2, vu8Ha (.var 7) 3, vu8Ha (.var 7) 4, vu8Ha (.var 7) 5, vu8Ha (.var 7) 6, vu8Ha (.var 7) 7, vu8Ha (.var 7) 8, vu8Ha (.var 7) 9, vu8Ha (.var 7) 10, vu8Ha (.var 7) 11, vu8Ha (.var 7) 12, vu8Ha (.var 7) 13, vu8Ha (.var 7) 14, vu8Ha (.var 7) 15, .sint .i64 (.var 8), .sint .u32 (.var 9), .nilslice, .bool false])
abbrev zHa1 : Nat × RW := (1, .cells 52 0 false false [.ptr 1 0, .bool true, .sint .u8 txHa27, .sint .u8 txHa28, .sint .u8 txHa29, .sint .u8 txHa30, .sint .u8 txHa31, .sint .u8 txHa32, .sint .u8 txHa33, .sint .u8 txHa34, .sint .u8 txHa35, .sint .u8 txHa36, .sint .u8 txHa37, .sint .u8 txHa38, .sint .u8 txHa39, .sint .u8 txHa40, .sint .u8 txHa41, .sint .u8 txHa42, .sint .i64 zHa11, .sint .u32 (.fn 11 zHa18), .nilslice, .bool false])
abbrev zHa2 : Nat × RW := (1, .cells 52 0 false false [.ptr 1 0, .bool true, vu8Ha (.var 7) 0, vu8Ha (.var 7) 1, vu8Ha (.var 7) 2, vu8Ha (.var 7) 3, vu8Ha (.var 7) 4, vu8Ha (.var 7) 5, vu8Ha (.var 7) 6, vu8Ha (.var 7) 7, vu8Ha (.var 7) 8, vu8Ha (.var 7) 9, vu8Ha (.var 7) 10, vu8Ha (.var 7) 11, vu8Ha (.var 7) 12, vu8Ha (.var 7) 13, vu8Ha (.var 7) 14, vu8Ha (.var 7) 15, .sint .i64 (.var 8), .sint .u32 (.var 9), .sslice 3 (.int 0) (.var 1) (.var 1) true, .bool false])
abbrev zHa4 : E := (.bi .add (.var 8) (.int 1))
abbrev zHa5 : E := (.bi (.iop .add .u32) txHa68 txHa46)
noncomputable abbrev zHa6 : Nat × RW := (7, .loop 0 [(2, .ptr 9 0)] 13 (rangeAt Try.prog 25 [4, 1, 0, 1]))
abbrev zHa7 : Nat × RW := (1, .cells 52 0 false false [.ptr 1 0, .bool true, .sint .u8 txHa27, .sint .u8 txHa28, .sint .u8 txHa29, .sint .u8 txHa30, .sint .u8 txHa31, .sint .u8 txHa32, .sint .u8 txHa33, .sint .u8 txHa34, .sint .u8 txHa35, .sint .u8 txHa36, .sint .u8 txHa37, .sint .u8 txHa38, .sint .u8 txHa39, .sint .u8 txHa40, .sint .u8 txHa41, .sint .u8 txHa42, .sint .i64 zHa11, .sint .u32 (.fn 11 zHa18), .sslice 3 (.int 0) (.fn 21 txHa44) (.fn 21 txHa44) true, .bool false])
abbrev zHa8 : Nat × RW := (1, .cells 52 0 false false [.ptr 1 0, .bool true, .sint .u8 txHa27, .sint .u8 txHa28, .sint .u8 txHa29, .sint .u8 txHa30, .sint .u8 txHa31, .sint .u8 txHa32, .sint .u8 txHa33, .sint .u8 txHa34, .sint .u8 txHa35, .sint .u8 txHa36, .sint .u8 txHa37, .sint .u8 txHa38, .sint .u8 txHa39, .sint .u8 txHa40, .sint .u8 txHa41, .sint .u8 txHa42, .sint .i64 zHa11, .sint .u32 (.fn 11 zHa18), .sslice 3 (.int 0) (.fn 21 txHa45) (.fn 21 txHa45) true, .bool false])
abbrev zHa9 : Duty := (true, (.un .len (.fn 30 txHa69)), zHa33)
abbrev zHa10 : Duty := (true, (.fn 21 txHa55), (.fn 21 txHa45))
abbrev zHa13 : Nat × RW := (13, .cells 25 0 false false [.ptr 1 0])
abbrev zHa15 : Duty := (true, (.un .len (.fn 30 txHa67)), zHa36)
abbrev zHa17 : Duty := (true, (.fn 21 txHa50), (.fn 21 txHa44))
abbrev zHa19 : E := (.bi .pair (.var 2) txHa10)
abbrev zHa20 : Duty := (true, txHa64, zHa33)
abbrev zHa21 : Duty := (true, (.fn 21 txHa51), (.fn 21 txHa45))
abbrev zHa22 : Nat × RW := (9, .cells 27 0 false false [.nilslice])
abbrev zHa23 : Duty := (false, (.un .code (.fn 30 txHa69)), (.un .code (.fn 30 txHa52)))
abbrev zHa24 : Duty := (false, (.fn 22 txHa69), (.fn 22 txHa52))
abbrev zHa25 : Nat × RW := (17, .eseq ⟨.u8, .var 6, .var 2⟩)
abbrev zHa27 : Nat × RW := (9, .cells 27 0 false false [.vslice 11 1 (.int 0) (.var 11) (.var 11) true])
abbrev zHa30 : Duty := (false, (.un .code (.fn 30 txHa67)), (.un .code (.fn 30 txHa53)))
abbrev zHa31 : Duty := (false, (.fn 22 txHa67), (.fn 22 txHa53))
abbrev zHa32 : Nat × RW := (3, .seq ⟨5, .u8, .var 1, .var 10, true, false⟩)
abbrev zHa34 : Nat × RW := (11, .vseq ⟨22, (.sl (.int .u8)), .var 11, .var 12, true⟩)
abbrev zHa35 : Duty := (false, (.un .code txHa73), (.un .code (.fn 30 txHa52)))
abbrev zHa37 : Duty := (true, (.var 1), (.fn 21 txHa45))
abbrev zHa38 : Duty := (true, (.bi .sel (.var 7) (.int 10)), txHa37)
abbrev zHa39 : Duty := (true, (.bi .sel (.var 7) (.int 11)), txHa38)
abbrev zHa40 : Duty := (true, (.bi .sel (.var 7) (.int 12)), txHa39)
abbrev zHa41 : Duty := (true, (.bi .sel (.var 7) (.int 13)), txHa40)
abbrev zHa42 : Duty := (true, (.bi .sel (.var 7) (.int 14)), txHa41)
abbrev zHa43 : Duty := (true, (.bi .sel (.var 7) (.int 15)), txHa42)
abbrev zHa44 : Duty := (true, (.bi .sel (.var 7) (.int 0)), txHa27)
abbrev zHa45 : Duty := (true, (.bi .sel (.var 7) (.int 1)), txHa28)
abbrev zHa46 : Duty := (true, (.bi .sel (.var 7) (.int 2)), txHa29)
abbrev zHa47 : Duty := (true, (.bi .sel (.var 7) (.int 3)), txHa30)
abbrev zHa48 : Duty := (true, (.bi .sel (.var 7) (.int 4)), txHa31)
abbrev zHa49 : Duty := (true, (.bi .sel (.var 7) (.int 5)), txHa32)
abbrev zHa50 : Duty := (true, (.bi .sel (.var 7) (.int 6)), txHa33)
abbrev zHa51 : Duty := (true, (.bi .sel (.var 7) (.int 7)), txHa34)
abbrev zHa52 : Duty := (true, (.bi .sel (.var 7) (.int 8)), txHa35)
abbrev zHa53 : Duty := (true, (.bi .sel (.var 7) (.int 9)), txHa36)
abbrev zHa55 : Nat × RW := (3, .seq ⟨5, .u8, .fn 21 txHa44, .fn 22 txHa53, true, false⟩)
abbrev zHa56 : Nat × RW := (3, .seq ⟨5, .u8, .fn 21 txHa45, .fn 22 txHa52, true, false⟩)
abbrev zHa57 : Duty := (false, (.fn 22 txHa56), (.fn 22 txHa52))
abbrev zHa58 : Nat × RW := (11, .vseq ⟨22, (.sl (.int .u8)), .bi .add (.var 11) zHa36, .bi .app (.var 12) (.fn 30 txHa53), true⟩)
abbrev zHa59 : Nat × RW := (11, .vseq ⟨22, (.sl (.int .u8)), .bi .add (.var 11) zHa33, .bi .app (.var 12) (.fn 30 txHa52), true⟩)
abbrev zHa60 : Duty := (false, (.un .code txHa72), txHa61)
abbrev zHa61 : Duty := (true, (.var 9), (.fn 11 zHa18))
abbrev zHa62 : Nat × RW := (11, .vseq ⟨22, (.sl (.int .u8)), .un .len (.fn 30 txHa53), .fn 30 txHa53, true⟩)
abbrev zHa63 : Nat × RW := (11, .vseq ⟨22, (.sl (.int .u8)), .un .len (.fn 30 txHa52), .fn 30 txHa52, true⟩)
abbrev zHa64 : E := (.un .len (.fn 20 txHa44))
abbrev zHa65 : Nat × RW := (9, .cells 27 0 false false [.vslice 11 1 (.int 0) txHa60 txHa60 true])
abbrev zHa66 : Nat × RW := (9, .cells 27 0 false false [.vslice 11 1 (.int 0) txHa58 txHa58 true])
abbrev zHa67 : Nat × RW := (9, .cells 27 0 false false [.vslice 11 1 (.int 0) zHa36 zHa36 true])
abbrev zHa68 : Nat × RW := (9, .cells 27 0 false false [.vslice 11 1 (.int 0) zHa33 zHa33 true])
abbrev zHa69 : E := (.un .len (.fn 20 txHa45))
noncomputable def jA00 : LSpec := { n := 41, next := 9, pat := [(0, .yieldf 7), (2, .ptr 13 0), (6, .sslice 17 (.var 3) (.var 4) (.var 5) false), (7, .sint .i64 (.var 4)), (8, .sint .i64 (.var 0))], rows := [zHa13, zHa0, zHa6, zHa22, zHa25], pre := [(.le (.int 0) (.var 0), true), (.le (.var 0) (.var 4), true), (.le (.int 0) (.var 3), true), (.le zHa11 (.var 6), true), (.le (.var 4) (.var 5), true), (.le zHa11 (.int 20000), true), (.same (.var 7) (.fn 9 zHa19), true), (.eq (.var 8) zHa16, true), (.eq (.var 9) (.fn 11 zHa19), true), (.le (.int 1) (.fn 21 txHa44), true), (.le (.int 1) zHa64, false)], x := 0, fin := [], frows := [zHa13, zHa7, zHa6, zHa22, zHa55], same := [1, 7, 9, 13], chg := [0, 2, 5, 6, 7, 8, 9, 10, 11, 12, 13, 14, 15, 16, 17, 18, 19, 20, 21, 22, 23, 24, 25, 26, 27, 28, 29, 30, 31, 32, 33, 34, 35, 36, 37, 38, 39, 40] }
noncomputable def jA10 : LSpec := { n := 41, next := 9, pat := [(0, .yieldf 7), (2, .ptr 13 0), (6, .sslice 17 (.var 3) (.var 4) (.var 5) false), (7, .sint .i64 (.var 4)), (8, .sint .i64 (.var 0))], rows := [zHa13, zHa2, zHa6, zHa22, zHa25, zHa32], pre := [(.le (.int 0) (.var 0), true), (.le (.var 0) (.var 4), true), (.le (.int 0) (.var 3), true), (.le zHa11 (.var 6), true), (.le (.var 4) (.var 5), true), (.le zHa11 (.int 20000), true), (.same (.var 7) (.fn 9 zHa19), true), (.eq (.var 8) zHa16, true), (.eq (.var 9) (.fn 11 zHa19), true), (.le (.int 1) (.var 1), true), (.le (.var 1) (.int 1023), true), (.le (.var 1) zHa16, true), (.le (.int 1) (.fn 21 txHa45), true), (.le (.int 1) zHa69, false)], x := 0, fin := [], frows := [zHa13, zHa8, zHa6, zHa22, zHa56], same := [1, 7, 9, 13], chg := [0, 2, 5, 6, 7, 8, 9, 10, 11, 12, 13, 14, 15, 16, 17, 18, 19, 20, 21, 22, 23, 24, 25, 26, 27, 28, 29, 30, 31, 32, 33, 34, 35, 36, 37, 38, 39, 40] }
noncomputable def jA : Nat → LSpec
 | 0 => jA00
 | _ => jA10
abbrev asHa0 : Q × Bool := ((.le (.var 4) (.var 0)), false)
abbrev asHa1 : Q × Bool := ((.le (.int 0) (.var 0)), true)
abbrev asHa2 : Q × Bool := ((.le (.int 0) zHa16), true)
abbrev asHa3 : Q × Bool := ((.le (.var 6) zHa16), false)
abbrev asHa4 : Q × Bool := ((.le (.int 0) zHa54), true)
abbrev asHa5 : Q × Bool := ((.le (.int 16) zHa54), false)
abbrev asHa6 : Q × Bool := ((.le (.int 16) (.var 8)), false)
abbrev asHa7 : Q × Bool := ((.le (.int 16) (.un .len (.var 7))), true)
abbrev asHa8 : Q × Bool := ((.fit .i64 zHa4), true)
abbrev asHa9 : Q × Bool := ((.fit .i64 zHa3), true)
def jA00_t0 : List (Q × Bool) := [asHa0, asHa1, asHa2, asHa3, asHa4, asHa5, asHa6, asHa7, asHa8, asHa9]
def jA00_d0 : List Duty := [zHa17, zHa17, zHa17, zHa31]
def jA00_h0 : List (Nat × E) := [(10, zHa14), (6, (.var 6)), (2, (.var 2)), (1, (.int 1)), (9, txHa59), (8, zHa4), (7, txHa18), (0, zHa3), (3, (.var 3)), (4, (.var 4)), (5, (.var 5))]
theorem jA00_h0_a : lookE jA00_h0 0 = zHa3 ∧ lookE jA00_h0 1 = (.int 1) ∧ lookE jA00_h0 2 = (.var 2) ∧ lookE jA00_h0 3 = (.var 3) ∧ lookE jA00_h0 4 = (.var 4) ∧ lookE jA00_h0 5 = (.var 5) ∧ lookE jA00_h0 6 = (.var 6) ∧ lookE jA00_h0 7 = txHa18 ∧ lookE jA00_h0 8 = zHa4 ∧ lookE jA00_h0 9 = txHa59 ∧ lookE jA00_h0 10 = zHa14 := ⟨rfl, rfl, rfl, rfl, rfl, rfl, rfl, rfl, rfl, rfl, rfl⟩
theorem jA00_y0 : nextJ (jA 0) (jA 1) jA00_h0 [(9, 9), (3, 21), (1, 1), (17, 17), (13, 13), (7, 7)] (roundC Try.prog [] [] [] 3000 40 26 [4, 1] (tellA jA00_t0) (jA 0)) = some jA00_d0 := by kernel_rfl
abbrev asHa10 : Q × Bool := ((.le (.int 16) (.var 8)), true)
def jA00_t1 : List (Q × Bool) := [asHa0, asHa1, asHa2, asHa3, asHa4, asHa5, asHa10, asHa7, asHa8, asHa9]
def jA00_d1 : List Duty := [zHa17, zHa17, zHa17, zHa31]
def jA00_h1 : List (Nat × E) := [(10, zHa14), (6, (.var 6)), (2, (.var 2)), (1, (.int 1)), (9, zHa5), (8, zHa4), (7, txHa18), (0, zHa3), (3, (.var 3)), (4, (.var 4)), (5, (.var 5))]
theorem jA00_h1_a : lookE jA00_h1 0 = zHa3 ∧ lookE jA00_h1 1 = (.int 1) ∧ lookE jA00_h1 2 = (.var 2) ∧ lookE jA00_h1 3 = (.var 3) ∧ lookE jA00_h1 4 = (.var 4) ∧ lookE jA00_h1 5 = (.var 5) ∧ lookE jA00_h1 6 = (.var 6) ∧ lookE jA00_h1 7 = txHa18 ∧ lookE jA00_h1 8 = zHa4 ∧ lookE jA00_h1 9 = zHa5 ∧ lookE jA00_h1 10 = zHa14 := ⟨rfl, rfl, rfl, rfl, rfl, rfl, rfl, rfl, rfl, rfl, rfl⟩
theorem jA00_y1 : nextJ (jA 0) (jA 1) jA00_h1 [(9, 9), (3, 21), (1, 1), (17, 17), (13, 13), (7, 7)] (roundC Try.prog [] [] [] 3000 40 26 [4, 1] (tellA jA00_t1) (jA 0)) = some jA00_d1 := by kernel_rfl
abbrev asHa11 : Q × Bool := ((.le (.int 1) (.var 1)), true)
abbrev asHa12 : Q × Bool := ((.le (.bi .mul zHa12 (.int 2)) (.int 281474976710656)), true)
abbrev asHa13 : Q × Bool := ((.fit .i64 zHa12), true)
abbrev asHa14 : Q × Bool := ((.le (.int 1) zHa12), true)
abbrev asHa15 : Q × Bool := ((.eq zHa12 (.int 1024)), false)
abbrev asHa16 : Q × Bool := ((.le (.int 64) zHa12), false)
def jA10_t0 : List (Q × Bool) := [asHa0, asHa1, asHa2, asHa3, asHa11, asHa12, asHa13, asHa4, asHa5, asHa6, asHa7, asHa8, asHa14, asHa15, asHa16, asHa9]
def jA10_d0 : List Duty := [zHa10, zHa10, zHa10, zHa24]
def jA10_h0 : List (Nat × E) := [(10, txHa17), (6, (.var 6)), (2, (.var 2)), (1, zHa12), (9, txHa59), (8, zHa4), (7, txHa18), (0, zHa3), (3, (.var 3)), (4, (.var 4)), (5, (.var 5))]
theorem jA10_h0_a : lookE jA10_h0 0 = zHa3 ∧ lookE jA10_h0 1 = zHa12 ∧ lookE jA10_h0 2 = (.var 2) ∧ lookE jA10_h0 3 = (.var 3) ∧ lookE jA10_h0 4 = (.var 4) ∧ lookE jA10_h0 5 = (.var 5) ∧ lookE jA10_h0 6 = (.var 6) ∧ lookE jA10_h0 7 = txHa18 ∧ lookE jA10_h0 8 = zHa4 ∧ lookE jA10_h0 9 = txHa59 ∧ lookE jA10_h0 10 = txHa17 := ⟨rfl, rfl, rfl, rfl, rfl, rfl, rfl, rfl, rfl, rfl, rfl⟩
theorem jA10_y0 : nextJ (jA 1) (jA 1) jA10_h0 [(9, 9), (3, 21), (1, 1), (17, 17), (13, 13), (7, 7)] (roundC Try.prog [] [] [] 3000 40 26 [4, 1] (tellA jA10_t0) (jA 1)) = some jA10_d0 := by kernel_rfl
def jA10_t1 : List (Q × Bool) := [asHa0, asHa1, asHa2, asHa3, asHa11, asHa12, asHa13, asHa4, asHa5, asHa10, asHa7, asHa8, asHa14, asHa15, asHa16, asHa9]
def jA10_d1 : List Duty := [zHa10, zHa10, zHa10, zHa24]
def jA10_h1 : List (Nat × E) := [(10, txHa17), (6, (.var 6)), (2, (.var 2)), (1, zHa12), (9, zHa5), (8, zHa4), (7, txHa18), (0, zHa3), (3, (.var 3)), (4, (.var 4)), (5, (.var 5))]
theorem jA10_h1_a : lookE jA10_h1 0 = zHa3 ∧ lookE jA10_h1 1 = zHa12 ∧ lookE jA10_h1 2 = (.var 2) ∧ lookE jA10_h1 3 = (.var 3) ∧ lookE jA10_h1 4 = (.var 4) ∧ lookE jA10_h1 5 = (.var 5) ∧ lookE jA10_h1 6 = (.var 6) ∧ lookE jA10_h1 7 = txHa18 ∧ lookE jA10_h1 8 = zHa4 ∧ lookE jA10_h1 9 = zHa5 ∧ lookE jA10_h1 10 = txHa17 := ⟨rfl, rfl, rfl, rfl, rfl, rfl, rfl, rfl, rfl, rfl, rfl⟩
theorem jA10_y1 : nextJ (jA 1) (jA 1) jA10_h1 [(9, 9), (3, 21), (1, 1), (17, 17), (13, 13), (7, 7)] (roundC Try.prog [] [] [] 3000 40 26 [4, 1] (tellA jA10_t1) (jA 1)) = some jA10_d1 := by kernel_rfl
abbrev asHa17 : Q × Bool := ((.le (.int 64) zHa12), true)
abbrev asHa18 : Q × Bool := ((.le (.int 16777216) zHa5), true)
def jA10_t2 : List (Q × Bool) := [asHa0, asHa1, asHa2, asHa3, asHa11, asHa12, asHa13, asHa4, asHa5, asHa10, asHa7, asHa8, asHa14, asHa15, asHa17, asHa18, asHa9]
def jA10_d2 : List Duty := [zHa10, zHa10, zHa10, zHa24]
def jA10_h2 : List (Nat × E) := [(10, txHa17), (6, (.var 6)), (2, (.var 2)), (1, zHa12), (9, zHa5), (8, zHa4), (7, txHa18), (0, zHa3), (3, (.var 3)), (4, (.var 4)), (5, (.var 5))]
theorem jA10_h2_a : lookE jA10_h2 0 = zHa3 ∧ lookE jA10_h2 1 = zHa12 ∧ lookE jA10_h2 2 = (.var 2) ∧ lookE jA10_h2 3 = (.var 3) ∧ lookE jA10_h2 4 = (.var 4) ∧ lookE jA10_h2 5 = (.var 5) ∧ lookE jA10_h2 6 = (.var 6) ∧ lookE jA10_h2 7 = txHa18 ∧ lookE jA10_h2 8 = zHa4 ∧ lookE jA10_h2 9 = zHa5 ∧ lookE jA10_h2 10 = txHa17 := ⟨rfl, rfl, rfl, rfl, rfl, rfl, rfl, rfl, rfl, rfl, rfl⟩
theorem jA10_y2 : nextJ (jA 1) (jA 1) jA10_h2 [(9, 9), (3, 21), (1, 1), (17, 17), (13, 13), (7, 7)] (roundC Try.prog [] [] [] 3000 40 26 [4, 1] (tellA jA10_t2) (jA 1)) = some jA10_d2 := by kernel_rfl
abbrev asHa19 : Q × Bool := ((.le (.var 4) (.var 0)), true)
def jA10_t3 : List (Q × Bool) := [asHa19]
def jA10_d3 : List Duty := [zHa44, zHa45, zHa46, zHa47, zHa48, zHa49, zHa50, zHa51, zHa52, zHa53, zHa38, zHa39, zHa40, zHa41, zHa42, zHa43, (true, (.var 8), zHa11), zHa61, zHa37, zHa37, zHa37, (false, (.var 10), (.fn 22 txHa52))]
theorem jA10_y3 : endD (jA 1) [(3, 3), (1, 1), (7, 7), (9, 9), (13, 13)] 1000 (roundC Try.prog [] [] [] 3000 40 26 [4, 1] (tellA jA10_t3) (jA 1)) = some jA10_d3 := by kernel_rfl
set_option maxHeartbeats 16000000 in
theorem jA_holds : ∀ i, i < 2 → LHolds Try.prog (loopAt Try.prog 26 [4, 1]) (jA i) F := by
 refine loop_famC sound (tableNil _ _) (specsNil _ _) (oversNil _ _) (fuel := 3000) (depth := 40) (by kernel_rfl) (fun i d => match i with | 0 => ((d 4).toInt - (d 0).toInt).toNat | _ => ((d 4).toInt - (d 0).toInt).toNat) ?_
 intro i hi d hp hR hA
 match i, hi with
 | 0, _ =>
   have hp := allTold'_iff.2 hp
   simp only [jA, jA00, tl] at hp hR hA
   simp only [gq, D.toInt_int, D.ints_ofInts, UO.den] at hp
   obtain ⟨p1, p2, p3, p4, p5, p6, p7, p8, p9, pf, pz⟩ := hp
   have hb : True := trivial
   by_cases h : (d 4).toInt ≤ (d 0).toInt
   ·exfalso
    have ce := cuts_end (x := (d 2).ints) (o := (0 : Int)) (t := (d 3).toInt + (d 4).toInt) (i := (d 3).toInt + (d 0).toInt) (n := 0) (by omega)
    simp only [ce, List.length_nil] at pf pz
    all_goals omega
   ·obtain ⟨wf, wn, el, hr, hy, hz, e6, e7, e8, er⟩ := comm (Int.le_refl 0) (by omega : 0 ≤ (d 3).toInt + (d 0).toInt) (by omega : (d 3).toInt + (d 0).toInt < (d 3).toInt + (d 4).toInt) (by omega) p7 p9 p8
    have ea : (d 3).toInt + ((d 0).toInt + 1) = (d 3).toInt + (d 0).toInt + 1 := by omega
    have ly := @lfy (d 2) (0 : Int) ((d 3).toInt + (d 4).toInt) ((d 3).toInt + (d 0).toInt) (0) (D.ofInts []) (by omega)
    have ln := @lfn (d 2) (0 : Int) ((d 3).toInt + (d 4).toInt) ((d 3).toInt + (d 0).toInt) (0) (D.ofInts []) (by omega)
    simp only [rollI, stepI, wI, Int.zero_add] at wf wn
    simp only [Int.zero_add] at hr hy hz ly ln
    by_cases f : 16 ≤ (d 3).toInt + (d 0).toInt
    ·have hw := wf f
     obtain ⟨cn, cc, ci⟩ := ln (by omega)
     rw [cn] at pf pz
     refine ⟨tellA jA00_t1, tellA_ok (allTold'_iff.1 ?_), .inr ⟨1, jA00_h1, _, _, by decide, jA00_y1, dutiesTold_ok ?_, allTold'_iff.1 ?_, ?_⟩⟩
     all_goals (try simp only [jA00_t1, jA00_d1, jA, jA00, jA10, jA00_h1_a, ea, gq, er, hw, e6, e8, cn, cc, tl]); all_goals try simp only [hy, getT, ofInts0, cg, Int.zero_add]
     all_goals first | done | omega | (and_intros <;> first | exact True.intro | rfl | omega | exact hr.symm | exact last_cut3 (by omega) | assumption)
    ·have hw := wn f
     obtain ⟨cn, cc, ci⟩ := ln (by omega)
     rw [cn] at pf pz
     refine ⟨tellA jA00_t0, tellA_ok (allTold'_iff.1 ?_), .inr ⟨1, jA00_h0, _, _, by decide, jA00_y0, dutiesTold_ok ?_, allTold'_iff.1 ?_, ?_⟩⟩
     all_goals (try simp only [jA00_t0, jA00_d0, jA, jA00, jA10, jA00_h0_a, ea, gq, er, hw, e6, e8, cn, cc, tl]); all_goals try simp only [hy, getT, ofInts0, cg, Int.zero_add]
     all_goals first | done | omega | (and_intros <;> first | exact True.intro | rfl | omega | exact hr.symm | exact last_cut3 (by omega) | assumption)
 | 1, _ =>
   have hp := allTold'_iff.2 hp
   simp only [jA, jA10, tl] at hp hR hA
   simp only [gq, D.toInt_int, D.ints_ofInts, UO.den] at hp
   obtain ⟨p1, p2, p3, p4, p5, p6, p7, p8, p9, p10, p11, p12, pf, pz⟩ := hp
   have hb : True := trivial
   by_cases h : (d 4).toInt ≤ (d 0).toInt
   ·have ce := cuts_end (x := (d 2).ints) (o := (0 : Int)) (t := (d 3).toInt + (d 4).toInt) (i := (d 3).toInt + (d 0).toInt) (n := (d 1).toInt) (by omega)
    have cf := ch_end (x := d 2) (o := (0 : Int)) (t := (d 3).toInt + (d 4).toInt) (i := (d 3).toInt + (d 0).toInt) (n := (d 1).toInt) (l := (d 10)) (by omega)
    have i4 : (d 3).toInt + (d 0).toInt = (d 3).toInt + (d 4).toInt := by omega
    rw [← i4] at ce cf
    refine ⟨tellA jA10_t3, tellA_ok (allTold'_iff.1 ?_), .inl ⟨_, _, _, jA10_y3, dutiesTold_ok ?_⟩⟩
    ·simp only [jA10_t3, tl]
     omega
    ·simp only [jA10_d3, gq, ← i4, tl]
     (try simp only [← i4, ce, cf, p7, Int.natCast_zero, Int.add_zero, prt_nil (x := (d 2).ints) (o := (0 : Int) + ((d 3).toInt + (d 0).toInt)) (t := (0 : Int) + ((d 3).toInt + (d 0).toInt)) (by omega) (by omega), List.append_nil, List.length_nil, D.ints_ofInts, Int.zero_add, prt_nil (x := (d 2).ints) (o := (d 3).toInt + (d 0).toInt) (t := (d 3).toInt + (d 0).toInt) (by omega) (by omega)]); first | done | (and_intros <;> first | exact True.intro | rfl | omega | exact (last_all (by omega)) | exact (last_all (by omega)).symm | (rw [list_back hb]; done) | exact (congrArg D.code (list_back hb)).symm | assumption)
   ·obtain ⟨wf, wn, el, hr, hy, hz, e6, e7, e8, er⟩ := comm (Int.le_refl 0) (by omega : 0 ≤ (d 3).toInt + (d 0).toInt) (by omega : (d 3).toInt + (d 0).toInt < (d 3).toInt + (d 4).toInt) (by omega) p7 p9 p8
    have ea : (d 3).toInt + ((d 0).toInt + 1) = (d 3).toInt + (d 0).toInt + 1 := by omega
    have ly := @lfy (d 2) (0 : Int) ((d 3).toInt + (d 4).toInt) ((d 3).toInt + (d 0).toInt) (d 1).toInt (d 10) (by omega)
    have ln := @lfn (d 2) (0 : Int) ((d 3).toInt + (d 4).toInt) ((d 3).toInt + (d 0).toInt) (d 1).toInt (d 10) (by omega)
    simp only [rollI, stepI, wI, Int.zero_add] at wf wn
    simp only [Int.zero_add] at hr hy hz ly ln
    by_cases q : (d 1).toInt + 1 < 64
    ·by_cases f : 16 ≤ (d 3).toInt + (d 0).toInt
     ·have hw := wf f
      obtain ⟨cn, cc, ci⟩ := ln (by omega)
      rw [cn] at pf pz
      refine ⟨tellA jA10_t1, tellA_ok (allTold'_iff.1 ?_), .inr ⟨1, jA10_h1, _, _, by decide, jA10_y1, dutiesTold_ok ?_, allTold'_iff.1 ?_, ?_⟩⟩
      all_goals (try simp only [jA10_t1, jA10_d1, jA, jA00, jA10, jA10_h1_a, ea, gq, er, hw, e6, e8, cn, cc, tl]); all_goals try simp only [hy, getT, ofInts0, cg, Int.zero_add]
      all_goals first | done | omega | (and_intros <;> first | exact True.intro | rfl | omega | exact hr.symm | exact last_cut3 (by omega) | assumption)
     ·have hw := wn f
      obtain ⟨cn, cc, ci⟩ := ln (by omega)
      rw [cn] at pf pz
      refine ⟨tellA jA10_t0, tellA_ok (allTold'_iff.1 ?_), .inr ⟨1, jA10_h0, _, _, by decide, jA10_y0, dutiesTold_ok ?_, allTold'_iff.1 ?_, ?_⟩⟩
      all_goals (try simp only [jA10_t0, jA10_d0, jA, jA00, jA10, jA10_h0_a, ea, gq, er, hw, e6, e8, cn, cc, tl]); all_goals try simp only [hy, getT, ofInts0, cg, Int.zero_add]
      all_goals first | done | omega | (and_intros <;> first | exact True.intro | rfl | omega | exact hr.symm | exact last_cut3 (by omega) | assumption)
    ·have hw := wf (by omega)
     by_cases g : (d 1).toInt + 1 = 1024
     ·exfalso
      obtain ⟨cn, cc, ci⟩ := ly (by omega)
      simp only [cn, List.length_cons] at pz
      omega
     ·by_cases w : winI (d 2).ints 0 ((d 3).toInt + (d 0).toInt + 1) < 16777216
      ·exfalso
       obtain ⟨cn, cc, ci⟩ := ly (by omega)
       simp only [cn, List.length_cons] at pz
       omega
      ·obtain ⟨cn, cc, ci⟩ := ln (by omega)
       rw [cn] at pf pz
       refine ⟨tellA jA10_t2, tellA_ok (allTold'_iff.1 ?_), .inr ⟨1, jA10_h2, _, _, by decide, jA10_y2, dutiesTold_ok ?_, allTold'_iff.1 ?_, ?_⟩⟩
       all_goals (try simp only [jA10_t2, jA10_d2, jA, jA00, jA10, jA10_h2_a, ea, gq, er, hw, e6, e8, cn, cc, tl]); all_goals try simp only [hy, getT, ofInts0, cg, Int.zero_add]
       all_goals first | done | omega | (and_intros <;> first | exact True.intro | rfl | omega | exact hr.symm | exact last_cut3 (by omega) | assumption)
theorem jA00_holds : LHolds Try.prog (loopAt Try.prog 26 [4, 1]) jA00 F := jA_holds 0 (by decide)
theorem jA10_holds : LHolds Try.prog (loopAt Try.prog 26 [4, 1]) jA10 F := jA_holds 1 (by decide)

noncomputable def jB00 : LSpec := { n := 41, next := 9, pat := [(0, .yieldf 7), (2, .ptr 13 0), (6, .sslice 17 (.var 3) (.var 4) (.var 5) false), (7, .sint .i64 (.var 4)), (8, .sint .i64 (.var 0))], rows := [zHa13, zHa0, zHa6, zHa22, zHa25], pre := [(.le (.int 0) (.var 0), true), (.le (.var 0) (.var 4), true), (.le (.int 0) (.var 3), true), (.le zHa11 (.var 6), true), (.le (.var 4) (.var 5), true), (.le zHa11 (.int 20000), true), (.same (.var 7) (.fn 9 zHa19), true), (.eq (.var 8) zHa16, true), (.eq (.var 9) (.fn 11 zHa19), true), (.le (.int 1) (.fn 21 txHa44), false), (.le (.int 1) zHa64, true)], x := 0, fin := [], frows := [zHa13, zHa1, zHa6, zHa67, zHa62], same := [1, 7, 9, 13], chg := [0, 2, 5, 6, 7, 8, 9, 10, 11, 12, 13, 14, 15, 16, 17, 18, 19, 20, 21, 22, 23, 24, 25, 26, 27, 28, 29, 30, 31, 32, 33, 34, 35, 36, 37, 38, 39, 40] }
noncomputable def jB01 : LSpec := { n := 41, next := 9, pat := [(0, .yieldf 7), (2, .ptr 13 0), (6, .sslice 17 (.var 3) (.var 4) (.var 5) false), (7, .sint .i64 (.var 4)), (8, .sint .i64 (.var 0))], rows := [zHa13, zHa0, zHa6, zHa27, zHa25, zHa34], pre := [(.le (.int 0) (.var 0), true), (.le (.var 0) (.var 4), true), (.le (.int 0) (.var 3), true), (.le zHa11 (.var 6), true), (.le (.var 4) (.var 5), true), (.le zHa11 (.int 20000), true), (.same (.var 7) (.fn 9 zHa19), true), (.eq (.var 8) zHa16, true), (.eq (.var 9) (.fn 11 zHa19), true), (.le (.int 1) (.var 11), true), (.le (.var 11) zHa16, true), (.le (.int 1) (.fn 21 txHa44), false)], x := 0, fin := [], frows := [zHa13, zHa1, zHa6, zHa65, zHa58], same := [1, 7, 9, 13], chg := [0, 2, 5, 6, 7, 8, 9, 10, 11, 12, 13, 14, 15, 16, 17, 18, 19, 20, 21, 22, 23, 24, 25, 26, 27, 28, 29, 30, 31, 32, 33, 34, 35, 36, 37, 38, 39, 40] }
noncomputable def jB10 : LSpec := { n := 41, next := 9, pat := [(0, .yieldf 7), (2, .ptr 13 0), (6, .sslice 17 (.var 3) (.var 4) (.var 5) false), (7, .sint .i64 (.var 4)), (8, .sint .i64 (.var 0))], rows := [zHa13, zHa2, zHa6, zHa22, zHa25, zHa32], pre := [(.le (.int 0) (.var 0), true), (.le (.var 0) (.var 4), true), (.le (.int 0) (.var 3), true), (.le zHa11 (.var 6), true), (.le (.var 4) (.var 5), true), (.le zHa11 (.int 20000), true), (.same (.var 7) (.fn 9 zHa19), true), (.eq (.var 8) zHa16, true), (.eq (.var 9) (.fn 11 zHa19), true), (.le (.int 1) (.var 1), true), (.le (.var 1) (.int 1023), true), (.le (.var 1) zHa16, true), (.le (.int 1) (.fn 21 txHa45), false), (.le (.int 1) zHa69, true)], x := 0, fin := [], frows := [zHa13, zHa1, zHa6, zHa68, zHa63], same := [1, 7, 9, 13], chg := [0, 2, 5, 6, 7, 8, 9, 10, 11, 12, 13, 14, 15, 16, 17, 18, 19, 20, 21, 22, 23, 24, 25, 26, 27, 28, 29, 30, 31, 32, 33, 34, 35, 36, 37, 38, 39, 40] }
noncomputable def jB11 : LSpec := { n := 41, next := 9, pat := [(0, .yieldf 7), (2, .ptr 13 0), (6, .sslice 17 (.var 3) (.var 4) (.var 5) false), (7, .sint .i64 (.var 4)), (8, .sint .i64 (.var 0))], rows := [zHa13, zHa2, zHa6, zHa27, zHa25, zHa32, zHa34], pre := [(.le (.int 0) (.var 0), true), (.le (.var 0) (.var 4), true), (.le (.int 0) (.var 3), true), (.le zHa11 (.var 6), true), (.le (.var 4) (.var 5), true), (.le zHa11 (.int 20000), true), (.same (.var 7) (.fn 9 zHa19), true), (.eq (.var 8) zHa16, true), (.eq (.var 9) (.fn 11 zHa19), true), (.le (.int 1) (.var 1), true), (.le (.var 1) (.int 1023), true), (.le (.var 1) zHa16, true), (.le (.int 1) (.var 11), true), (.le (.var 11) zHa16, true), (.le (.int 1) (.fn 21 txHa45), false)], x := 0, fin := [], frows := [zHa13, zHa1, zHa6, zHa66, zHa59], same := [1, 7, 9, 13], chg := [0, 2, 5, 6, 7, 8, 9, 10, 11, 12, 13, 14, 15, 16, 17, 18, 19, 20, 21, 22, 23, 24, 25, 26, 27, 28, 29, 30, 31, 32, 33, 34, 35, 36, 37, 38, 39, 40] }
noncomputable def jB : Nat → LSpec
 | 0 => jB00
 | 1 => jB01
 | 2 => jB10
 | _ => jB11
def jB00_t0 : List (Q × Bool) := [asHa0, asHa1, asHa2, asHa3, asHa4, asHa5, asHa6, asHa7, asHa8, asHa9]
def jB00_d0 : List Duty := [zHa15, zHa15, zHa15, zHa30]
def jB00_h0 : List (Nat × E) := [(10, zHa14), (6, (.var 6)), (2, (.var 2)), (1, (.int 1)), (9, txHa59), (8, zHa4), (7, txHa18), (0, zHa3), (3, (.var 3)), (4, (.var 4)), (5, (.var 5))]
theorem jB00_h0_a : lookE jB00_h0 0 = zHa3 ∧ lookE jB00_h0 1 = (.int 1) ∧ lookE jB00_h0 2 = (.var 2) ∧ lookE jB00_h0 3 = (.var 3) ∧ lookE jB00_h0 4 = (.var 4) ∧ lookE jB00_h0 5 = (.var 5) ∧ lookE jB00_h0 6 = (.var 6) ∧ lookE jB00_h0 7 = txHa18 ∧ lookE jB00_h0 8 = zHa4 ∧ lookE jB00_h0 9 = txHa59 ∧ lookE jB00_h0 10 = zHa14 := ⟨rfl, rfl, rfl, rfl, rfl, rfl, rfl, rfl, rfl, rfl, rfl⟩
theorem jB00_y0 : nextJ (jB 0) (jB 2) jB00_h0 [(9, 9), (3, 21), (1, 1), (17, 17), (13, 13), (7, 7)] (roundC Try.prog [] [] [] 3000 40 26 [4, 1] (tellA jB00_t0) (jB 0)) = some jB00_d0 := by kernel_rfl
def jB00_t1 : List (Q × Bool) := [asHa0, asHa1, asHa2, asHa3, asHa4, asHa5, asHa10, asHa7, asHa8, asHa9]
def jB00_d1 : List Duty := [zHa15, zHa15, zHa15, zHa30]
def jB00_h1 : List (Nat × E) := [(10, zHa14), (6, (.var 6)), (2, (.var 2)), (1, (.int 1)), (9, zHa5), (8, zHa4), (7, txHa18), (0, zHa3), (3, (.var 3)), (4, (.var 4)), (5, (.var 5))]
theorem jB00_h1_a : lookE jB00_h1 0 = zHa3 ∧ lookE jB00_h1 1 = (.int 1) ∧ lookE jB00_h1 2 = (.var 2) ∧ lookE jB00_h1 3 = (.var 3) ∧ lookE jB00_h1 4 = (.var 4) ∧ lookE jB00_h1 5 = (.var 5) ∧ lookE jB00_h1 6 = (.var 6) ∧ lookE jB00_h1 7 = txHa18 ∧ lookE jB00_h1 8 = zHa4 ∧ lookE jB00_h1 9 = zHa5 ∧ lookE jB00_h1 10 = zHa14 := ⟨rfl, rfl, rfl, rfl, rfl, rfl, rfl, rfl, rfl, rfl, rfl⟩
theorem jB00_y1 : nextJ (jB 0) (jB 2) jB00_h1 [(9, 9), (3, 21), (1, 1), (17, 17), (13, 13), (7, 7)] (roundC Try.prog [] [] [] 3000 40 26 [4, 1] (tellA jB00_t1) (jB 0)) = some jB00_d1 := by kernel_rfl
def jB01_t0 : List (Q × Bool) := [asHa0, asHa1, asHa2, asHa3, asHa4, asHa5, asHa6, asHa7, asHa8, asHa9]
def jB01_d0 : List Duty := [(true, txHa70, txHa60), (true, txHa70, txHa60), (true, txHa70, txHa60), (false, txHa71, txHa62)]
def jB01_h0 : List (Nat × E) := [(12, (.var 12)), (10, zHa14), (6, (.var 6)), (2, (.var 2)), (11, (.var 11)), (1, (.int 1)), (9, txHa59), (8, zHa4), (7, txHa18), (0, zHa3), (3, (.var 3)), (4, (.var 4)), (5, (.var 5))]
theorem jB01_h0_a : lookE jB01_h0 0 = zHa3 ∧ lookE jB01_h0 1 = (.int 1) ∧ lookE jB01_h0 2 = (.var 2) ∧ lookE jB01_h0 3 = (.var 3) ∧ lookE jB01_h0 4 = (.var 4) ∧ lookE jB01_h0 5 = (.var 5) ∧ lookE jB01_h0 6 = (.var 6) ∧ lookE jB01_h0 7 = txHa18 ∧ lookE jB01_h0 8 = zHa4 ∧ lookE jB01_h0 9 = txHa59 ∧ lookE jB01_h0 10 = zHa14 ∧ lookE jB01_h0 11 = (.var 11) ∧ lookE jB01_h0 12 = (.var 12) := ⟨rfl, rfl, rfl, rfl, rfl, rfl, rfl, rfl, rfl, rfl, rfl, rfl, rfl⟩
theorem jB01_y0 : nextJ (jB 1) (jB 3) jB01_h0 [(11, 11), (9, 9), (3, 21), (1, 1), (17, 17), (13, 13), (7, 7)] (roundC Try.prog [] [] [] 3000 40 26 [4, 1] (tellA jB01_t0) (jB 1)) = some jB01_d0 := by kernel_rfl
def jB01_t1 : List (Q × Bool) := [asHa0, asHa1, asHa2, asHa3, asHa4, asHa5, asHa10, asHa7, asHa8, asHa9]
def jB01_d1 : List Duty := [(true, txHa70, txHa60), (true, txHa70, txHa60), (true, txHa70, txHa60), (false, txHa71, txHa62)]
def jB01_h1 : List (Nat × E) := [(12, (.var 12)), (10, zHa14), (6, (.var 6)), (2, (.var 2)), (11, (.var 11)), (1, (.int 1)), (9, zHa5), (8, zHa4), (7, txHa18), (0, zHa3), (3, (.var 3)), (4, (.var 4)), (5, (.var 5))]
theorem jB01_h1_a : lookE jB01_h1 0 = zHa3 ∧ lookE jB01_h1 1 = (.int 1) ∧ lookE jB01_h1 2 = (.var 2) ∧ lookE jB01_h1 3 = (.var 3) ∧ lookE jB01_h1 4 = (.var 4) ∧ lookE jB01_h1 5 = (.var 5) ∧ lookE jB01_h1 6 = (.var 6) ∧ lookE jB01_h1 7 = txHa18 ∧ lookE jB01_h1 8 = zHa4 ∧ lookE jB01_h1 9 = zHa5 ∧ lookE jB01_h1 10 = zHa14 ∧ lookE jB01_h1 11 = (.var 11) ∧ lookE jB01_h1 12 = (.var 12) := ⟨rfl, rfl, rfl, rfl, rfl, rfl, rfl, rfl, rfl, rfl, rfl, rfl, rfl⟩
theorem jB01_y1 : nextJ (jB 1) (jB 3) jB01_h1 [(11, 11), (9, 9), (3, 21), (1, 1), (17, 17), (13, 13), (7, 7)] (roundC Try.prog [] [] [] 3000 40 26 [4, 1] (tellA jB01_t1) (jB 1)) = some jB01_d1 := by kernel_rfl
def jB01_t2 : List (Q × Bool) := [asHa19]
def jB01_d2 : List Duty := [zHa44, zHa45, zHa46, zHa47, zHa48, zHa49, zHa50, zHa51, zHa52, zHa53, zHa38, zHa39, zHa40, zHa41, zHa42, zHa43, (true, (.var 8), zHa11), zHa61, (true, (.var 11), txHa60), (true, (.var 11), txHa60), (true, (.var 11), txHa60), (false, (.un .code (.var 12)), txHa62)]
theorem jB01_y2 : endD (jB 1) [(11, 11), (1, 1), (7, 7), (9, 9), (13, 13)] 1000 (roundC Try.prog [] [] [] 3000 40 26 [4, 1] (tellA jB01_t2) (jB 1)) = some jB01_d2 := by kernel_rfl
def jB10_t0 : List (Q × Bool) := [asHa0, asHa1, asHa2, asHa3, asHa11, asHa12, asHa13, asHa4, asHa5, asHa6, asHa7, asHa8, asHa14, asHa15, asHa16, asHa9]
def jB10_d0 : List Duty := [zHa9, zHa9, zHa9, zHa23]
def jB10_h0 : List (Nat × E) := [(10, txHa17), (6, (.var 6)), (2, (.var 2)), (1, zHa12), (9, txHa59), (8, zHa4), (7, txHa18), (0, zHa3), (3, (.var 3)), (4, (.var 4)), (5, (.var 5))]
theorem jB10_h0_a : lookE jB10_h0 0 = zHa3 ∧ lookE jB10_h0 1 = zHa12 ∧ lookE jB10_h0 2 = (.var 2) ∧ lookE jB10_h0 3 = (.var 3) ∧ lookE jB10_h0 4 = (.var 4) ∧ lookE jB10_h0 5 = (.var 5) ∧ lookE jB10_h0 6 = (.var 6) ∧ lookE jB10_h0 7 = txHa18 ∧ lookE jB10_h0 8 = zHa4 ∧ lookE jB10_h0 9 = txHa59 ∧ lookE jB10_h0 10 = txHa17 := ⟨rfl, rfl, rfl, rfl, rfl, rfl, rfl, rfl, rfl, rfl, rfl⟩
theorem jB10_y0 : nextJ (jB 2) (jB 2) jB10_h0 [(9, 9), (3, 21), (1, 1), (17, 17), (13, 13), (7, 7)] (roundC Try.prog [] [] [] 3000 40 26 [4, 1] (tellA jB10_t0) (jB 2)) = some jB10_d0 := by kernel_rfl
def jB10_t1 : List (Q × Bool) := [asHa0, asHa1, asHa2, asHa3, asHa11, asHa12, asHa13, asHa4, asHa5, asHa10, asHa7, asHa8, asHa14, asHa15, asHa16, asHa9]
def jB10_d1 : List Duty := [zHa9, zHa9, zHa9, zHa23]
def jB10_h1 : List (Nat × E) := [(10, txHa17), (6, (.var 6)), (2, (.var 2)), (1, zHa12), (9, zHa5), (8, zHa4), (7, txHa18), (0, zHa3), (3, (.var 3)), (4, (.var 4)), (5, (.var 5))]
theorem jB10_h1_a : lookE jB10_h1 0 = zHa3 ∧ lookE jB10_h1 1 = zHa12 ∧ lookE jB10_h1 2 = (.var 2) ∧ lookE jB10_h1 3 = (.var 3) ∧ lookE jB10_h1 4 = (.var 4) ∧ lookE jB10_h1 5 = (.var 5) ∧ lookE jB10_h1 6 = (.var 6) ∧ lookE jB10_h1 7 = txHa18 ∧ lookE jB10_h1 8 = zHa4 ∧ lookE jB10_h1 9 = zHa5 ∧ lookE jB10_h1 10 = txHa17 := ⟨rfl, rfl, rfl, rfl, rfl, rfl, rfl, rfl, rfl, rfl, rfl⟩
theorem jB10_y1 : nextJ (jB 2) (jB 2) jB10_h1 [(9, 9), (3, 21), (1, 1), (17, 17), (13, 13), (7, 7)] (roundC Try.prog [] [] [] 3000 40 26 [4, 1] (tellA jB10_t1) (jB 2)) = some jB10_d1 := by kernel_rfl
def jB10_t2 : List (Q × Bool) := [asHa0, asHa1, asHa2, asHa3, asHa11, asHa12, asHa13, asHa4, asHa5, asHa10, asHa7, asHa8, asHa14, asHa15, asHa17, asHa18, asHa9]
def jB10_d2 : List Duty := [zHa9, zHa9, zHa9, zHa23]
def jB10_h2 : List (Nat × E) := [(10, txHa17), (6, (.var 6)), (2, (.var 2)), (1, zHa12), (9, zHa5), (8, zHa4), (7, txHa18), (0, zHa3), (3, (.var 3)), (4, (.var 4)), (5, (.var 5))]
theorem jB10_h2_a : lookE jB10_h2 0 = zHa3 ∧ lookE jB10_h2 1 = zHa12 ∧ lookE jB10_h2 2 = (.var 2) ∧ lookE jB10_h2 3 = (.var 3) ∧ lookE jB10_h2 4 = (.var 4) ∧ lookE jB10_h2 5 = (.var 5) ∧ lookE jB10_h2 6 = (.var 6) ∧ lookE jB10_h2 7 = txHa18 ∧ lookE jB10_h2 8 = zHa4 ∧ lookE jB10_h2 9 = zHa5 ∧ lookE jB10_h2 10 = txHa17 := ⟨rfl, rfl, rfl, rfl, rfl, rfl, rfl, rfl, rfl, rfl, rfl⟩
theorem jB10_y2 : nextJ (jB 2) (jB 2) jB10_h2 [(9, 9), (3, 21), (1, 1), (17, 17), (13, 13), (7, 7)] (roundC Try.prog [] [] [] 3000 40 26 [4, 1] (tellA jB10_t2) (jB 2)) = some jB10_d2 := by kernel_rfl
abbrev asHa20 : Q × Bool := ((.le (.int 16777216) zHa5), false)
def jB10_t3 : List (Q × Bool) := [asHa0, asHa1, asHa2, asHa3, asHa11, asHa12, asHa13, asHa4, asHa5, asHa10, asHa7, asHa8, asHa14, asHa15, asHa17, asHa20, asHa9]
def jB10_d3 : List Duty := [zHa20, zHa20, zHa20, zHa35]
def jB10_h3 : List (Nat × E) := [(12, zHa28), (6, (.var 6)), (2, (.var 2)), (11, (.int 1)), (9, zHa5), (8, zHa4), (7, txHa18), (0, zHa3), (3, (.var 3)), (4, (.var 4)), (5, (.var 5))]
theorem jB10_h3_a : lookE jB10_h3 0 = zHa3 ∧ lookE jB10_h3 2 = (.var 2) ∧ lookE jB10_h3 3 = (.var 3) ∧ lookE jB10_h3 4 = (.var 4) ∧ lookE jB10_h3 5 = (.var 5) ∧ lookE jB10_h3 6 = (.var 6) ∧ lookE jB10_h3 7 = txHa18 ∧ lookE jB10_h3 8 = zHa4 ∧ lookE jB10_h3 9 = zHa5 ∧ lookE jB10_h3 11 = (.int 1) ∧ lookE jB10_h3 12 = zHa28 := ⟨rfl, rfl, rfl, rfl, rfl, rfl, rfl, rfl, rfl, rfl, rfl⟩
theorem jB10_y3 : nextJ (jB 2) (jB 1) jB10_h3 [(11, 25), (9, 9), (1, 1), (17, 17), (13, 13), (7, 7)] (roundC Try.prog [] [] [] 3000 40 26 [4, 1] (tellA jB10_t3) (jB 2)) = some jB10_d3 := by kernel_rfl
abbrev asHa21 : Q × Bool := ((.eq zHa12 (.int 1024)), true)
def jB10_t4 : List (Q × Bool) := [asHa0, asHa1, asHa2, asHa3, asHa11, asHa12, asHa13, asHa4, asHa5, asHa10, asHa7, asHa8, asHa14, asHa21, asHa9]
def jB10_d4 : List Duty := [zHa20, zHa20, zHa20, zHa35]
def jB10_h4 : List (Nat × E) := [(12, zHa28), (6, (.var 6)), (2, (.var 2)), (11, (.int 1)), (9, zHa5), (8, zHa4), (7, txHa18), (0, zHa3), (3, (.var 3)), (4, (.var 4)), (5, (.var 5))]
theorem jB10_h4_a : lookE jB10_h4 0 = zHa3 ∧ lookE jB10_h4 2 = (.var 2) ∧ lookE jB10_h4 3 = (.var 3) ∧ lookE jB10_h4 4 = (.var 4) ∧ lookE jB10_h4 5 = (.var 5) ∧ lookE jB10_h4 6 = (.var 6) ∧ lookE jB10_h4 7 = txHa18 ∧ lookE jB10_h4 8 = zHa4 ∧ lookE jB10_h4 9 = zHa5 ∧ lookE jB10_h4 11 = (.int 1) ∧ lookE jB10_h4 12 = zHa28 := ⟨rfl, rfl, rfl, rfl, rfl, rfl, rfl, rfl, rfl, rfl, rfl⟩
theorem jB10_y4 : nextJ (jB 2) (jB 1) jB10_h4 [(11, 25), (9, 9), (1, 1), (17, 17), (13, 13), (7, 7)] (roundC Try.prog [] [] [] 3000 40 26 [4, 1] (tellA jB10_t4) (jB 2)) = some jB10_d4 := by kernel_rfl
def jB11_t0 : List (Q × Bool) := [asHa0, asHa1, asHa2, asHa3, asHa11, asHa12, asHa13, asHa4, asHa5, asHa6, asHa7, asHa8, asHa14, asHa15, asHa16, asHa9]
def jB11_d0 : List Duty := [(true, txHa74, txHa58), (true, txHa74, txHa58), (true, txHa74, txHa58), (false, txHa75, txHa61)]
def jB11_h0 : List (Nat × E) := [(12, (.var 12)), (10, txHa17), (6, (.var 6)), (2, (.var 2)), (11, (.var 11)), (1, zHa12), (9, txHa59), (8, zHa4), (7, txHa18), (0, zHa3), (3, (.var 3)), (4, (.var 4)), (5, (.var 5))]
theorem jB11_h0_a : lookE jB11_h0 0 = zHa3 ∧ lookE jB11_h0 1 = zHa12 ∧ lookE jB11_h0 2 = (.var 2) ∧ lookE jB11_h0 3 = (.var 3) ∧ lookE jB11_h0 4 = (.var 4) ∧ lookE jB11_h0 5 = (.var 5) ∧ lookE jB11_h0 6 = (.var 6) ∧ lookE jB11_h0 7 = txHa18 ∧ lookE jB11_h0 8 = zHa4 ∧ lookE jB11_h0 9 = txHa59 ∧ lookE jB11_h0 10 = txHa17 ∧ lookE jB11_h0 11 = (.var 11) ∧ lookE jB11_h0 12 = (.var 12) := ⟨rfl, rfl, rfl, rfl, rfl, rfl, rfl, rfl, rfl, rfl, rfl, rfl, rfl⟩
theorem jB11_y0 : nextJ (jB 3) (jB 3) jB11_h0 [(11, 11), (9, 9), (3, 21), (1, 1), (17, 17), (13, 13), (7, 7)] (roundC Try.prog [] [] [] 3000 40 26 [4, 1] (tellA jB11_t0) (jB 3)) = some jB11_d0 := by kernel_rfl
def jB11_t1 : List (Q × Bool) := [asHa0, asHa1, asHa2, asHa3, asHa11, asHa12, asHa13, asHa4, asHa5, asHa10, asHa7, asHa8, asHa14, asHa15, asHa16, asHa9]
def jB11_d1 : List Duty := [(true, txHa74, txHa58), (true, txHa74, txHa58), (true, txHa74, txHa58), (false, txHa75, txHa61)]
def jB11_h1 : List (Nat × E) := [(12, (.var 12)), (10, txHa17), (6, (.var 6)), (2, (.var 2)), (11, (.var 11)), (1, zHa12), (9, zHa5), (8, zHa4), (7, txHa18), (0, zHa3), (3, (.var 3)), (4, (.var 4)), (5, (.var 5))]
theorem jB11_h1_a : lookE jB11_h1 0 = zHa3 ∧ lookE jB11_h1 1 = zHa12 ∧ lookE jB11_h1 2 = (.var 2) ∧ lookE jB11_h1 3 = (.var 3) ∧ lookE jB11_h1 4 = (.var 4) ∧ lookE jB11_h1 5 = (.var 5) ∧ lookE jB11_h1 6 = (.var 6) ∧ lookE jB11_h1 7 = txHa18 ∧ lookE jB11_h1 8 = zHa4 ∧ lookE jB11_h1 9 = zHa5 ∧ lookE jB11_h1 10 = txHa17 ∧ lookE jB11_h1 11 = (.var 11) ∧ lookE jB11_h1 12 = (.var 12) := ⟨rfl, rfl, rfl, rfl, rfl, rfl, rfl, rfl, rfl, rfl, rfl, rfl, rfl⟩
theorem jB11_y1 : nextJ (jB 3) (jB 3) jB11_h1 [(11, 11), (9, 9), (3, 21), (1, 1), (17, 17), (13, 13), (7, 7)] (roundC Try.prog [] [] [] 3000 40 26 [4, 1] (tellA jB11_t1) (jB 3)) = some jB11_d1 := by kernel_rfl
def jB11_t2 : List (Q × Bool) := [asHa0, asHa1, asHa2, asHa3, asHa11, asHa12, asHa13, asHa4, asHa5, asHa10, asHa7, asHa8, asHa14, asHa15, asHa17, asHa18, asHa9]
def jB11_d2 : List Duty := [(true, txHa74, txHa58), (true, txHa74, txHa58), (true, txHa74, txHa58), (false, txHa75, txHa61)]
def jB11_h2 : List (Nat × E) := [(12, (.var 12)), (10, txHa17), (6, (.var 6)), (2, (.var 2)), (11, (.var 11)), (1, zHa12), (9, zHa5), (8, zHa4), (7, txHa18), (0, zHa3), (3, (.var 3)), (4, (.var 4)), (5, (.var 5))]
theorem jB11_h2_a : lookE jB11_h2 0 = zHa3 ∧ lookE jB11_h2 1 = zHa12 ∧ lookE jB11_h2 2 = (.var 2) ∧ lookE jB11_h2 3 = (.var 3) ∧ lookE jB11_h2 4 = (.var 4) ∧ lookE jB11_h2 5 = (.var 5) ∧ lookE jB11_h2 6 = (.var 6) ∧ lookE jB11_h2 7 = txHa18 ∧ lookE jB11_h2 8 = zHa4 ∧ lookE jB11_h2 9 = zHa5 ∧ lookE jB11_h2 10 = txHa17 ∧ lookE jB11_h2 11 = (.var 11) ∧ lookE jB11_h2 12 = (.var 12) := ⟨rfl, rfl, rfl, rfl, rfl, rfl, rfl, rfl, rfl, rfl, rfl, rfl, rfl⟩
theorem jB11_y2 : nextJ (jB 3) (jB 3) jB11_h2 [(11, 11), (9, 9), (3, 21), (1, 1), (17, 17), (13, 13), (7, 7)] (roundC Try.prog [] [] [] 3000 40 26 [4, 1] (tellA jB11_t2) (jB 3)) = some jB11_d2 := by kernel_rfl
abbrev asHa22 : Q × Bool := ((.le (.bi .mul zHa26 (.int 48)) (.int 281474976710656)), true)
def jB11_t3 : List (Q × Bool) := [asHa0, asHa1, asHa2, asHa3, asHa11, asHa12, asHa13, asHa4, asHa5, asHa10, asHa7, asHa8, asHa14, asHa15, asHa17, asHa20, asHa22, asHa9]
def jB11_d3 : List Duty := [(true, txHa65, txHa58), (true, txHa65, txHa58), (true, txHa65, txHa58), zHa60]
def jB11_h3 : List (Nat × E) := [(12, zHa29), (6, (.var 6)), (2, (.var 2)), (11, zHa26), (9, zHa5), (8, zHa4), (7, txHa18), (0, zHa3), (3, (.var 3)), (4, (.var 4)), (5, (.var 5))]
theorem jB11_h3_a : lookE jB11_h3 0 = zHa3 ∧ lookE jB11_h3 2 = (.var 2) ∧ lookE jB11_h3 3 = (.var 3) ∧ lookE jB11_h3 4 = (.var 4) ∧ lookE jB11_h3 5 = (.var 5) ∧ lookE jB11_h3 6 = (.var 6) ∧ lookE jB11_h3 7 = txHa18 ∧ lookE jB11_h3 8 = zHa4 ∧ lookE jB11_h3 9 = zHa5 ∧ lookE jB11_h3 11 = zHa26 ∧ lookE jB11_h3 12 = zHa29 := ⟨rfl, rfl, rfl, rfl, rfl, rfl, rfl, rfl, rfl, rfl, rfl⟩
theorem jB11_y3 : nextJ (jB 3) (jB 1) jB11_h3 [(11, 25), (9, 9), (1, 1), (17, 17), (13, 13), (7, 7)] (roundC Try.prog [] [] [] 3000 40 26 [4, 1] (tellA jB11_t3) (jB 3)) = some jB11_d3 := by kernel_rfl
def jB11_t4 : List (Q × Bool) := [asHa0, asHa1, asHa2, asHa3, asHa11, asHa12, asHa13, asHa4, asHa5, asHa10, asHa7, asHa8, asHa14, asHa21, asHa22, asHa9]
def jB11_d4 : List Duty := [(true, txHa65, txHa58), (true, txHa65, txHa58), (true, txHa65, txHa58), zHa60]
def jB11_h4 : List (Nat × E) := [(12, zHa29), (6, (.var 6)), (2, (.var 2)), (11, zHa26), (9, zHa5), (8, zHa4), (7, txHa18), (0, zHa3), (3, (.var 3)), (4, (.var 4)), (5, (.var 5))]
theorem jB11_h4_a : lookE jB11_h4 0 = zHa3 ∧ lookE jB11_h4 2 = (.var 2) ∧ lookE jB11_h4 3 = (.var 3) ∧ lookE jB11_h4 4 = (.var 4) ∧ lookE jB11_h4 5 = (.var 5) ∧ lookE jB11_h4 6 = (.var 6) ∧ lookE jB11_h4 7 = txHa18 ∧ lookE jB11_h4 8 = zHa4 ∧ lookE jB11_h4 9 = zHa5 ∧ lookE jB11_h4 11 = zHa26 ∧ lookE jB11_h4 12 = zHa29 := ⟨rfl, rfl, rfl, rfl, rfl, rfl, rfl, rfl, rfl, rfl, rfl⟩
theorem jB11_y4 : nextJ (jB 3) (jB 1) jB11_h4 [(11, 25), (9, 9), (1, 1), (17, 17), (13, 13), (7, 7)] (roundC Try.prog [] [] [] 3000 40 26 [4, 1] (tellA jB11_t4) (jB 3)) = some jB11_d4 := by kernel_rfl
set_option maxHeartbeats 16000000 in
theorem jB_holds : ∀ i, i < 4 → LHolds Try.prog (loopAt Try.prog 26 [4, 1]) (jB i) F := by
 refine loop_famC sound (tableNil _ _) (specsNil _ _) (oversNil _ _) (fuel := 3000) (depth := 40) (by kernel_rfl) (fun i d => match i with | 0 => ((d 4).toInt - (d 0).toInt).toNat | 1 => ((d 4).toInt - (d 0).toInt).toNat | 2 => ((d 4).toInt - (d 0).toInt).toNat | _ => ((d 4).toInt - (d 0).toInt).toNat) ?_
 intro i hi d hp hR hA
 match i, hi with
 | 0, _ =>
   have hp := allTold'_iff.2 hp
   simp only [jB, jB00, tl] at hp hR hA
   simp only [gq, D.toInt_int, D.ints_ofInts, UO.den] at hp
   obtain ⟨p1, p2, p3, p4, p5, p6, p7, p8, p9, pf, pz⟩ := hp
   have hb : True := trivial
   by_cases h : (d 4).toInt ≤ (d 0).toInt
   ·exfalso
    have ce := cuts_end (x := (d 2).ints) (o := (0 : Int)) (t := (d 3).toInt + (d 4).toInt) (i := (d 3).toInt + (d 0).toInt) (n := 0) (by omega)
    simp only [ce, List.length_nil] at pf pz
    all_goals omega
   ·obtain ⟨wf, wn, el, hr, hy, hz, e6, e7, e8, er⟩ := comm (Int.le_refl 0) (by omega : 0 ≤ (d 3).toInt + (d 0).toInt) (by omega : (d 3).toInt + (d 0).toInt < (d 3).toInt + (d 4).toInt) (by omega) p7 p9 p8
    have ea : (d 3).toInt + ((d 0).toInt + 1) = (d 3).toInt + (d 0).toInt + 1 := by omega
    have ly := @lfy (d 2) (0 : Int) ((d 3).toInt + (d 4).toInt) ((d 3).toInt + (d 0).toInt) (0) (D.ofInts []) (by omega)
    have ln := @lfn (d 2) (0 : Int) ((d 3).toInt + (d 4).toInt) ((d 3).toInt + (d 0).toInt) (0) (D.ofInts []) (by omega)
    simp only [rollI, stepI, wI, Int.zero_add] at wf wn
    simp only [Int.zero_add] at hr hy hz ly ln
    by_cases f : 16 ≤ (d 3).toInt + (d 0).toInt
    ·have hw := wf f
     obtain ⟨cn, cc, ci⟩ := ln (by omega)
     rw [cn] at pf pz
     refine ⟨tellA jB00_t1, tellA_ok (allTold'_iff.1 ?_), .inr ⟨2, jB00_h1, _, _, by decide, jB00_y1, dutiesTold_ok ?_, allTold'_iff.1 ?_, ?_⟩⟩
     all_goals (try simp only [jB00_t1, jB00_d1, jB, jB00, jB01, jB10, jB11, jB00_h1_a, ea, gq, er, hw, e6, e8, cn, cc, tl]); all_goals try simp only [hy, getT, ofInts0, cg, Int.zero_add]
     all_goals first | done | omega | (and_intros <;> first | exact True.intro | rfl | omega | exact hr.symm | exact last_cut3 (by omega) | assumption)
    ·have hw := wn f
     obtain ⟨cn, cc, ci⟩ := ln (by omega)
     rw [cn] at pf pz
     refine ⟨tellA jB00_t0, tellA_ok (allTold'_iff.1 ?_), .inr ⟨2, jB00_h0, _, _, by decide, jB00_y0, dutiesTold_ok ?_, allTold'_iff.1 ?_, ?_⟩⟩
     all_goals (try simp only [jB00_t0, jB00_d0, jB, jB00, jB01, jB10, jB11, jB00_h0_a, ea, gq, er, hw, e6, e8, cn, cc, tl]); all_goals try simp only [hy, getT, ofInts0, cg, Int.zero_add]
     all_goals first | done | omega | (and_intros <;> first | exact True.intro | rfl | omega | exact hr.symm | exact last_cut3 (by omega) | assumption)
 | 1, _ =>
   have hp := allTold'_iff.2 hp
   simp only [jB, jB01, tl] at hp hR hA
   simp only [gq, D.toInt_int, D.ints_ofInts, UO.den] at hp
   obtain ⟨p1, p2, p3, p4, p5, p6, p7, p8, p9, p10, p11, pf⟩ := hp
   have h12 : (d 12).ints.length = (d 12).toList.length := List.length_map ..
   have hb : (d 12).toList ≠ [] := fun e => by have := congrArg List.length e; simp only [List.length_nil] at this; omega
   by_cases h : (d 4).toInt ≤ (d 0).toInt
   ·have ce := cuts_end (x := (d 2).ints) (o := (0 : Int)) (t := (d 3).toInt + (d 4).toInt) (i := (d 3).toInt + (d 0).toInt) (n := 0) (by omega)
    have cf := ch_end (x := d 2) (o := (0 : Int)) (t := (d 3).toInt + (d 4).toInt) (i := (d 3).toInt + (d 0).toInt) (n := 0) (l := (D.ofInts [])) (by omega)
    have i4 : (d 3).toInt + (d 0).toInt = (d 3).toInt + (d 4).toInt := by omega
    rw [← i4] at ce cf
    refine ⟨tellA jB01_t2, tellA_ok (allTold'_iff.1 ?_), .inl ⟨_, _, _, jB01_y2, dutiesTold_ok ?_⟩⟩
    ·simp only [jB01_t2, tl]
     omega
    ·simp only [jB01_d2, gq, ← i4, tl]
     (try simp only [← i4, ce, cf, p7, Int.natCast_zero, Int.add_zero, prt_nil (x := (d 2).ints) (o := (0 : Int) + ((d 3).toInt + (d 0).toInt)) (t := (0 : Int) + ((d 3).toInt + (d 0).toInt)) (by omega) (by omega), List.append_nil, List.length_nil, D.ints_ofInts, Int.zero_add, prt_nil (x := (d 2).ints) (o := (d 3).toInt + (d 0).toInt) (t := (d 3).toInt + (d 0).toInt) (by omega) (by omega)]); first | done | (and_intros <;> first | exact True.intro | rfl | omega | exact (last_all (by omega)) | exact (last_all (by omega)).symm | (rw [list_back hb]; done) | exact (congrArg D.code (list_back hb)).symm | assumption)
   ·obtain ⟨wf, wn, el, hr, hy, hz, e6, e7, e8, er⟩ := comm (Int.le_refl 0) (by omega : 0 ≤ (d 3).toInt + (d 0).toInt) (by omega : (d 3).toInt + (d 0).toInt < (d 3).toInt + (d 4).toInt) (by omega) p7 p9 p8
    have ea : (d 3).toInt + ((d 0).toInt + 1) = (d 3).toInt + (d 0).toInt + 1 := by omega
    have ly := @lfy (d 2) (0 : Int) ((d 3).toInt + (d 4).toInt) ((d 3).toInt + (d 0).toInt) (0) (D.ofInts []) (by omega)
    have ln := @lfn (d 2) (0 : Int) ((d 3).toInt + (d 4).toInt) ((d 3).toInt + (d 0).toInt) (0) (D.ofInts []) (by omega)
    simp only [rollI, stepI, wI, Int.zero_add] at wf wn
    simp only [Int.zero_add] at hr hy hz ly ln
    by_cases f : 16 ≤ (d 3).toInt + (d 0).toInt
    ·have hw := wf f
     obtain ⟨cn, cc, ci⟩ := ln (by omega)
     rw [cn] at pf
     refine ⟨tellA jB01_t1, tellA_ok (allTold'_iff.1 ?_), .inr ⟨3, jB01_h1, _, _, by decide, jB01_y1, dutiesTold_ok ?_, allTold'_iff.1 ?_, ?_⟩⟩
     all_goals (try simp only [jB01_t1, jB01_d1, jB, jB00, jB01, jB10, jB11, jB01_h1_a, ea, gq, er, hw, e6, e8, cn, cc, tl]); all_goals try simp only [hy, getT, ofInts0, cg, Int.zero_add]
     all_goals first | done | omega | (and_intros <;> first | exact True.intro | rfl | omega | exact hr.symm | exact last_cut3 (by omega) | assumption)
    ·have hw := wn f
     obtain ⟨cn, cc, ci⟩ := ln (by omega)
     rw [cn] at pf
     refine ⟨tellA jB01_t0, tellA_ok (allTold'_iff.1 ?_), .inr ⟨3, jB01_h0, _, _, by decide, jB01_y0, dutiesTold_ok ?_, allTold'_iff.1 ?_, ?_⟩⟩
     all_goals (try simp only [jB01_t0, jB01_d0, jB, jB00, jB01, jB10, jB11, jB01_h0_a, ea, gq, er, hw, e6, e8, cn, cc, tl]); all_goals try simp only [hy, getT, ofInts0, cg, Int.zero_add]
     all_goals first | done | omega | (and_intros <;> first | exact True.intro | rfl | omega | exact hr.symm | exact last_cut3 (by omega) | assumption)
 | 2, _ =>
   have hp := allTold'_iff.2 hp
   simp only [jB, jB10, tl] at hp hR hA
   simp only [gq, D.toInt_int, D.ints_ofInts, UO.den] at hp
   obtain ⟨p1, p2, p3, p4, p5, p6, p7, p8, p9, p10, p11, p12, pf, pz⟩ := hp
   have hb : True := trivial
   by_cases h : (d 4).toInt ≤ (d 0).toInt
   ·exfalso
    have ce := cuts_end (x := (d 2).ints) (o := (0 : Int)) (t := (d 3).toInt + (d 4).toInt) (i := (d 3).toInt + (d 0).toInt) (n := (d 1).toInt) (by omega)
    simp only [ce, List.length_nil] at pf pz
    all_goals omega
   ·obtain ⟨wf, wn, el, hr, hy, hz, e6, e7, e8, er⟩ := comm (Int.le_refl 0) (by omega : 0 ≤ (d 3).toInt + (d 0).toInt) (by omega : (d 3).toInt + (d 0).toInt < (d 3).toInt + (d 4).toInt) (by omega) p7 p9 p8
    have ea : (d 3).toInt + ((d 0).toInt + 1) = (d 3).toInt + (d 0).toInt + 1 := by omega
    have ly := @lfy (d 2) (0 : Int) ((d 3).toInt + (d 4).toInt) ((d 3).toInt + (d 0).toInt) (d 1).toInt (d 10) (by omega)
    have ln := @lfn (d 2) (0 : Int) ((d 3).toInt + (d 4).toInt) ((d 3).toInt + (d 0).toInt) (d 1).toInt (d 10) (by omega)
    simp only [rollI, stepI, wI, Int.zero_add] at wf wn
    simp only [Int.zero_add] at hr hy hz ly ln
    by_cases q : (d 1).toInt + 1 < 64
    ·by_cases f : 16 ≤ (d 3).toInt + (d 0).toInt
     ·have hw := wf f
      obtain ⟨cn, cc, ci⟩ := ln (by omega)
      rw [cn] at pf pz
      refine ⟨tellA jB10_t1, tellA_ok (allTold'_iff.1 ?_), .inr ⟨2, jB10_h1, _, _, by decide, jB10_y1, dutiesTold_ok ?_, allTold'_iff.1 ?_, ?_⟩⟩
      all_goals (try simp only [jB10_t1, jB10_d1, jB, jB00, jB01, jB10, jB11, jB10_h1_a, ea, gq, er, hw, e6, e8, cn, cc, tl]); all_goals try simp only [hy, getT, ofInts0, cg, Int.zero_add]
      all_goals first | done | omega | (and_intros <;> first | exact True.intro | rfl | omega | exact hr.symm | exact last_cut3 (by omega) | assumption)
     ·have hw := wn f
      obtain ⟨cn, cc, ci⟩ := ln (by omega)
      rw [cn] at pf pz
      refine ⟨tellA jB10_t0, tellA_ok (allTold'_iff.1 ?_), .inr ⟨2, jB10_h0, _, _, by decide, jB10_y0, dutiesTold_ok ?_, allTold'_iff.1 ?_, ?_⟩⟩
      all_goals (try simp only [jB10_t0, jB10_d0, jB, jB00, jB01, jB10, jB11, jB10_h0_a, ea, gq, er, hw, e6, e8, cn, cc, tl]); all_goals try simp only [hy, getT, ofInts0, cg, Int.zero_add]
      all_goals first | done | omega | (and_intros <;> first | exact True.intro | rfl | omega | exact hr.symm | exact last_cut3 (by omega) | assumption)
    ·have hw := wf (by omega)
     by_cases g : (d 1).toInt + 1 = 1024
     ·obtain ⟨cn, cc, ci⟩ := ly (by omega)
      rw [cn] at pf pz
      refine ⟨tellA jB10_t4, tellA_ok (allTold'_iff.1 ?_), .inr ⟨1, jB10_h4, _, _, by decide, jB10_y4, dutiesTold_ok ?_, allTold'_iff.1 ?_, ?_⟩⟩
      all_goals (try simp only [jB10_t4, jB10_d4, jB, jB00, jB01, jB10, jB11, jB10_h4_a, ea, gq, er, hw, e6, e8, cn, cc, tl]); all_goals try simp only [hy, getT, ofInts0, cg, Int.zero_add]
      all_goals first | done | omega | (and_intros <;> first | exact True.intro | rfl | omega | exact hr.symm | exact last_cut3 (by omega) | assumption)
     ·by_cases w : winI (d 2).ints 0 ((d 3).toInt + (d 0).toInt + 1) < 16777216
      ·obtain ⟨cn, cc, ci⟩ := ly (by omega)
       rw [cn] at pf pz
       refine ⟨tellA jB10_t3, tellA_ok (allTold'_iff.1 ?_), .inr ⟨1, jB10_h3, _, _, by decide, jB10_y3, dutiesTold_ok ?_, allTold'_iff.1 ?_, ?_⟩⟩
       all_goals (try simp only [jB10_t3, jB10_d3, jB, jB00, jB01, jB10, jB11, jB10_h3_a, ea, gq, er, hw, e6, e8, cn, cc, tl]); all_goals try simp only [hy, getT, ofInts0, cg, Int.zero_add]
       all_goals first | done | omega | (and_intros <;> first | exact True.intro | rfl | omega | exact hr.symm | exact last_cut3 (by omega) | assumption)
      ·obtain ⟨cn, cc, ci⟩ := ln (by omega)
       rw [cn] at pf pz
       refine ⟨tellA jB10_t2, tellA_ok (allTold'_iff.1 ?_), .inr ⟨2, jB10_h2, _, _, by decide, jB10_y2, dutiesTold_ok ?_, allTold'_iff.1 ?_, ?_⟩⟩
       all_goals (try simp only [jB10_t2, jB10_d2, jB, jB00, jB01, jB10, jB11, jB10_h2_a, ea, gq, er, hw, e6, e8, cn, cc, tl]); all_goals try simp only [hy, getT, ofInts0, cg, Int.zero_add]
       all_goals first | done | omega | (and_intros <;> first | exact True.intro | rfl | omega | exact hr.symm | exact last_cut3 (by omega) | assumption)
 | 3, _ =>
   have hp := allTold'_iff.2 hp
   simp only [jB, jB11, tl] at hp hR hA
   simp only [gq, D.toInt_int, D.ints_ofInts, UO.den] at hp
   obtain ⟨p1, p2, p3, p4, p5, p6, p7, p8, p9, p10, p11, p12, p13, p14, pf⟩ := hp
   have h12 : (d 12).ints.length = (d 12).toList.length := List.length_map ..
   have hb : (d 12).toList ≠ [] := fun e => by have := congrArg List.length e; simp only [List.length_nil] at this; omega
   by_cases h : (d 4).toInt ≤ (d 0).toInt
   ·exfalso
    have ce := cuts_end (x := (d 2).ints) (o := (0 : Int)) (t := (d 3).toInt + (d 4).toInt) (i := (d 3).toInt + (d 0).toInt) (n := (d 1).toInt) (by omega)
    simp only [ce, List.length_nil] at pf
    all_goals omega
   ·obtain ⟨wf, wn, el, hr, hy, hz, e6, e7, e8, er⟩ := comm (Int.le_refl 0) (by omega : 0 ≤ (d 3).toInt + (d 0).toInt) (by omega : (d 3).toInt + (d 0).toInt < (d 3).toInt + (d 4).toInt) (by omega) p7 p9 p8
    have ea : (d 3).toInt + ((d 0).toInt + 1) = (d 3).toInt + (d 0).toInt + 1 := by omega
    have ly := @lfy (d 2) (0 : Int) ((d 3).toInt + (d 4).toInt) ((d 3).toInt + (d 0).toInt) (d 1).toInt (d 10) (by omega)
    have ln := @lfn (d 2) (0 : Int) ((d 3).toInt + (d 4).toInt) ((d 3).toInt + (d 0).toInt) (d 1).toInt (d 10) (by omega)
    simp only [rollI, stepI, wI, Int.zero_add] at wf wn
    simp only [Int.zero_add] at hr hy hz ly ln
    by_cases q : (d 1).toInt + 1 < 64
    ·by_cases f : 16 ≤ (d 3).toInt + (d 0).toInt
     ·have hw := wf f
      obtain ⟨cn, cc, ci⟩ := ln (by omega)
      rw [cn] at pf
      refine ⟨tellA jB11_t1, tellA_ok (allTold'_iff.1 ?_), .inr ⟨3, jB11_h1, _, _, by decide, jB11_y1, dutiesTold_ok ?_, allTold'_iff.1 ?_, ?_⟩⟩
      all_goals (try simp only [jB11_t1, jB11_d1, jB, jB00, jB01, jB10, jB11, jB11_h1_a, ea, gq, er, hw, e6, e8, cn, cc, tl]); all_goals try simp only [hy, getT, ofInts0, cg, Int.zero_add]
      all_goals first | done | omega | (and_intros <;> first | exact True.intro | rfl | omega | exact hr.symm | exact last_cut3 (by omega) | assumption)
     ·have hw := wn f
      obtain ⟨cn, cc, ci⟩ := ln (by omega)
      rw [cn] at pf
      refine ⟨tellA jB11_t0, tellA_ok (allTold'_iff.1 ?_), .inr ⟨3, jB11_h0, _, _, by decide, jB11_y0, dutiesTold_ok ?_, allTold'_iff.1 ?_, ?_⟩⟩
      all_goals (try simp only [jB11_t0, jB11_d0, jB, jB00, jB01, jB10, jB11, jB11_h0_a, ea, gq, er, hw, e6, e8, cn, cc, tl]); all_goals try simp only [hy, getT, ofInts0, cg, Int.zero_add]
      all_goals first | done | omega | (and_intros <;> first | exact True.intro | rfl | omega | exact hr.symm | exact last_cut3 (by omega) | assumption)
    ·have hw := wf (by omega)
     by_cases g : (d 1).toInt + 1 = 1024
     ·obtain ⟨cn, cc, ci⟩ := ly (by omega)
      rw [cn] at pf
      refine ⟨tellA jB11_t4, tellA_ok (allTold'_iff.1 ?_), .inr ⟨1, jB11_h4, _, _, by decide, jB11_y4, dutiesTold_ok ?_, allTold'_iff.1 ?_, ?_⟩⟩
      all_goals (try simp only [jB11_t4, jB11_d4, jB, jB00, jB01, jB10, jB11, jB11_h4_a, ea, gq, er, hw, e6, e8, cn, cc, tl]); all_goals try simp only [hy, getT, ofInts0, cg, Int.zero_add]
      all_goals first | done | omega | (and_intros <;> first | exact True.intro | rfl | omega | exact hr.symm | exact last_cut3 (by omega) | assumption)
     ·by_cases w : winI (d 2).ints 0 ((d 3).toInt + (d 0).toInt + 1) < 16777216
      ·obtain ⟨cn, cc, ci⟩ := ly (by omega)
       rw [cn] at pf
       refine ⟨tellA jB11_t3, tellA_ok (allTold'_iff.1 ?_), .inr ⟨1, jB11_h3, _, _, by decide, jB11_y3, dutiesTold_ok ?_, allTold'_iff.1 ?_, ?_⟩⟩
       all_goals (try simp only [jB11_t3, jB11_d3, jB, jB00, jB01, jB10, jB11, jB11_h3_a, ea, gq, er, hw, e6, e8, cn, cc, tl]); all_goals try simp only [hy, getT, ofInts0, cg, Int.zero_add]
       all_goals first | done | omega | (and_intros <;> first | exact True.intro | rfl | omega | exact hr.symm | exact last_cut3 (by omega) | assumption)
      ·obtain ⟨cn, cc, ci⟩ := ln (by omega)
       rw [cn] at pf
       refine ⟨tellA jB11_t2, tellA_ok (allTold'_iff.1 ?_), .inr ⟨3, jB11_h2, _, _, by decide, jB11_y2, dutiesTold_ok ?_, allTold'_iff.1 ?_, ?_⟩⟩
       all_goals (try simp only [jB11_t2, jB11_d2, jB, jB00, jB01, jB10, jB11, jB11_h2_a, ea, gq, er, hw, e6, e8, cn, cc, tl]); all_goals try simp only [hy, getT, ofInts0, cg, Int.zero_add]
       all_goals first | done | omega | (and_intros <;> first | exact True.intro | rfl | omega | exact hr.symm | exact last_cut3 (by omega) | assumption)
theorem jB00_holds : LHolds Try.prog (loopAt Try.prog 26 [4, 1]) jB00 F := jB_holds 0 (by decide)
theorem jB01_holds : LHolds Try.prog (loopAt Try.prog 26 [4, 1]) jB01 F := jB_holds 1 (by decide)
theorem jB10_holds : LHolds Try.prog (loopAt Try.prog 26 [4, 1]) jB10 F := jB_holds 2 (by decide)
theorem jB11_holds : LHolds Try.prog (loopAt Try.prog 26 [4, 1]) jB11 F := jB_holds 3 (by decide)

noncomputable def jC00 : LSpec := { n := 41, next := 9, pat := [(0, .yieldf 7), (2, .ptr 13 0), (6, .sslice 17 (.var 3) (.var 4) (.var 5) false), (7, .sint .i64 (.var 4)), (8, .sint .i64 (.var 0))], rows := [zHa13, zHa0, zHa6, zHa22, zHa25], pre := [(.le (.int 0) (.var 0), true), (.le (.var 0) (.var 4), true), (.le (.int 0) (.var 3), true), (.le zHa11 (.var 6), true), (.le (.var 4) (.var 5), true), (.le zHa11 (.int 20000), true), (.same (.var 7) (.fn 9 zHa19), true), (.eq (.var 8) zHa16, true), (.eq (.var 9) (.fn 11 zHa19), true), (.le (.int 1) (.fn 21 txHa44), true), (.le (.int 1) zHa64, true)], x := 0, fin := [], frows := [zHa13, zHa7, zHa6, zHa67, zHa55, zHa62], same := [1, 7, 9, 13], chg := [0, 2, 5, 6, 7, 8, 9, 10, 11, 12, 13, 14, 15, 16, 17, 18, 19, 20, 21, 22, 23, 24, 25, 26, 27, 28, 29, 30, 31, 32, 33, 34, 35, 36, 37, 38, 39, 40] }
noncomputable def jC01 : LSpec := { n := 41, next := 9, pat := [(0, .yieldf 7), (2, .ptr 13 0), (6, .sslice 17 (.var 3) (.var 4) (.var 5) false), (7, .sint .i64 (.var 4)), (8, .sint .i64 (.var 0))], rows := [zHa13, zHa0, zHa6, zHa27, zHa25, zHa34], pre := [(.le (.int 0) (.var 0), true), (.le (.var 0) (.var 4), true), (.le (.int 0) (.var 3), true), (.le zHa11 (.var 6), true), (.le (.var 4) (.var 5), true), (.le zHa11 (.int 20000), true), (.same (.var 7) (.fn 9 zHa19), true), (.eq (.var 8) zHa16, true), (.eq (.var 9) (.fn 11 zHa19), true), (.le (.int 1) (.var 11), true), (.le (.var 11) zHa16, true), (.le (.int 1) (.fn 21 txHa44), true)], x := 0, fin := [], frows := [zHa13, zHa7, zHa6, zHa65, zHa55, zHa58], same := [1, 7, 9, 13], chg := [0, 2, 5, 6, 7, 8, 9, 10, 11, 12, 13, 14, 15, 16, 17, 18, 19, 20, 21, 22, 23, 24, 25, 26, 27, 28, 29, 30, 31, 32, 33, 34, 35, 36, 37, 38, 39, 40] }
noncomputable def jC10 : LSpec := { n := 41, next := 9, pat := [(0, .yieldf 7), (2, .ptr 13 0), (6, .sslice 17 (.var 3) (.var 4) (.var 5) false), (7, .sint .i64 (.var 4)), (8, .sint .i64 (.var 0))], rows := [zHa13, zHa2, zHa6, zHa22, zHa25, zHa32], pre := [(.le (.int 0) (.var 0), true), (.le (.var 0) (.var 4), true), (.le (.int 0) (.var 3), true), (.le zHa11 (.var 6), true), (.le (.var 4) (.var 5), true), (.le zHa11 (.int 20000), true), (.same (.var 7) (.fn 9 zHa19), true), (.eq (.var 8) zHa16, true), (.eq (.var 9) (.fn 11 zHa19), true), (.le (.int 1) (.var 1), true), (.le (.var 1) (.int 1023), true), (.le (.var 1) zHa16, true), (.le (.int 1) (.fn 21 txHa45), true), (.le (.int 1) zHa69, true)], x := 0, fin := [], frows := [zHa13, zHa8, zHa6, zHa68, zHa56, zHa63], same := [1, 7, 9, 13], chg := [0, 2, 5, 6, 7, 8, 9, 10, 11, 12, 13, 14, 15, 16, 17, 18, 19, 20, 21, 22, 23, 24, 25, 26, 27, 28, 29, 30, 31, 32, 33, 34, 35, 36, 37, 38, 39, 40] }
noncomputable def jC11 : LSpec := { n := 41, next := 9, pat := [(0, .yieldf 7), (2, .ptr 13 0), (6, .sslice 17 (.var 3) (.var 4) (.var 5) false), (7, .sint .i64 (.var 4)), (8, .sint .i64 (.var 0))], rows := [zHa13, zHa2, zHa6, zHa27, zHa25, zHa32, zHa34], pre := [(.le (.int 0) (.var 0), true), (.le (.var 0) (.var 4), true), (.le (.int 0) (.var 3), true), (.le zHa11 (.var 6), true), (.le (.var 4) (.var 5), true), (.le zHa11 (.int 20000), true), (.same (.var 7) (.fn 9 zHa19), true), (.eq (.var 8) zHa16, true), (.eq (.var 9) (.fn 11 zHa19), true), (.le (.int 1) (.var 1), true), (.le (.var 1) (.int 1023), true), (.le (.var 1) zHa16, true), (.le (.int 1) (.var 11), true), (.le (.var 11) zHa16, true), (.le (.int 1) (.fn 21 txHa45), true)], x := 0, fin := [], frows := [zHa13, zHa8, zHa6, zHa66, zHa56, zHa59], same := [1, 7, 9, 13], chg := [0, 2, 5, 6, 7, 8, 9, 10, 11, 12, 13, 14, 15, 16, 17, 18, 19, 20, 21, 22, 23, 24, 25, 26, 27, 28, 29, 30, 31, 32, 33, 34, 35, 36, 37, 38, 39, 40] }
noncomputable def jC : Nat → LSpec
 | 0 => jC00
 | 1 => jC01
 | 2 => jC10
 | _ => jC11
def jC00_t0 : List (Q × Bool) := [asHa0, asHa1, asHa2, asHa3, asHa4, asHa5, asHa6, asHa7, asHa8, asHa9]
def jC00_d0 : List Duty := [zHa17, zHa17, zHa15, zHa15, zHa17, zHa31, zHa15, zHa30]
def jC00_h0 : List (Nat × E) := [(10, zHa14), (6, (.var 6)), (2, (.var 2)), (1, (.int 1)), (9, txHa59), (8, zHa4), (7, txHa18), (0, zHa3), (3, (.var 3)), (4, (.var 4)), (5, (.var 5))]
theorem jC00_h0_a : lookE jC00_h0 0 = zHa3 ∧ lookE jC00_h0 1 = (.int 1) ∧ lookE jC00_h0 2 = (.var 2) ∧ lookE jC00_h0 3 = (.var 3) ∧ lookE jC00_h0 4 = (.var 4) ∧ lookE jC00_h0 5 = (.var 5) ∧ lookE jC00_h0 6 = (.var 6) ∧ lookE jC00_h0 7 = txHa18 ∧ lookE jC00_h0 8 = zHa4 ∧ lookE jC00_h0 9 = txHa59 ∧ lookE jC00_h0 10 = zHa14 := ⟨rfl, rfl, rfl, rfl, rfl, rfl, rfl, rfl, rfl, rfl, rfl⟩
theorem jC00_y0 : nextJ (jC 0) (jC 2) jC00_h0 [(9, 9), (3, 21), (1, 1), (17, 17), (13, 13), (7, 7)] (roundC Try.prog [] [] [] 3000 40 26 [4, 1] (tellA jC00_t0) (jC 0)) = some jC00_d0 := by kernel_rfl
def jC00_t1 : List (Q × Bool) := [asHa0, asHa1, asHa2, asHa3, asHa4, asHa5, asHa10, asHa7, asHa8, asHa9]
def jC00_d1 : List Duty := [zHa17, zHa17, zHa15, zHa15, zHa17, zHa31, zHa15, zHa30]
def jC00_h1 : List (Nat × E) := [(10, zHa14), (6, (.var 6)), (2, (.var 2)), (1, (.int 1)), (9, zHa5), (8, zHa4), (7, txHa18), (0, zHa3), (3, (.var 3)), (4, (.var 4)), (5, (.var 5))]
theorem jC00_h1_a : lookE jC00_h1 0 = zHa3 ∧ lookE jC00_h1 1 = (.int 1) ∧ lookE jC00_h1 2 = (.var 2) ∧ lookE jC00_h1 3 = (.var 3) ∧ lookE jC00_h1 4 = (.var 4) ∧ lookE jC00_h1 5 = (.var 5) ∧ lookE jC00_h1 6 = (.var 6) ∧ lookE jC00_h1 7 = txHa18 ∧ lookE jC00_h1 8 = zHa4 ∧ lookE jC00_h1 9 = zHa5 ∧ lookE jC00_h1 10 = zHa14 := ⟨rfl, rfl, rfl, rfl, rfl, rfl, rfl, rfl, rfl, rfl, rfl⟩
theorem jC00_y1 : nextJ (jC 0) (jC 2) jC00_h1 [(9, 9), (3, 21), (1, 1), (17, 17), (13, 13), (7, 7)] (roundC Try.prog [] [] [] 3000 40 26 [4, 1] (tellA jC00_t1) (jC 0)) = some jC00_d1 := by kernel_rfl
def jC01_t0 : List (Q × Bool) := [asHa0, asHa1, asHa2, asHa3, asHa4, asHa5, asHa6, asHa7, asHa8, asHa9]
def jC01_d0 : List Duty := [zHa17, zHa17, (true, txHa70, txHa60), (true, txHa70, txHa60), zHa17, zHa31, (true, txHa70, txHa60), (false, txHa71, txHa62)]
def jC01_h0 : List (Nat × E) := [(12, (.var 12)), (10, zHa14), (6, (.var 6)), (2, (.var 2)), (11, (.var 11)), (1, (.int 1)), (9, txHa59), (8, zHa4), (7, txHa18), (0, zHa3), (3, (.var 3)), (4, (.var 4)), (5, (.var 5))]
theorem jC01_h0_a : lookE jC01_h0 0 = zHa3 ∧ lookE jC01_h0 1 = (.int 1) ∧ lookE jC01_h0 2 = (.var 2) ∧ lookE jC01_h0 3 = (.var 3) ∧ lookE jC01_h0 4 = (.var 4) ∧ lookE jC01_h0 5 = (.var 5) ∧ lookE jC01_h0 6 = (.var 6) ∧ lookE jC01_h0 7 = txHa18 ∧ lookE jC01_h0 8 = zHa4 ∧ lookE jC01_h0 9 = txHa59 ∧ lookE jC01_h0 10 = zHa14 ∧ lookE jC01_h0 11 = (.var 11) ∧ lookE jC01_h0 12 = (.var 12) := ⟨rfl, rfl, rfl, rfl, rfl, rfl, rfl, rfl, rfl, rfl, rfl, rfl, rfl⟩
theorem jC01_y0 : nextJ (jC 1) (jC 3) jC01_h0 [(11, 11), (9, 9), (3, 21), (1, 1), (17, 17), (13, 13), (7, 7)] (roundC Try.prog [] [] [] 3000 40 26 [4, 1] (tellA jC01_t0) (jC 1)) = some jC01_d0 := by kernel_rfl
def jC01_t1 : List (Q × Bool) := [asHa0, asHa1, asHa2, asHa3, asHa4, asHa5, asHa10, asHa7, asHa8, asHa9]
def jC01_d1 : List Duty := [zHa17, zHa17, (true, txHa70, txHa60), (true, txHa70, txHa60), zHa17, zHa31, (true, txHa70, txHa60), (false, txHa71, txHa62)]
def jC01_h1 : List (Nat × E) := [(12, (.var 12)), (10, zHa14), (6, (.var 6)), (2, (.var 2)), (11, (.var 11)), (1, (.int 1)), (9, zHa5), (8, zHa4), (7, txHa18), (0, zHa3), (3, (.var 3)), (4, (.var 4)), (5, (.var 5))]
theorem jC01_h1_a : lookE jC01_h1 0 = zHa3 ∧ lookE jC01_h1 1 = (.int 1) ∧ lookE jC01_h1 2 = (.var 2) ∧ lookE jC01_h1 3 = (.var 3) ∧ lookE jC01_h1 4 = (.var 4) ∧ lookE jC01_h1 5 = (.var 5) ∧ lookE jC01_h1 6 = (.var 6) ∧ lookE jC01_h1 7 = txHa18 ∧ lookE jC01_h1 8 = zHa4 ∧ lookE jC01_h1 9 = zHa5 ∧ lookE jC01_h1 10 = zHa14 ∧ lookE jC01_h1 11 = (.var 11) ∧ lookE jC01_h1 12 = (.var 12) := ⟨rfl, rfl, rfl, rfl, rfl, rfl, rfl, rfl, rfl, rfl, rfl, rfl, rfl⟩
theorem jC01_y1 : nextJ (jC 1) (jC 3) jC01_h1 [(11, 11), (9, 9), (3, 21), (1, 1), (17, 17), (13, 13), (7, 7)] (roundC Try.prog [] [] [] 3000 40 26 [4, 1] (tellA jC01_t1) (jC 1)) = some jC01_d1 := by kernel_rfl
def jC10_t0 : List (Q × Bool) := [asHa0, asHa1, asHa2, asHa3, asHa11, asHa12, asHa13, asHa4, asHa5, asHa6, asHa7, asHa8, asHa14, asHa15, asHa16, asHa9]
def jC10_d0 : List Duty := [zHa10, zHa10, zHa9, zHa9, zHa10, zHa24, zHa9, zHa23]
def jC10_h0 : List (Nat × E) := [(10, txHa17), (6, (.var 6)), (2, (.var 2)), (1, zHa12), (9, txHa59), (8, zHa4), (7, txHa18), (0, zHa3), (3, (.var 3)), (4, (.var 4)), (5, (.var 5))]
theorem jC10_h0_a : lookE jC10_h0 0 = zHa3 ∧ lookE jC10_h0 1 = zHa12 ∧ lookE jC10_h0 2 = (.var 2) ∧ lookE jC10_h0 3 = (.var 3) ∧ lookE jC10_h0 4 = (.var 4) ∧ lookE jC10_h0 5 = (.var 5) ∧ lookE jC10_h0 6 = (.var 6) ∧ lookE jC10_h0 7 = txHa18 ∧ lookE jC10_h0 8 = zHa4 ∧ lookE jC10_h0 9 = txHa59 ∧ lookE jC10_h0 10 = txHa17 := ⟨rfl, rfl, rfl, rfl, rfl, rfl, rfl, rfl, rfl, rfl, rfl⟩
theorem jC10_y0 : nextJ (jC 2) (jC 2) jC10_h0 [(9, 9), (3, 21), (1, 1), (17, 17), (13, 13), (7, 7)] (roundC Try.prog [] [] [] 3000 40 26 [4, 1] (tellA jC10_t0) (jC 2)) = some jC10_d0 := by kernel_rfl
def jC10_t1 : List (Q × Bool) := [asHa0, asHa1, asHa2, asHa3, asHa11, asHa12, asHa13, asHa4, asHa5, asHa10, asHa7, asHa8, asHa14, asHa15, asHa16, asHa9]
def jC10_d1 : List Duty := [zHa10, zHa10, zHa9, zHa9, zHa10, zHa24, zHa9, zHa23]
def jC10_h1 : List (Nat × E) := [(10, txHa17), (6, (.var 6)), (2, (.var 2)), (1, zHa12), (9, zHa5), (8, zHa4), (7, txHa18), (0, zHa3), (3, (.var 3)), (4, (.var 4)), (5, (.var 5))]
theorem jC10_h1_a : lookE jC10_h1 0 = zHa3 ∧ lookE jC10_h1 1 = zHa12 ∧ lookE jC10_h1 2 = (.var 2) ∧ lookE jC10_h1 3 = (.var 3) ∧ lookE jC10_h1 4 = (.var 4) ∧ lookE jC10_h1 5 = (.var 5) ∧ lookE jC10_h1 6 = (.var 6) ∧ lookE jC10_h1 7 = txHa18 ∧ lookE jC10_h1 8 = zHa4 ∧ lookE jC10_h1 9 = zHa5 ∧ lookE jC10_h1 10 = txHa17 := ⟨rfl, rfl, rfl, rfl, rfl, rfl, rfl, rfl, rfl, rfl, rfl⟩
theorem jC10_y1 : nextJ (jC 2) (jC 2) jC10_h1 [(9, 9), (3, 21), (1, 1), (17, 17), (13, 13), (7, 7)] (roundC Try.prog [] [] [] 3000 40 26 [4, 1] (tellA jC10_t1) (jC 2)) = some jC10_d1 := by kernel_rfl
def jC10_t2 : List (Q × Bool) := [asHa0, asHa1, asHa2, asHa3, asHa11, asHa12, asHa13, asHa4, asHa5, asHa10, asHa7, asHa8, asHa14, asHa15, asHa17, asHa18, asHa9]
def jC10_d2 : List Duty := [zHa10, zHa10, zHa9, zHa9, zHa10, zHa24, zHa9, zHa23]
def jC10_h2 : List (Nat × E) := [(10, txHa17), (6, (.var 6)), (2, (.var 2)), (1, zHa12), (9, zHa5), (8, zHa4), (7, txHa18), (0, zHa3), (3, (.var 3)), (4, (.var 4)), (5, (.var 5))]
theorem jC10_h2_a : lookE jC10_h2 0 = zHa3 ∧ lookE jC10_h2 1 = zHa12 ∧ lookE jC10_h2 2 = (.var 2) ∧ lookE jC10_h2 3 = (.var 3) ∧ lookE jC10_h2 4 = (.var 4) ∧ lookE jC10_h2 5 = (.var 5) ∧ lookE jC10_h2 6 = (.var 6) ∧ lookE jC10_h2 7 = txHa18 ∧ lookE jC10_h2 8 = zHa4 ∧ lookE jC10_h2 9 = zHa5 ∧ lookE jC10_h2 10 = txHa17 := ⟨rfl, rfl, rfl, rfl, rfl, rfl, rfl, rfl, rfl, rfl, rfl⟩
theorem jC10_y2 : nextJ (jC 2) (jC 2) jC10_h2 [(9, 9), (3, 21), (1, 1), (17, 17), (13, 13), (7, 7)] (roundC Try.prog [] [] [] 3000 40 26 [4, 1] (tellA jC10_t2) (jC 2)) = some jC10_d2 := by kernel_rfl
def jC10_t3 : List (Q × Bool) := [asHa0, asHa1, asHa2, asHa3, asHa11, asHa12, asHa13, asHa4, asHa5, asHa10, asHa7, asHa8, asHa14, asHa15, asHa17, asHa20, asHa9]
def jC10_d3 : List Duty := [zHa21, zHa21, zHa20, zHa20, zHa21, zHa57, zHa20, zHa35]
def jC10_h3 : List (Nat × E) := [(12, zHa28), (6, (.var 6)), (2, (.var 2)), (11, (.int 1)), (9, zHa5), (8, zHa4), (7, txHa18), (0, zHa3), (3, (.var 3)), (4, (.var 4)), (5, (.var 5))]
theorem jC10_h3_a : lookE jC10_h3 0 = zHa3 ∧ lookE jC10_h3 2 = (.var 2) ∧ lookE jC10_h3 3 = (.var 3) ∧ lookE jC10_h3 4 = (.var 4) ∧ lookE jC10_h3 5 = (.var 5) ∧ lookE jC10_h3 6 = (.var 6) ∧ lookE jC10_h3 7 = txHa18 ∧ lookE jC10_h3 8 = zHa4 ∧ lookE jC10_h3 9 = zHa5 ∧ lookE jC10_h3 11 = (.int 1) ∧ lookE jC10_h3 12 = zHa28 := ⟨rfl, rfl, rfl, rfl, rfl, rfl, rfl, rfl, rfl, rfl, rfl⟩
theorem jC10_y3 : nextJ (jC 2) (jC 1) jC10_h3 [(11, 25), (9, 9), (1, 1), (17, 17), (13, 13), (7, 7)] (roundC Try.prog [] [] [] 3000 40 26 [4, 1] (tellA jC10_t3) (jC 2)) = some jC10_d3 := by kernel_rfl
def jC10_t4 : List (Q × Bool) := [asHa0, asHa1, asHa2, asHa3, asHa11, asHa12, asHa13, asHa4, asHa5, asHa10, asHa7, asHa8, asHa14, asHa21, asHa9]
def jC10_d4 : List Duty := [zHa21, zHa21, zHa20, zHa20, zHa21, zHa57, zHa20, zHa35]
def jC10_h4 : List (Nat × E) := [(12, zHa28), (6, (.var 6)), (2, (.var 2)), (11, (.int 1)), (9, zHa5), (8, zHa4), (7, txHa18), (0, zHa3), (3, (.var 3)), (4, (.var 4)), (5, (.var 5))]
theorem jC10_h4_a : lookE jC10_h4 0 = zHa3 ∧ lookE jC10_h4 2 = (.var 2) ∧ lookE jC10_h4 3 = (.var 3) ∧ lookE jC10_h4 4 = (.var 4) ∧ lookE jC10_h4 5 = (.var 5) ∧ lookE jC10_h4 6 = (.var 6) ∧ lookE jC10_h4 7 = txHa18 ∧ lookE jC10_h4 8 = zHa4 ∧ lookE jC10_h4 9 = zHa5 ∧ lookE jC10_h4 11 = (.int 1) ∧ lookE jC10_h4 12 = zHa28 := ⟨rfl, rfl, rfl, rfl, rfl, rfl, rfl, rfl, rfl, rfl, rfl⟩
theorem jC10_y4 : nextJ (jC 2) (jC 1) jC10_h4 [(11, 25), (9, 9), (1, 1), (17, 17), (13, 13), (7, 7)] (roundC Try.prog [] [] [] 3000 40 26 [4, 1] (tellA jC10_t4) (jC 2)) = some jC10_d4 := by kernel_rfl
def jC11_t0 : List (Q × Bool) := [asHa0, asHa1, asHa2, asHa3, asHa11, asHa12, asHa13, asHa4, asHa5, asHa6, asHa7, asHa8, asHa14, asHa15, asHa16, asHa9]
def jC11_d0 : List Duty := [zHa10, zHa10, (true, txHa74, txHa58), (true, txHa74, txHa58), zHa10, zHa24, (true, txHa74, txHa58), (false, txHa75, txHa61)]
def jC11_h0 : List (Nat × E) := [(12, (.var 12)), (10, txHa17), (6, (.var 6)), (2, (.var 2)), (11, (.var 11)), (1, zHa12), (9, txHa59), (8, zHa4), (7, txHa18), (0, zHa3), (3, (.var 3)), (4, (.var 4)), (5, (.var 5))]
theorem jC11_h0_a : lookE jC11_h0 0 = zHa3 ∧ lookE jC11_h0 1 = zHa12 ∧ lookE jC11_h0 2 = (.var 2) ∧ lookE jC11_h0 3 = (.var 3) ∧ lookE jC11_h0 4 = (.var 4) ∧ lookE jC11_h0 5 = (.var 5) ∧ lookE jC11_h0 6 = (.var 6) ∧ lookE jC11_h0 7 = txHa18 ∧ lookE jC11_h0 8 = zHa4 ∧ lookE jC11_h0 9 = txHa59 ∧ lookE jC11_h0 10 = txHa17 ∧ lookE jC11_h0 11 = (.var 11) ∧ lookE jC11_h0 12 = (.var 12) := ⟨rfl, rfl, rfl, rfl, rfl, rfl, rfl, rfl, rfl, rfl, rfl, rfl, rfl⟩
theorem jC11_y0 : nextJ (jC 3) (jC 3) jC11_h0 [(11, 11), (9, 9), (3, 21), (1, 1), (17, 17), (13, 13), (7, 7)] (roundC Try.prog [] [] [] 3000 40 26 [4, 1] (tellA jC11_t0) (jC 3)) = some jC11_d0 := by kernel_rfl
def jC11_t1 : List (Q × Bool) := [asHa0, asHa1, asHa2, asHa3, asHa11, asHa12, asHa13, asHa4, asHa5, asHa10, asHa7, asHa8, asHa14, asHa15, asHa16, asHa9]
def jC11_d1 : List Duty := [zHa10, zHa10, (true, txHa74, txHa58), (true, txHa74, txHa58), zHa10, zHa24, (true, txHa74, txHa58), (false, txHa75, txHa61)]
def jC11_h1 : List (Nat × E) := [(12, (.var 12)), (10, txHa17), (6, (.var 6)), (2, (.var 2)), (11, (.var 11)), (1, zHa12), (9, zHa5), (8, zHa4), (7, txHa18), (0, zHa3), (3, (.var 3)), (4, (.var 4)), (5, (.var 5))]
theorem jC11_h1_a : lookE jC11_h1 0 = zHa3 ∧ lookE jC11_h1 1 = zHa12 ∧ lookE jC11_h1 2 = (.var 2) ∧ lookE jC11_h1 3 = (.var 3) ∧ lookE jC11_h1 4 = (.var 4) ∧ lookE jC11_h1 5 = (.var 5) ∧ lookE jC11_h1 6 = (.var 6) ∧ lookE jC11_h1 7 = txHa18 ∧ lookE jC11_h1 8 = zHa4 ∧ lookE jC11_h1 9 = zHa5 ∧ lookE jC11_h1 10 = txHa17 ∧ lookE jC11_h1 11 = (.var 11) ∧ lookE jC11_h1 12 = (.var 12) := ⟨rfl, rfl, rfl, rfl, rfl, rfl, rfl, rfl, rfl, rfl, rfl, rfl, rfl⟩
theorem jC11_y1 : nextJ (jC 3) (jC 3) jC11_h1 [(11, 11), (9, 9), (3, 21), (1, 1), (17, 17), (13, 13), (7, 7)] (roundC Try.prog [] [] [] 3000 40 26 [4, 1] (tellA jC11_t1) (jC 3)) = some jC11_d1 := by kernel_rfl
def jC11_t2 : List (Q × Bool) := [asHa0, asHa1, asHa2, asHa3, asHa11, asHa12, asHa13, asHa4, asHa5, asHa10, asHa7, asHa8, asHa14, asHa15, asHa17, asHa18, asHa9]
def jC11_d2 : List Duty := [zHa10, zHa10, (true, txHa74, txHa58), (true, txHa74, txHa58), zHa10, zHa24, (true, txHa74, txHa58), (false, txHa75, txHa61)]
def jC11_h2 : List (Nat × E) := [(12, (.var 12)), (10, txHa17), (6, (.var 6)), (2, (.var 2)), (11, (.var 11)), (1, zHa12), (9, zHa5), (8, zHa4), (7, txHa18), (0, zHa3), (3, (.var 3)), (4, (.var 4)), (5, (.var 5))]
theorem jC11_h2_a : lookE jC11_h2 0 = zHa3 ∧ lookE jC11_h2 1 = zHa12 ∧ lookE jC11_h2 2 = (.var 2) ∧ lookE jC11_h2 3 = (.var 3) ∧ lookE jC11_h2 4 = (.var 4) ∧ lookE jC11_h2 5 = (.var 5) ∧ lookE jC11_h2 6 = (.var 6) ∧ lookE jC11_h2 7 = txHa18 ∧ lookE jC11_h2 8 = zHa4 ∧ lookE jC11_h2 9 = zHa5 ∧ lookE jC11_h2 10 = txHa17 ∧ lookE jC11_h2 11 = (.var 11) ∧ lookE jC11_h2 12 = (.var 12) := ⟨rfl, rfl, rfl, rfl, rfl, rfl, rfl, rfl, rfl, rfl, rfl, rfl, rfl⟩
theorem jC11_y2 : nextJ (jC 3) (jC 3) jC11_h2 [(11, 11), (9, 9), (3, 21), (1, 1), (17, 17), (13, 13), (7, 7)] (roundC Try.prog [] [] [] 3000 40 26 [4, 1] (tellA jC11_t2) (jC 3)) = some jC11_d2 := by kernel_rfl
def jC11_t3 : List (Q × Bool) := [asHa0, asHa1, asHa2, asHa3, asHa11, asHa12, asHa13, asHa4, asHa5, asHa10, asHa7, asHa8, asHa14, asHa15, asHa17, asHa20, asHa22, asHa9]
def jC11_d3 : List Duty := [zHa21, zHa21, (true, txHa65, txHa58), (true, txHa65, txHa58), zHa21, zHa57, (true, txHa65, txHa58), zHa60]
def jC11_h3 : List (Nat × E) := [(12, zHa29), (6, (.var 6)), (2, (.var 2)), (11, zHa26), (9, zHa5), (8, zHa4), (7, txHa18), (0, zHa3), (3, (.var 3)), (4, (.var 4)), (5, (.var 5))]
theorem jC11_h3_a : lookE jC11_h3 0 = zHa3 ∧ lookE jC11_h3 2 = (.var 2) ∧ lookE jC11_h3 3 = (.var 3) ∧ lookE jC11_h3 4 = (.var 4) ∧ lookE jC11_h3 5 = (.var 5) ∧ lookE jC11_h3 6 = (.var 6) ∧ lookE jC11_h3 7 = txHa18 ∧ lookE jC11_h3 8 = zHa4 ∧ lookE jC11_h3 9 = zHa5 ∧ lookE jC11_h3 11 = zHa26 ∧ lookE jC11_h3 12 = zHa29 := ⟨rfl, rfl, rfl, rfl, rfl, rfl, rfl, rfl, rfl, rfl, rfl⟩
theorem jC11_y3 : nextJ (jC 3) (jC 1) jC11_h3 [(11, 25), (9, 9), (1, 1), (17, 17), (13, 13), (7, 7)] (roundC Try.prog [] [] [] 3000 40 26 [4, 1] (tellA jC11_t3) (jC 3)) = some jC11_d3 := by kernel_rfl
def jC11_t4 : List (Q × Bool) := [asHa0, asHa1, asHa2, asHa3, asHa11, asHa12, asHa13, asHa4, asHa5, asHa10, asHa7, asHa8, asHa14, asHa21, asHa22, asHa9]
def jC11_d4 : List Duty := [zHa21, zHa21, (true, txHa65, txHa58), (true, txHa65, txHa58), zHa21, zHa57, (true, txHa65, txHa58), zHa60]
def jC11_h4 : List (Nat × E) := [(12, zHa29), (6, (.var 6)), (2, (.var 2)), (11, zHa26), (9, zHa5), (8, zHa4), (7, txHa18), (0, zHa3), (3, (.var 3)), (4, (.var 4)), (5, (.var 5))]
theorem jC11_h4_a : lookE jC11_h4 0 = zHa3 ∧ lookE jC11_h4 2 = (.var 2) ∧ lookE jC11_h4 3 = (.var 3) ∧ lookE jC11_h4 4 = (.var 4) ∧ lookE jC11_h4 5 = (.var 5) ∧ lookE jC11_h4 6 = (.var 6) ∧ lookE jC11_h4 7 = txHa18 ∧ lookE jC11_h4 8 = zHa4 ∧ lookE jC11_h4 9 = zHa5 ∧ lookE jC11_h4 11 = zHa26 ∧ lookE jC11_h4 12 = zHa29 := ⟨rfl, rfl, rfl, rfl, rfl, rfl, rfl, rfl, rfl, rfl, rfl⟩
theorem jC11_y4 : nextJ (jC 3) (jC 1) jC11_h4 [(11, 25), (9, 9), (1, 1), (17, 17), (13, 13), (7, 7)] (roundC Try.prog [] [] [] 3000 40 26 [4, 1] (tellA jC11_t4) (jC 3)) = some jC11_d4 := by kernel_rfl
def jC11_t5 : List (Q × Bool) := [asHa19]
def jC11_d5 : List Duty := [zHa44, zHa45, zHa46, zHa47, zHa48, zHa49, zHa50, zHa51, zHa52, zHa53, zHa38, zHa39, zHa40, zHa41, zHa42, zHa43, (true, (.var 8), zHa11), zHa61, zHa37, zHa37, (true, (.var 11), txHa58), (true, (.var 11), txHa58), zHa37, (false, (.var 10), (.fn 22 txHa52)), (true, (.var 11), txHa58), (false, (.un .code (.var 12)), txHa61)]
theorem jC11_y5 : endD (jC 3) [(11, 11), (3, 3), (1, 1), (7, 7), (9, 9), (13, 13)] 1000 (roundC Try.prog [] [] [] 3000 40 26 [4, 1] (tellA jC11_t5) (jC 3)) = some jC11_d5 := by kernel_rfl
set_option maxHeartbeats 16000000 in
theorem jC_holds : ∀ i, i < 4 → LHolds Try.prog (loopAt Try.prog 26 [4, 1]) (jC i) F := by
 refine loop_famC sound (tableNil _ _) (specsNil _ _) (oversNil _ _) (fuel := 3000) (depth := 40) (by kernel_rfl) (fun i d => match i with | 0 => ((d 4).toInt - (d 0).toInt).toNat | 1 => ((d 4).toInt - (d 0).toInt).toNat | 2 => ((d 4).toInt - (d 0).toInt).toNat | _ => ((d 4).toInt - (d 0).toInt).toNat) ?_
 intro i hi d hp hR hA
 match i, hi with
 | 0, _ =>
   have hp := allTold'_iff.2 hp
   simp only [jC, jC00, tl] at hp hR hA
   simp only [gq, D.toInt_int, D.ints_ofInts, UO.den] at hp
   obtain ⟨p1, p2, p3, p4, p5, p6, p7, p8, p9, pf, pz⟩ := hp
   have hb : True := trivial
   by_cases h : (d 4).toInt ≤ (d 0).toInt
   ·exfalso
    have ce := cuts_end (x := (d 2).ints) (o := (0 : Int)) (t := (d 3).toInt + (d 4).toInt) (i := (d 3).toInt + (d 0).toInt) (n := 0) (by omega)
    simp only [ce, List.length_nil] at pf pz
    all_goals omega
   ·obtain ⟨wf, wn, el, hr, hy, hz, e6, e7, e8, er⟩ := comm (Int.le_refl 0) (by omega : 0 ≤ (d 3).toInt + (d 0).toInt) (by omega : (d 3).toInt + (d 0).toInt < (d 3).toInt + (d 4).toInt) (by omega) p7 p9 p8
    have ea : (d 3).toInt + ((d 0).toInt + 1) = (d 3).toInt + (d 0).toInt + 1 := by omega
    have ly := @lfy (d 2) (0 : Int) ((d 3).toInt + (d 4).toInt) ((d 3).toInt + (d 0).toInt) (0) (D.ofInts []) (by omega)
    have ln := @lfn (d 2) (0 : Int) ((d 3).toInt + (d 4).toInt) ((d 3).toInt + (d 0).toInt) (0) (D.ofInts []) (by omega)
    simp only [rollI, stepI, wI, Int.zero_add] at wf wn
    simp only [Int.zero_add] at hr hy hz ly ln
    by_cases f : 16 ≤ (d 3).toInt + (d 0).toInt
    ·have hw := wf f
     obtain ⟨cn, cc, ci⟩ := ln (by omega)
     rw [cn] at pf pz
     refine ⟨tellA jC00_t1, tellA_ok (allTold'_iff.1 ?_), .inr ⟨2, jC00_h1, _, _, by decide, jC00_y1, dutiesTold_ok ?_, allTold'_iff.1 ?_, ?_⟩⟩
     all_goals (try simp only [jC00_t1, jC00_d1, jC, jC00, jC01, jC10, jC11, jC00_h1_a, ea, gq, er, hw, e6, e8, cn, cc, tl]); all_goals try simp only [hy, getT, ofInts0, cg, Int.zero_add]
     all_goals first | done | omega | (and_intros <;> first | exact True.intro | rfl | omega | exact hr.symm | exact last_cut3 (by omega) | assumption)
    ·have hw := wn f
     obtain ⟨cn, cc, ci⟩ := ln (by omega)
     rw [cn] at pf pz
     refine ⟨tellA jC00_t0, tellA_ok (allTold'_iff.1 ?_), .inr ⟨2, jC00_h0, _, _, by decide, jC00_y0, dutiesTold_ok ?_, allTold'_iff.1 ?_, ?_⟩⟩
     all_goals (try simp only [jC00_t0, jC00_d0, jC, jC00, jC01, jC10, jC11, jC00_h0_a, ea, gq, er, hw, e6, e8, cn, cc, tl]); all_goals try simp only [hy, getT, ofInts0, cg, Int.zero_add]
     all_goals first | done | omega | (and_intros <;> first | exact True.intro | rfl | omega | exact hr.symm | exact last_cut3 (by omega) | assumption)
 | 1, _ =>
   have hp := allTold'_iff.2 hp
   simp only [jC, jC01, tl] at hp hR hA
   simp only [gq, D.toInt_int, D.ints_ofInts, UO.den] at hp
   obtain ⟨p1, p2, p3, p4, p5, p6, p7, p8, p9, p10, p11, pf⟩ := hp
   have h12 : (d 12).ints.length = (d 12).toList.length := List.length_map ..
   have hb : (d 12).toList ≠ [] := fun e => by have := congrArg List.length e; simp only [List.length_nil] at this; omega
   by_cases h : (d 4).toInt ≤ (d 0).toInt
   ·exfalso
    have ce := cuts_end (x := (d 2).ints) (o := (0 : Int)) (t := (d 3).toInt + (d 4).toInt) (i := (d 3).toInt + (d 0).toInt) (n := 0) (by omega)
    simp only [ce, List.length_nil] at pf
    all_goals omega
   ·obtain ⟨wf, wn, el, hr, hy, hz, e6, e7, e8, er⟩ := comm (Int.le_refl 0) (by omega : 0 ≤ (d 3).toInt + (d 0).toInt) (by omega : (d 3).toInt + (d 0).toInt < (d 3).toInt + (d 4).toInt) (by omega) p7 p9 p8
    have ea : (d 3).toInt + ((d 0).toInt + 1) = (d 3).toInt + (d 0).toInt + 1 := by omega
    have ly := @lfy (d 2) (0 : Int) ((d 3).toInt + (d 4).toInt) ((d 3).toInt + (d 0).toInt) (0) (D.ofInts []) (by omega)
    have ln := @lfn (d 2) (0 : Int) ((d 3).toInt + (d 4).toInt) ((d 3).toInt + (d 0).toInt) (0) (D.ofInts []) (by omega)
    simp only [rollI, stepI, wI, Int.zero_add] at wf wn
    simp only [Int.zero_add] at hr hy hz ly ln
    by_cases f : 16 ≤ (d 3).toInt + (d 0).toInt
    ·have hw := wf f
     obtain ⟨cn, cc, ci⟩ := ln (by omega)
     rw [cn] at pf
     refine ⟨tellA jC01_t1, tellA_ok (allTold'_iff.1 ?_), .inr ⟨3, jC01_h1, _, _, by decide, jC01_y1, dutiesTold_ok ?_, allTold'_iff.1 ?_, ?_⟩⟩
     all_goals (try simp only [jC01_t1, jC01_d1, jC, jC00, jC01, jC10, jC11, jC01_h1_a, ea, gq, er, hw, e6, e8, cn, cc, tl]); all_goals try simp only [hy, getT, ofInts0, cg, Int.zero_add]
     all_goals first | done | omega | (and_intros <;> first | exact True.intro | rfl | omega | exact hr.symm | exact last_cut3 (by omega) | assumption)
    ·have hw := wn f
     obtain ⟨cn, cc, ci⟩ := ln (by omega)
     rw [cn] at pf
     refine ⟨tellA jC01_t0, tellA_ok (allTold'_iff.1 ?_), .inr ⟨3, jC01_h0, _, _, by decide, jC01_y0, dutiesTold_ok ?_, allTold'_iff.1 ?_, ?_⟩⟩
     all_goals (try simp only [jC01_t0, jC01_d0, jC, jC00, jC01, jC10, jC11, jC01_h0_a, ea, gq, er, hw, e6, e8, cn, cc, tl]); all_goals try simp only [hy, getT, ofInts0, cg, Int.zero_add]
     all_goals first | done | omega | (and_intros <;> first | exact True.intro | rfl | omega | exact hr.symm | exact last_cut3 (by omega) | assumption)
 | 2, _ =>
   have hp := allTold'_iff.2 hp
   simp only [jC, jC10, tl] at hp hR hA
   simp only [gq, D.toInt_int, D.ints_ofInts, UO.den] at hp
   obtain ⟨p1, p2, p3, p4, p5, p6, p7, p8, p9, p10, p11, p12, pf, pz⟩ := hp
   have hb : True := trivial
   by_cases h : (d 4).toInt ≤ (d 0).toInt
   ·exfalso
    have ce := cuts_end (x := (d 2).ints) (o := (0 : Int)) (t := (d 3).toInt + (d 4).toInt) (i := (d 3).toInt + (d 0).toInt) (n := (d 1).toInt) (by omega)
    simp only [ce, List.length_nil] at pf pz
    all_goals omega
   ·obtain ⟨wf, wn, el, hr, hy, hz, e6, e7, e8, er⟩ := comm (Int.le_refl 0) (by omega : 0 ≤ (d 3).toInt + (d 0).toInt) (by omega : (d 3).toInt + (d 0).toInt < (d 3).toInt + (d 4).toInt) (by omega) p7 p9 p8
    have ea : (d 3).toInt + ((d 0).toInt + 1) = (d 3).toInt + (d 0).toInt + 1 := by omega
    have ly := @lfy (d 2) (0 : Int) ((d 3).toInt + (d 4).toInt) ((d 3).toInt + (d 0).toInt) (d 1).toInt (d 10) (by omega)
    have ln := @lfn (d 2) (0 : Int) ((d 3).toInt + (d 4).toInt) ((d 3).toInt + (d 0).toInt) (d 1).toInt (d 10) (by omega)
    simp only [rollI, stepI, wI, Int.zero_add] at wf wn
    simp only [Int.zero_add] at hr hy hz ly ln
    by_cases q : (d 1).toInt + 1 < 64
    ·by_cases f : 16 ≤ (d 3).toInt + (d 0).toInt
     ·have hw := wf f
      obtain ⟨cn, cc, ci⟩ := ln (by omega)
      rw [cn] at pf pz
      refine ⟨tellA jC10_t1, tellA_ok (allTold'_iff.1 ?_), .inr ⟨2, jC10_h1, _, _, by decide, jC10_y1, dutiesTold_ok ?_, allTold'_iff.1 ?_, ?_⟩⟩
      all_goals (try simp only [jC10_t1, jC10_d1, jC, jC00, jC01, jC10, jC11, jC10_h1_a, ea, gq, er, hw, e6, e8, cn, cc, tl]); all_goals try simp only [hy, getT, ofInts0, cg, Int.zero_add]
      all_goals first | done | omega | (and_intros <;> first | exact True.intro | rfl | omega | exact hr.symm | exact last_cut3 (by omega) | assumption)
     ·have hw := wn f
      obtain ⟨cn, cc, ci⟩ := ln (by omega)
      rw [cn] at pf pz
      refine ⟨tellA jC10_t0, tellA_ok (allTold'_iff.1 ?_), .inr ⟨2, jC10_h0, _, _, by decide, jC10_y0, dutiesTold_ok ?_, allTold'_iff.1 ?_, ?_⟩⟩
      all_goals (try simp only [jC10_t0, jC10_d0, jC, jC00, jC01, jC10, jC11, jC10_h0_a, ea, gq, er, hw, e6, e8, cn, cc, tl]); all_goals try simp only [hy, getT, ofInts0, cg, Int.zero_add]
      all_goals first | done | omega | (and_intros <;> first | exact True.intro | rfl | omega | exact hr.symm | exact last_cut3 (by omega) | assumption)
    ·have hw := wf (by omega)
     by_cases g : (d 1).toInt + 1 = 1024
     ·obtain ⟨cn, cc, ci⟩ := ly (by omega)
      rw [cn] at pf pz
      refine ⟨tellA jC10_t4, tellA_ok (allTold'_iff.1 ?_), .inr ⟨1, jC10_h4, _, _, by decide, jC10_y4, dutiesTold_ok ?_, allTold'_iff.1 ?_, ?_⟩⟩
      all_goals (try simp only [jC10_t4, jC10_d4, jC, jC00, jC01, jC10, jC11, jC10_h4_a, ea, gq, er, hw, e6, e8, cn, cc, tl]); all_goals try simp only [hy, getT, ofInts0, cg, Int.zero_add]
      all_goals first | done | omega | (and_intros <;> first | exact True.intro | rfl | omega | exact hr.symm | exact last_cut3 (by omega) | assumption)
     ·by_cases w : winI (d 2).ints 0 ((d 3).toInt + (d 0).toInt + 1) < 16777216
      ·obtain ⟨cn, cc, ci⟩ := ly (by omega)
       rw [cn] at pf pz
       refine ⟨tellA jC10_t3, tellA_ok (allTold'_iff.1 ?_), .inr ⟨1, jC10_h3, _, _, by decide, jC10_y3, dutiesTold_ok ?_, allTold'_iff.1 ?_, ?_⟩⟩
       all_goals (try simp only [jC10_t3, jC10_d3, jC, jC00, jC01, jC10, jC11, jC10_h3_a, ea, gq, er, hw, e6, e8, cn, cc, tl]); all_goals try simp only [hy, getT, ofInts0, cg, Int.zero_add]
       all_goals first | done | omega | (and_intros <;> first | exact True.intro | rfl | omega | exact hr.symm | exact last_cut3 (by omega) | assumption)
      ·obtain ⟨cn, cc, ci⟩ := ln (by omega)
       rw [cn] at pf pz
       refine ⟨tellA jC10_t2, tellA_ok (allTold'_iff.1 ?_), .inr ⟨2, jC10_h2, _, _, by decide, jC10_y2, dutiesTold_ok ?_, allTold'_iff.1 ?_, ?_⟩⟩
       all_goals (try simp only [jC10_t2, jC10_d2, jC, jC00, jC01, jC10, jC11, jC10_h2_a, ea, gq, er, hw, e6, e8, cn, cc, tl]); all_goals try simp only [hy, getT, ofInts0, cg, Int.zero_add]
       all_goals first | done | omega | (and_intros <;> first | exact True.intro | rfl | omega | exact hr.symm | exact last_cut3 (by omega) | assumption)
 | 3, _ =>
   have hp := allTold'_iff.2 hp
   simp only [jC, jC11, tl] at hp hR hA
   simp only [gq, D.toInt_int, D.ints_ofInts, UO.den] at hp
   obtain ⟨p1, p2, p3, p4, p5, p6, p7, p8, p9, p10, p11, p12, p13, p14, pf⟩ := hp
   have h12 : (d 12).ints.length = (d 12).toList.length := List.length_map ..
   have hb : (d 12).toList ≠ [] := fun e => by have := congrArg List.length e; simp only [List.length_nil] at this; omega
   by_cases h : (d 4).toInt ≤ (d 0).toInt
   ·have ce := cuts_end (x := (d 2).ints) (o := (0 : Int)) (t := (d 3).toInt + (d 4).toInt) (i := (d 3).toInt + (d 0).toInt) (n := (d 1).toInt) (by omega)
    have cf := ch_end (x := d 2) (o := (0 : Int)) (t := (d 3).toInt + (d 4).toInt) (i := (d 3).toInt + (d 0).toInt) (n := (d 1).toInt) (l := (d 10)) (by omega)
    have i4 : (d 3).toInt + (d 0).toInt = (d 3).toInt + (d 4).toInt := by omega
    rw [← i4] at ce cf
    refine ⟨tellA jC11_t5, tellA_ok (allTold'_iff.1 ?_), .inl ⟨_, _, _, jC11_y5, dutiesTold_ok ?_⟩⟩
    ·simp only [jC11_t5, tl]
     omega
    ·simp only [jC11_d5, gq, ← i4, tl]
     (try simp only [← i4, ce, cf, p7, Int.natCast_zero, Int.add_zero, prt_nil (x := (d 2).ints) (o := (0 : Int) + ((d 3).toInt + (d 0).toInt)) (t := (0 : Int) + ((d 3).toInt + (d 0).toInt)) (by omega) (by omega), List.append_nil, List.length_nil, D.ints_ofInts, Int.zero_add, prt_nil (x := (d 2).ints) (o := (d 3).toInt + (d 0).toInt) (t := (d 3).toInt + (d 0).toInt) (by omega) (by omega)]); first | done | (and_intros <;> first | exact True.intro | rfl | omega | exact (last_all (by omega)) | exact (last_all (by omega)).symm | (rw [list_back hb]; done) | exact (congrArg D.code (list_back hb)).symm | assumption)
   ·obtain ⟨wf, wn, el, hr, hy, hz, e6, e7, e8, er⟩ := comm (Int.le_refl 0) (by omega : 0 ≤ (d 3).toInt + (d 0).toInt) (by omega : (d 3).toInt + (d 0).toInt < (d 3).toInt + (d 4).toInt) (by omega) p7 p9 p8
    have ea : (d 3).toInt + ((d 0).toInt + 1) = (d 3).toInt + (d 0).toInt + 1 := by omega
    have ly := @lfy (d 2) (0 : Int) ((d 3).toInt + (d 4).toInt) ((d 3).toInt + (d 0).toInt) (d 1).toInt (d 10) (by omega)
    have ln := @lfn (d 2) (0 : Int) ((d 3).toInt + (d 4).toInt) ((d 3).toInt + (d 0).toInt) (d 1).toInt (d 10) (by omega)
    simp only [rollI, stepI, wI, Int.zero_add] at wf wn
    simp only [Int.zero_add] at hr hy hz ly ln
    by_cases q : (d 1).toInt + 1 < 64
    ·by_cases f : 16 ≤ (d 3).toInt + (d 0).toInt
     ·have hw := wf f
      obtain ⟨cn, cc, ci⟩ := ln (by omega)
      rw [cn] at pf
      refine ⟨tellA jC11_t1, tellA_ok (allTold'_iff.1 ?_), .inr ⟨3, jC11_h1, _, _, by decide, jC11_y1, dutiesTold_ok ?_, allTold'_iff.1 ?_, ?_⟩⟩
      all_goals (try simp only [jC11_t1, jC11_d1, jC, jC00, jC01, jC10, jC11, jC11_h1_a, ea, gq, er, hw, e6, e8, cn, cc, tl]); all_goals try simp only [hy, getT, ofInts0, cg, Int.zero_add]
      all_goals first | done | omega | (and_intros <;> first | exact True.intro | rfl | omega | exact hr.symm | exact last_cut3 (by omega) | assumption)
     ·have hw := wn f
      obtain ⟨cn, cc, ci⟩ := ln (by omega)
      rw [cn] at pf
      refine ⟨tellA jC11_t0, tellA_ok (allTold'_iff.1 ?_), .inr ⟨3, jC11_h0, _, _, by decide, jC11_y0, dutiesTold_ok ?_, allTold'_iff.1 ?_, ?_⟩⟩
      all_goals (try simp only [jC11_t0, jC11_d0, jC, jC00, jC01, jC10, jC11, jC11_h0_a, ea, gq, er, hw, e6, e8, cn, cc, tl]); all_goals try simp only [hy, getT, ofInts0, cg, Int.zero_add]
      all_goals first | done | omega | (and_intros <;> first | exact True.intro | rfl | omega | exact hr.symm | exact last_cut3 (by omega) | assumption)
    ·have hw := wf (by omega)
     by_cases g : (d 1).toInt + 1 = 1024
     ·obtain ⟨cn, cc, ci⟩ := ly (by omega)
      rw [cn] at pf
      refine ⟨tellA jC11_t4, tellA_ok (allTold'_iff.1 ?_), .inr ⟨1, jC11_h4, _, _, by decide, jC11_y4, dutiesTold_ok ?_, allTold'_iff.1 ?_, ?_⟩⟩
      all_goals (try simp only [jC11_t4, jC11_d4, jC, jC00, jC01, jC10, jC11, jC11_h4_a, ea, gq, er, hw, e6, e8, cn, cc, tl]); all_goals try simp only [hy, getT, ofInts0, cg, Int.zero_add]
      all_goals first | done | omega | (and_intros <;> first | exact True.intro | rfl | omega | exact hr.symm | exact last_cut3 (by omega) | assumption)
     ·by_cases w : winI (d 2).ints 0 ((d 3).toInt + (d 0).toInt + 1) < 16777216
      ·obtain ⟨cn, cc, ci⟩ := ly (by omega)
       rw [cn] at pf
       refine ⟨tellA jC11_t3, tellA_ok (allTold'_iff.1 ?_), .inr ⟨1, jC11_h3, _, _, by decide, jC11_y3, dutiesTold_ok ?_, allTold'_iff.1 ?_, ?_⟩⟩
       all_goals (try simp only [jC11_t3, jC11_d3, jC, jC00, jC01, jC10, jC11, jC11_h3_a, ea, gq, er, hw, e6, e8, cn, cc, tl]); all_goals try simp only [hy, getT, ofInts0, cg, Int.zero_add]
       all_goals first | done | omega | (and_intros <;> first | exact True.intro | rfl | omega | exact hr.symm | exact last_cut3 (by omega) | assumption)
      ·obtain ⟨cn, cc, ci⟩ := ln (by omega)
       rw [cn] at pf
       refine ⟨tellA jC11_t2, tellA_ok (allTold'_iff.1 ?_), .inr ⟨3, jC11_h2, _, _, by decide, jC11_y2, dutiesTold_ok ?_, allTold'_iff.1 ?_, ?_⟩⟩
       all_goals (try simp only [jC11_t2, jC11_d2, jC, jC00, jC01, jC10, jC11, jC11_h2_a, ea, gq, er, hw, e6, e8, cn, cc, tl]); all_goals try simp only [hy, getT, ofInts0, cg, Int.zero_add]
       all_goals first | done | omega | (and_intros <;> first | exact True.intro | rfl | omega | exact hr.symm | exact last_cut3 (by omega) | assumption)
theorem jC00_holds : LHolds Try.prog (loopAt Try.prog 26 [4, 1]) jC00 F := jC_holds 0 (by decide)
theorem jC01_holds : LHolds Try.prog (loopAt Try.prog 26 [4, 1]) jC01 F := jC_holds 1 (by decide)
theorem jC10_holds : LHolds Try.prog (loopAt Try.prog 26 [4, 1]) jC10 F := jC_holds 2 (by decide)
theorem jC11_holds : LHolds Try.prog (loopAt Try.prog 26 [4, 1]) jC11 F := jC_holds 3 (by decide)

noncomputable def jD00 : LSpec := { n := 41, next := 9, pat := [(0, .yieldf 7), (2, .ptr 13 0), (6, .sslice 17 (.var 3) (.var 4) (.var 5) false), (7, .sint .i64 (.var 4)), (8, .sint .i64 (.var 0))], rows := [zHa13, zHa0, zHa6, zHa22, zHa25], pre := [(.le (.int 0) (.var 0), true), (.le (.var 0) (.var 4), true), (.le (.int 0) (.var 3), true), (.le zHa11 (.var 6), true), (.le (.var 4) (.var 5), true), (.le zHa11 (.int 20000), true), (.same (.var 7) (.fn 9 zHa19), true), (.eq (.var 8) zHa16, true), (.eq (.var 9) (.fn 11 zHa19), true), (.le (.int 1) (.fn 21 txHa44), false), (.le (.int 1) zHa64, false), (.le (.var 4) (.var 0), true)], x := 0, fin := [], frows := [zHa13, zHa1, zHa6, zHa22], same := [1, 7, 9, 13], chg := [0, 2, 6, 7, 8, 9] }
def jD00_t0 : List (Q × Bool) := [asHa19]
def jD00_d0 : List Duty := [zHa44, zHa45, zHa46, zHa47, zHa48, zHa49, zHa50, zHa51, zHa52, zHa53, zHa38, zHa39, zHa40, zHa41, zHa42, zHa43, (true, (.var 8), zHa11), zHa61]
theorem jD00_y0 : endD jD00 [(9, 9), (1, 1), (17, 17), (13, 13), (7, 7)] 1000 (roundC Try.prog [] [] [] 3000 40 26 [4, 1] (tellA jD00_t0) jD00) = some jD00_d0 := by kernel_rfl
set_option maxHeartbeats 16000000 in
theorem jD00_holds : LHolds Try.prog (loopAt Try.prog 26 [4, 1]) jD00 F := by
 refine loop_roundsC sound (tableNil _ _) (specsNil _ _) (oversNil _ _) (fuel := 3000) (depth := 40) (by kernel_rfl) (by kernel_rfl) (by kernel_rfl) (fun d => ((d 4).toInt - (d 0).toInt).toNat) fun d hp hR hA => ?_
 have hp := allTold'_iff.2 hp
 simp only [jD00, tl] at hp hR hA
 simp only [gq, D.toInt_int, D.ints_ofInts, UO.den] at hp
 obtain ⟨p1, p2, p3, p4, p5, p6, p7, p8, p9, pf, pz, pe⟩ := hp
 have i4 : (d 3).toInt + (d 0).toInt = (d 3).toInt + (d 4).toInt := by omega
 rw [i4] at p7 p9
 refine ⟨tellA jD00_t0, tellA_ok (allTold'_iff.1 ?_), .inl ⟨_, _, _, jD00_y0, dutiesTold_ok ?_⟩⟩
 ·simp only [jD00_t0, tl]
  omega
 ·simp only [jD00_d0, F9, F11, i4, p7, tl]
  first | done | (and_intros <;> first | trivial | rfl | omega)

end Go.Proofs.Ytceealenelhaiaa.Ha
