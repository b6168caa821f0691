/-
 Contracts of this seat: what loops and calls leave, for all inputs. No condition.
-/
import Derived.Test.YtmlocknojpmfpaaSycp
import Derived.Test.YtmlocknojpmfpaaSyfm
import Derived.Test.YtmlocknojpmfpaaCo
import Derived.Test.YtmlocknojpmfpaaK1
set_option linter.unusedSimpArgs false
set_option linter.unusedVariables false
namespace Go.Proofs.Ytmlocknojpmfpaa.K2
open Go.RowKit Go.Ev Go.Proofs.Ytmlocknojpmfpaa.Co

open Go.Proofs.Ytmlocknojpmfpaa.K1

abbrev zK247 : E := (.bi .sel (.var 0) (.var 1))
abbrev txK20 : E := (.bi .sel zK247 (.int 0))
abbrev txK21 : E := (.bi .pair (.var 0) (.bi .pair (.var 1) (.int 0)))
abbrev txK22 : E := (.bi .pair (.var 2) (.bi .pair (.var 1) (.int 0)))
abbrev txK23 : E := (.bi .pair (.var 6) (.bi .pair (.var 8) (.int 0)))
abbrev txK24 : E := (.bi .pair (.lits []) (.bi .pair (.var 8) (.int 0)))
abbrev zK245 : E := (.bi .pair (.lits []) (.int 0))
abbrev txK25 : E := (.bi .pair (.var 6) zK245)
abbrev txK26 : E := (.bi .pair (.var 4) zK245)
abbrev txK27 : E := (.bi .pair (.lits []) zK245)
abbrev txK28 : E := (.bi .pair (.bi .app (.var 8) txK20) (.int 0))
abbrev txK29 : E := (.bi .pair (.var 6) (.bi .pair txK20 (.int 0)))
abbrev txK210 : E := (.bi .pair (.var 1) (.bi .pair (.var 2) txK23))
abbrev txK211 : E := (.bi .pair (.lits []) (.bi .pair txK20 (.int 0)))
abbrev txK212 : E := (.bi .pair (.var 1) (.bi .pair (.var 2) txK24))
abbrev txK213 : E := (.bi .pair (.var 1) (.bi .pair (.var 2) txK25))
abbrev txK214 : E := (.bi .pair (.var 1) (.bi .pair (.var 2) txK27))
abbrev zK21 : E := (.bi .add (.var 1) (.int 1))
abbrev txK215 : E := (.bi .pair zK21 (.bi .pair (.var 2) txK26))
abbrev txK216 : E := (.bi .pair zK21 (.bi .pair (.var 2) txK25))
abbrev txK217 : E := (.bi .pair zK21 (.bi .pair (.var 2) txK27))
abbrev txK218 : E := (.bi .pair (.var 2) (.bi .pair (.var 6) txK28))
abbrev zK28 : E := (.bi .pair (.var 0) txK210)
abbrev txK219 : E := (.un .len (.fn 45 zK28))
abbrev txK220 : E := (.un .len (.fn 44 zK28))
abbrev txK221 : E := (.bi .pair (.var 2) (.bi .pair (.lits []) txK28))
abbrev zK27 : E := (.bi .pair (.var 0) txK212)
abbrev txK222 : E := (.un .len (.fn 45 zK27))
abbrev txK223 : E := (.un .len (.fn 44 zK27))
abbrev zK22 : E := (.bi .pair (.var 0) txK213)
abbrev txK224 : E := (.un .len (.fn 45 zK22))
abbrev txK225 : E := (.un .len (.fn 46 zK22))
abbrev txK226 : E := (.un .len (.fn 44 zK22))
abbrev zK26 : E := (.bi .pair (.var 0) txK214)
abbrev txK227 : E := (.un .len (.fn 45 zK26))
abbrev txK228 : E := (.un .len (.fn 44 zK26))
abbrev txK229 : E := (.bi .pair zK21 (.bi .pair (.var 2) txK29))
abbrev txK230 : E := (.bi .pair zK21 (.bi .pair (.var 2) txK211))
abbrev zK210 : E := (.bi .pair (.var 0) txK215)
abbrev txK231 : E := (.un .len (.fn 44 zK210))
abbrev txK232 : E := (.un .len (.fn 45 zK210))
abbrev zK238 : E := (.bi .pair (.var 0) txK216)
abbrev txK233 : E := (.un .len (.fn 44 zK238))
abbrev txK234 : E := (.un .len (.fn 45 zK238))
abbrev zK239 : E := (.bi .pair (.var 0) txK217)
abbrev txK235 : E := (.un .len (.fn 44 zK239))
abbrev txK236 : E := (.un .len (.fn 45 zK239))
abbrev txK237 : E := (.bi .pair zK21 txK218)
abbrev txK238 : E := (.bi .pair zK21 txK221)
abbrev zK232 : E := (.bi .pair (.var 0) txK229)
abbrev txK239 : E := (.un .len (.fn 44 zK232))
abbrev txK240 : E := (.un .len (.fn 45 zK232))
abbrev zK231 : E := (.bi .pair (.var 0) txK230)
abbrev txK241 : E := (.un .len (.fn 44 zK231))
abbrev txK242 : E := (.un .len (.fn 45 zK231))
abbrev zK240 : E := (.bi .pair (.var 0) txK237)
abbrev txK243 : E := (.un .len (.fn 44 zK240))
abbrev txK244 : E := (.un .len (.fn 45 zK240))
abbrev zK241 : E := (.bi .pair (.var 0) txK238)
abbrev txK245 : E := (.un .len (.fn 44 zK241))
abbrev txK246 : E := (.un .len (.fn 45 zK241))
abbrev zK20 : E := (.bi (.iop .add .i64) (.var 9) (.int 1))
abbrev zK23 : E := (.bi .add (.var 3) (.un .len txK20))
abbrev zK24 : E := (.bi .add (.var 10) (.int (-1)))
abbrev zK25 : Duty := (false, (.fn 45 zK238), (.fn 45 zK22))
abbrev zK29 : E := (.bi .add (.var 7) (.un .len txK20))
abbrev zK211 : Duty := (false, (.fn 45 zK239), (.fn 45 zK26))
abbrev zK212 : Duty := (false, (.fn 45 zK241), (.fn 45 zK27))
abbrev zK213 : Duty := (false, (.fn 45 zK240), (.fn 45 zK28))
abbrev zK214 : Nat × RW := (1, .cells 37 0 false false [.ptr 1 0, .int .i64 3000, .mapv 3, .sint .i64 (.var 10), .bool false, .sint .i64 (.var 9)])
abbrev zK215 : Nat × RW := (1, .cells 37 0 false false [.ptr 1 0, .int .i64 3000, .mapv 3, .any, .any, .any])
abbrev zK216 : Duty := (false, (.fn 44 zK238), (.fn 44 zK22))
abbrev zK217 : E := (.bi .add (.var 5) (.var 7))
abbrev zK218 : Duty := (false, (.fn 44 zK239), (.fn 44 zK26))
abbrev zK219 : Duty := (false, (.fn 45 zK231), (.fn 45 zK26))
abbrev zK220 : Duty := (false, (.fn 44 zK241), (.fn 44 zK27))
abbrev zK221 : Duty := (false, (.fn 45 zK232), (.fn 45 zK22))
abbrev zK222 : Duty := (false, (.fn 44 zK240), (.fn 44 zK28))
abbrev zK223 : Nat × RW := (7, .seq ⟨5, .u8, .var 3, .var 4, true, false⟩)
abbrev zK224 : Duty := (true, (.var 7), (.var 3))
abbrev zK225 : Duty := (true, (.var 5), (.var 3))
abbrev zK226 : E := (.fn 43 (.bi .pair (.var 2) (.int 0)))
abbrev zK227 : Duty := (false, (.fn 45 zK210), (.fn 45 zK27))
abbrev zK228 : Duty := (false, (.fn 45 zK210), (.fn 45 zK22))
abbrev zK229 : Duty := (false, (.fn 45 zK210), (.fn 45 zK28))
abbrev zK230 : E := (.bi .add (.var 3) (.fn 30 txK21))
abbrev zK233 : Nat × RW := (11, .seq ⟨5, .u8, .var 5, .var 6, true, false⟩)
abbrev zK234 : Nat × RW := (9, .seq ⟨5, .u8, .var 5, .var 6, true, false⟩)
abbrev zK235 : Duty := (false, (.var 6), (.fn 45 zK22))
abbrev zK236 : Nat × RW := (5, .cells 82 0 false false [.sslice 11 (.int 0) (.var 5) (.var 5) true, .nilslice])
abbrev zK237 : Nat × RW := (5, .cells 82 0 false false [.sslice 11 (.int 0) txK224 txK224 true, .nilslice])
abbrev zK242 : Nat × RW := (11, .seq ⟨5, .u8, .un .len (.fn 45 zK22), .fn 45 zK22, true, false⟩)
abbrev zK243 : Nat × RW := (7, .seq ⟨5, .u8, .un .len (.fn 44 zK22), .fn 44 zK22, true, false⟩)
abbrev zK244 : Nat × RW := (9, .seq ⟨5, .u8, .un .len (.fn 45 zK22), .fn 45 zK22, true, false⟩)
abbrev zK246 : E := (.bi .app (.var 6) (.var 8))
def k2i0 : LSpec := { n := 195, next := 7, pat := [(0, .pv (.agg [.sl (.int .u8), .bool]) (.var 0)), (1, .sint .i64 (.var 2)), (10, .ptr 1 0), (11, .nilslice), (12, .empty), (13, .sint .i64 (.var 1))], rows := [zK214, (3, .map [⟨.str ⟨#[102]⟩, .ptr 5 0, 0⟩] 1), (5, .cells 82 0 false false [.nilslice, .nilslice])], pre := [(.le (.int 0) (.var 1), true), (.le (.var 1) (.un .len (.var 0)), true), (.le (.un .len (.var 0)) (.int 60), true), (.le (.bi .add (.int 0) (.fn 30 txK21)) (.int 3000), true), (.eq (.var 10) (.fn 40 txK22), true), (.le (.var 1) zK226, true), (.le (.int 1) txK227, true), (.le (.int 1) (.un .len (.fn 46 zK26)), false)], x := 2, fin := [(11, .sslice 7 (.int 0) txK228 txK228 true), (12, .sslice 9 (.int 0) txK227 txK227 true), (10, .ptr 1 0), (0, .pv (.agg [.sl (.int .u8), .bool]) (.var 0)), (1, .sint .i64 (.var 2))], frows := [zK215, (3, .map [⟨.str ⟨#[102]⟩, .ptr 5 0, 0⟩] 1), (5, .cells 82 0 false false [.sslice 11 (.int 0) txK227 txK227 true, .nilslice]), (7, .seq ⟨5, .u8, .un .len (.fn 44 zK26), .fn 44 zK26, true, false⟩), (9, .seq ⟨5, .u8, .un .len (.fn 45 zK26), .fn 45 zK26, true, false⟩), (11, .seq ⟨5, .u8, .un .len (.fn 45 zK26), .fn 45 zK26, true, false⟩)], same := [1, 3, 5], chg := [0, 1, 10, 11, 12, 13, 14, 15, 66, 67, 68, 69, 70, 71, 72, 73, 74, 75, 76, 77, 78, 79, 80, 81, 82, 83, 84, 85, 86, 87, 88, 89, 90, 91, 92, 93, 94, 95, 96, 97, 98, 99, 100, 101, 102, 103, 104, 105, 106, 107, 108, 109, 110, 111, 112, 113, 114, 115, 116, 117, 118, 119, 120, 121, 122, 123, 124, 125, 126, 127, 128, 129, 130, 131, 132, 133, 134, 135, 136, 137, 138] }
def k2i1 : LSpec := { n := 195, next := 7, pat := [(0, .pv (.agg [.sl (.int .u8), .bool]) (.var 0)), (1, .sint .i64 (.var 2)), (10, .ptr 1 0), (11, .sslice 7 (.int 0) (.var 3) (.var 3) true), (12, .empty), (13, .sint .i64 (.var 1))], rows := [zK214, (3, .map [⟨.str ⟨#[102]⟩, .ptr 5 0, 0⟩] 1), (5, .cells 82 0 false false [.nilslice, .sslice 13 (.int 0) (.var 7) (.var 7) true]), zK223, (13, .seq ⟨5, .u8, .var 7, .var 8, true, false⟩)], pre := [(.le (.int 0) (.var 1), true), (.le (.var 1) (.un .len (.var 0)), true), (.le (.un .len (.var 0)) (.int 60), true), (.le zK230 (.int 3000), true), (.eq (.var 10) (.fn 40 txK22), true), (.le (.var 1) zK226, true), (.le (.int 1) (.var 7), true), (.eq (.var 7) (.un .len (.var 8)), true), (.eq (.var 3) (.var 7), true), (.same (.var 4) (.var 8), true), (.le (.int 1) txK222, true), (.le (.int 1) (.un .len (.fn 46 zK27)), false)], x := 2, fin := [(11, .sslice 7 (.int 0) txK223 txK223 true), (12, .sslice 9 (.int 0) txK222 txK222 true), (10, .ptr 1 0), (0, .pv (.agg [.sl (.int .u8), .bool]) (.var 0)), (1, .sint .i64 (.var 2))], frows := [zK215, (3, .map [⟨.str ⟨#[102]⟩, .ptr 5 0, 0⟩] 1), (5, .cells 82 0 false false [.sslice 11 (.int 0) txK222 txK222 true, .nilslice]), (7, .seq ⟨5, .u8, .un .len (.fn 44 zK27), .fn 44 zK27, true, false⟩), (9, .seq ⟨5, .u8, .un .len (.fn 45 zK27), .fn 45 zK27, true, false⟩), (11, .seq ⟨5, .u8, .un .len (.fn 45 zK27), .fn 45 zK27, true, false⟩)], same := [1, 3, 5], chg := [0, 1, 10, 11, 12, 13, 14, 15, 66, 67, 68, 69, 70, 71, 72, 73, 74, 75, 76, 77, 78, 79, 80, 81, 82, 83, 84, 85, 86, 87, 88, 89, 90, 91, 92, 93, 94, 95, 96, 97, 98, 99, 100, 101, 102, 103, 104, 105, 106, 107, 108, 109, 110, 111, 112, 113, 114, 115, 116, 117, 118, 119, 120, 121, 122, 123, 124, 125, 126, 127, 128, 129, 130, 131, 132, 133, 134, 135, 136, 137, 138] }
def k2i2 : LSpec := { n := 195, next := 7, pat := [(0, .pv (.agg [.sl (.int .u8), .bool]) (.var 0)), (1, .sint .i64 (.var 2)), (10, .ptr 1 0), (11, .sslice 7 (.int 0) (.var 3) (.var 3) true), (12, .sslice 9 (.int 0) (.var 5) (.var 5) true), (13, .sint .i64 (.var 1))], rows := [zK214, (3, .map [⟨.str ⟨#[102]⟩, .ptr 5 0, 0⟩] 1), zK236, zK223, zK234, zK233], pre := [(.le (.int 0) (.var 1), true), (.le (.var 1) (.un .len (.var 0)), true), (.le (.un .len (.var 0)) (.int 60), true), (.le zK230 (.int 3000), true), (.eq (.var 10) (.fn 40 txK22), true), (.le (.var 1) zK226, true), (.le (.int 1) (.var 5), true), (.eq (.var 5) (.un .len (.var 6)), true), (.eq (.var 3) (.var 5), true), (.same (.var 4) (.var 6), true), (.le (.int 1) txK224, true), (.le (.int 1) txK225, false)], x := 2, fin := [(11, .sslice 7 (.int 0) txK226 txK226 true), (12, .sslice 9 (.int 0) txK224 txK224 true), (10, .ptr 1 0), (0, .pv (.agg [.sl (.int .u8), .bool]) (.var 0)), (1, .sint .i64 (.var 2))], frows := [zK215, (3, .map [⟨.str ⟨#[102]⟩, .ptr 5 0, 0⟩] 1), zK237, zK243, zK244, zK242], same := [1, 3, 5], chg := [0, 1, 10, 11, 12, 13, 14, 15, 66, 67, 68, 69, 70, 71, 72, 73, 74, 75, 76, 77, 78, 79, 80, 81, 82, 83, 84, 85, 86, 87, 88, 89, 90, 91, 92, 93, 94, 95, 96, 97, 98, 99, 100, 101, 102, 103, 104, 105, 106, 107, 108, 109, 110, 111, 112, 113, 114, 115, 116, 117, 118, 119, 120, 121, 122, 123, 124, 125, 126, 127, 128, 129, 130, 131, 132, 133, 134, 135, 136, 137, 138] }
def k2i3 : LSpec := { n := 195, next := 7, pat := [(0, .pv (.agg [.sl (.int .u8), .bool]) (.var 0)), (1, .sint .i64 (.var 2)), (10, .ptr 1 0), (11, .sslice 7 (.int 0) (.var 3) (.var 3) true), (12, .sslice 9 (.int 0) (.var 5) (.var 5) true), (13, .sint .i64 (.var 1))], rows := [zK214, (3, .map [⟨.str ⟨#[102]⟩, .ptr 5 0, 0⟩] 1), (5, .cells 82 0 false false [.sslice 11 (.int 0) (.var 5) (.var 5) true, .sslice 13 (.int 0) (.var 7) (.var 7) true]), zK223, zK234, zK233, (13, .seq ⟨5, .u8, .var 7, .var 8, true, false⟩)], pre := [(.le (.int 0) (.var 1), true), (.le (.var 1) (.un .len (.var 0)), true), (.le (.un .len (.var 0)) (.int 60), true), (.le zK230 (.int 3000), true), (.eq (.var 10) (.fn 40 txK22), true), (.le (.var 1) zK226, true), (.le (.int 1) (.var 5), true), (.eq (.var 5) (.un .len (.var 6)), true), (.le (.int 1) (.var 7), true), (.eq (.var 7) (.un .len (.var 8)), true), (.eq (.var 3) zK217, true), (.same (.var 4) zK246, true), (.le (.int 1) txK219, true), (.le (.int 1) (.un .len (.fn 46 zK28)), false)], x := 2, fin := [(11, .sslice 7 (.int 0) txK220 txK220 true), (12, .sslice 9 (.int 0) txK219 txK219 true), (10, .ptr 1 0), (0, .pv (.agg [.sl (.int .u8), .bool]) (.var 0)), (1, .sint .i64 (.var 2))], frows := [zK215, (3, .map [⟨.str ⟨#[102]⟩, .ptr 5 0, 0⟩] 1), (5, .cells 82 0 false false [.sslice 11 (.int 0) txK219 txK219 true, .nilslice]), (7, .seq ⟨5, .u8, .un .len (.fn 44 zK28), .fn 44 zK28, true, false⟩), (9, .seq ⟨5, .u8, .un .len (.fn 45 zK28), .fn 45 zK28, true, false⟩), (11, .seq ⟨5, .u8, .un .len (.fn 45 zK28), .fn 45 zK28, true, false⟩)], same := [1, 3, 5], chg := [0, 1, 10, 11, 12, 13, 14, 15, 66, 67, 68, 69, 70, 71, 72, 73, 74, 75, 76, 77, 78, 79, 80, 81, 82, 83, 84, 85, 86, 87, 88, 89, 90, 91, 92, 93, 94, 95, 96, 97, 98, 99, 100, 101, 102, 103, 104, 105, 106, 107, 108, 109, 110, 111, 112, 113, 114, 115, 116, 117, 118, 119, 120, 121, 122, 123, 124, 125, 126, 127, 128, 129, 130, 131, 132, 133, 134, 135, 136, 137, 138] }
def k2o2 : LSpec := { n := 195, next := 7, pat := [(0, .pv (.agg [.sl (.int .u8), .bool]) (.var 0)), (1, .sint .i64 (.var 2)), (10, .ptr 1 0), (11, .sslice 7 (.int 0) (.var 3) (.var 3) true), (12, .sslice 9 (.int 0) (.var 5) (.var 5) true), (13, .sint .i64 (.var 1))], rows := [(1, .cells 37 0 false false [.ptr 1 0, .int .i64 3000, .mapv 3, .sint .i64 (.var 10), .bool true, .sint .i64 (.var 9)]), (3, .map [⟨.str ⟨#[102]⟩, .ptr 5 0, 0⟩] 1), zK236, zK223, zK234, zK233], pre := [(.le (.int 0) (.var 1), true), (.le (.var 1) (.un .len (.var 0)), true), (.le (.un .len (.var 0)) (.int 60), true), (.le zK230 (.int 3000), true), (.le (.int 0) (.var 2), true), (.le (.bi .add (.var 2) (.int 1)) (.var 1), true), (.eq (.var 10) (.int 0), true), (.le (.int 1) (.var 5), true), (.eq (.var 5) (.un .len (.var 6)), true), (.eq (.var 3) (.var 5), true), (.same (.var 4) (.var 6), true), (.le (.int 1) txK224, true), (.le (.int 1) txK225, false)], x := 2, fin := [(11, .sslice 7 (.int 0) txK226 txK226 true), (12, .sslice 9 (.int 0) txK224 txK224 true), (10, .ptr 1 0), (0, .pv (.agg [.sl (.int .u8), .bool]) (.var 0)), (1, .sint .i64 (.var 2))], frows := [zK215, (3, .map [⟨.str ⟨#[102]⟩, .ptr 5 0, 0⟩] 1), zK237, zK243, zK244, zK242], same := [1, 3, 5], chg := [0, 1, 10, 11, 12, 13, 14, 15, 66, 67, 68, 69, 70, 71, 72, 73, 74, 75, 76, 77, 78, 79, 80, 81, 82, 83, 84, 85, 86, 87, 88, 89, 90, 91, 92, 93, 94, 95, 96, 97, 98, 99, 100, 101, 102, 103, 104, 105, 106, 107, 108, 109, 110, 111, 112, 113, 114, 115, 116, 117, 118, 119, 120, 121, 122, 123, 124, 125, 126, 127, 128, 129, 130, 131, 132, 133, 134, 135, 136, 137, 138] }
def k2 : Nat → LSpec
 | 0 => k2i0
 | 1 => k2i1
 | 2 => k2i2
 | 3 => k2i3
 | _ => k2o2
abbrev asK20 : Q × Bool := ((.fit .i64 (.un .len (.var 0))), true)
abbrev asK21 : Q × Bool := ((.le (.un .len (.var 0)) (.var 1)), false)
abbrev asK22 : Q × Bool := ((.le (.int 0) (.var 1)), true)
abbrev asK23 : Q × Bool := ((.eq (.bi .sel zK247 (.int 1)) (.int 0)), false)
abbrev asK24 : Q × Bool := ((.eq (.var 10) (.int 0)), false)
abbrev asK25 : Q × Bool := ((.eq (.var 10) (.int (-1))), true)
abbrev asK26 : Q × Bool := ((.le (.int 0) (.var 2)), false)
abbrev asK27 : Q × Bool := ((.fit .i64 zK21), true)
def k2i0_t0 : List (Q × Bool) := [asK20, asK21, asK22, asK23, asK24, asK25, asK26, asK27]
def k2i0_d0 : List Duty := [(true, txK235, txK228), (true, txK235, txK228), (true, txK236, txK227), (true, txK236, txK227), (true, txK236, txK227), (true, txK236, txK227), (true, txK235, txK228), zK218, (true, txK236, txK227), zK211, (true, txK236, txK227), zK211]
def k2i0_h0 : List (Nat × E) := [(9, zK20), (10, (.var 10)), (1, zK21), (2, (.var 2)), (0, (.var 0))]
theorem k2i0_h0_a : lookE k2i0_h0 0 = (.var 0) ∧ lookE k2i0_h0 1 = zK21 ∧ lookE k2i0_h0 2 = (.var 2) ∧ lookE k2i0_h0 9 = zK20 ∧ lookE k2i0_h0 10 = (.var 10) := ⟨rfl, rfl, rfl, rfl, rfl⟩
theorem k2i0_y0 : nextJ (k2 0) (k2 0) k2i0_h0 [(5, 5), (3, 3), (1, 1)] (roundC Try.prog [] [] [(64, .lib (.clone)), (35, .lib (.keys 58 9))] 3000 40 5 [4, 1, 0, 1, 1, 1, 1, 1, 1, 1, 1] (tellA k2i0_t0) (k2 0)) = some k2i0_d0 := by kernel_rfl
abbrev asK28 : Q × Bool := ((.eq (.var 10) (.int (-1))), false)
abbrev asK29 : Q × Bool := ((.fit .i64 zK24), true)
abbrev asK210 : Q × Bool := ((.le (.int 0) (.var 2)), true)
abbrev asK211 : Q × Bool := ((.le (.var 2) (.var 1)), false)
def k2i0_t1 : List (Q × Bool) := [asK20, asK21, asK22, asK23, asK24, asK28, asK29, asK210, asK211, asK27]
def k2i0_d1 : List Duty := [(true, txK235, txK228), (true, txK235, txK228), (true, txK236, txK227), (true, txK236, txK227), (true, txK236, txK227), (true, txK236, txK227), (true, txK235, txK228), zK218, (true, txK236, txK227), zK211, (true, txK236, txK227), zK211]
def k2i0_h1 : List (Nat × E) := [(9, zK20), (10, zK24), (1, zK21), (2, (.var 2)), (0, (.var 0))]
theorem k2i0_h1_a : lookE k2i0_h1 0 = (.var 0) ∧ lookE k2i0_h1 1 = zK21 ∧ lookE k2i0_h1 2 = (.var 2) ∧ lookE k2i0_h1 9 = zK20 ∧ lookE k2i0_h1 10 = zK24 := ⟨rfl, rfl, rfl, rfl, rfl⟩
theorem k2i0_y1 : nextJ (k2 0) (k2 0) k2i0_h1 [(5, 5), (3, 3), (1, 1)] (roundC Try.prog [] [] [(64, .lib (.clone)), (35, .lib (.keys 58 9))] 3000 40 5 [4, 1, 0, 1, 1, 1, 1, 1, 1, 1, 1] (tellA k2i0_t1) (k2 0)) = some k2i0_d1 := by kernel_rfl
abbrev asK212 : Q × Bool := ((.eq (.bi .sel zK247 (.int 1)) (.int 0)), true)
abbrev asK213 : Q × Bool := ((.fit .i64 (.un .len txK20)), true)
abbrev asK214 : Q × Bool := ((.le (.un .len txK20) (.int 3000)), true)
abbrev asK215 : Q × Bool := ((.eq (.un .len txK20) (.int 0)), true)
def k2i0_t2 : List (Q × Bool) := [asK20, asK21, asK22, asK212, asK213, asK214, asK24, asK25, asK215, asK26, asK27]
def k2i0_d2 : List Duty := [(true, txK235, txK228), (true, txK235, txK228), (true, txK236, txK227), (true, txK236, txK227), (true, txK236, txK227), (true, txK236, txK227), (true, txK235, txK228), zK218, (true, txK236, txK227), zK211, (true, txK236, txK227), zK211]
def k2i0_h2 : List (Nat × E) := [(9, zK20), (10, (.var 10)), (1, zK21), (2, (.var 2)), (0, (.var 0))]
theorem k2i0_h2_a : lookE k2i0_h2 0 = (.var 0) ∧ lookE k2i0_h2 1 = zK21 ∧ lookE k2i0_h2 2 = (.var 2) ∧ lookE k2i0_h2 9 = zK20 ∧ lookE k2i0_h2 10 = (.var 10) := ⟨rfl, rfl, rfl, rfl, rfl⟩
theorem k2i0_y2 : nextJ (k2 0) (k2 0) k2i0_h2 [(5, 5), (3, 3), (1, 1)] (roundC Try.prog [] [] [(64, .lib (.clone)), (35, .lib (.keys 58 9))] 3000 40 5 [4, 1, 0, 1, 1, 1, 1, 1, 1, 1, 1] (tellA k2i0_t2) (k2 0)) = some k2i0_d2 := by kernel_rfl
def k2i0_t3 : List (Q × Bool) := [asK20, asK21, asK22, asK212, asK213, asK214, asK24, asK28, asK29, asK215, asK210, asK211, asK27]
def k2i0_d3 : List Duty := [(true, txK235, txK228), (true, txK235, txK228), (true, txK236, txK227), (true, txK236, txK227), (true, txK236, txK227), (true, txK236, txK227), (true, txK235, txK228), zK218, (true, txK236, txK227), zK211, (true, txK236, txK227), zK211]
def k2i0_h3 : List (Nat × E) := [(9, zK20), (10, zK24), (1, zK21), (2, (.var 2)), (0, (.var 0))]
theorem k2i0_h3_a : lookE k2i0_h3 0 = (.var 0) ∧ lookE k2i0_h3 1 = zK21 ∧ lookE k2i0_h3 2 = (.var 2) ∧ lookE k2i0_h3 9 = zK20 ∧ lookE k2i0_h3 10 = zK24 := ⟨rfl, rfl, rfl, rfl, rfl⟩
theorem k2i0_y3 : nextJ (k2 0) (k2 0) k2i0_h3 [(5, 5), (3, 3), (1, 1)] (roundC Try.prog [] [] [(64, .lib (.clone)), (35, .lib (.keys 58 9))] 3000 40 5 [4, 1, 0, 1, 1, 1, 1, 1, 1, 1, 1] (tellA k2i0_t3) (k2 0)) = some k2i0_d3 := by kernel_rfl
abbrev asK216 : Q × Bool := ((.eq (.un .len txK20) (.int 0)), false)
abbrev asK217 : Q × Bool := ((.le (.bi .mul (.un .len txK20) (.int 2)) (.int 281474976710656)), true)
def k2i0_t4 : List (Q × Bool) := [asK20, asK21, asK22, asK212, asK213, asK214, asK24, asK25, asK216, asK217, asK26, asK27]
def k2i0_d4 : List Duty := [(true, txK241, txK228), (true, txK241, txK228), (true, txK242, txK227), (true, txK242, txK227), (true, txK242, txK227), (true, txK242, txK227), (true, txK241, txK228), (false, (.fn 44 zK231), (.fn 44 zK26)), (true, txK242, txK227), zK219, (true, txK242, txK227), zK219]
def k2i0_h4 : List (Nat × E) := [(8, txK20), (4, txK20), (7, (.un .len txK20)), (9, zK20), (10, (.var 10)), (1, zK21), (3, (.un .len txK20)), (2, (.var 2)), (0, (.var 0))]
theorem k2i0_h4_a : lookE k2i0_h4 0 = (.var 0) ∧ lookE k2i0_h4 1 = zK21 ∧ lookE k2i0_h4 2 = (.var 2) ∧ lookE k2i0_h4 3 = (.un .len txK20) ∧ lookE k2i0_h4 4 = txK20 ∧ lookE k2i0_h4 7 = (.un .len txK20) ∧ lookE k2i0_h4 8 = txK20 ∧ lookE k2i0_h4 9 = zK20 ∧ lookE k2i0_h4 10 = (.var 10) := ⟨rfl, rfl, rfl, rfl, rfl, rfl, rfl, rfl, rfl⟩
theorem k2i0_y4 : nextJ (k2 0) (k2 1) k2i0_h4 [(13, 27), (5, 5), (3, 3), (7, 29), (1, 1)] (roundC Try.prog [] [] [(64, .lib (.clone)), (35, .lib (.keys 58 9))] 3000 40 5 [4, 1, 0, 1, 1, 1, 1, 1, 1, 1, 1] (tellA k2i0_t4) (k2 0)) = some k2i0_d4 := by kernel_rfl
def k2i0_t5 : List (Q × Bool) := [asK20, asK21, asK22, asK212, asK213, asK214, asK24, asK28, asK29, asK216, asK217, asK210, asK211, asK27]
def k2i0_d5 : List Duty := [(true, txK241, txK228), (true, txK241, txK228), (true, txK242, txK227), (true, txK242, txK227), (true, txK242, txK227), (true, txK242, txK227), (true, txK241, txK228), (false, (.fn 44 zK231), (.fn 44 zK26)), (true, txK242, txK227), zK219, (true, txK242, txK227), zK219]
def k2i0_h5 : List (Nat × E) := [(8, txK20), (4, txK20), (7, (.un .len txK20)), (9, zK20), (10, zK24), (1, zK21), (3, (.un .len txK20)), (2, (.var 2)), (0, (.var 0))]
theorem k2i0_h5_a : lookE k2i0_h5 0 = (.var 0) ∧ lookE k2i0_h5 1 = zK21 ∧ lookE k2i0_h5 2 = (.var 2) ∧ lookE k2i0_h5 3 = (.un .len txK20) ∧ lookE k2i0_h5 4 = txK20 ∧ lookE k2i0_h5 7 = (.un .len txK20) ∧ lookE k2i0_h5 8 = txK20 ∧ lookE k2i0_h5 9 = zK20 ∧ lookE k2i0_h5 10 = zK24 := ⟨rfl, rfl, rfl, rfl, rfl, rfl, rfl, rfl, rfl⟩
theorem k2i0_y5 : nextJ (k2 0) (k2 1) k2i0_h5 [(13, 27), (5, 5), (3, 3), (7, 29), (1, 1)] (roundC Try.prog [] [] [(64, .lib (.clone)), (35, .lib (.keys 58 9))] 3000 40 5 [4, 1, 0, 1, 1, 1, 1, 1, 1, 1, 1] (tellA k2i0_t5) (k2 0)) = some k2i0_d5 := by kernel_rfl
abbrev asK218 : Q × Bool := ((.fit .i64 (.var 7)), true)
abbrev asK219 : Q × Bool := ((.le (.int 0) (.var 7)), true)
abbrev asK220 : Q × Bool := ((.eq (.var 7) (.int 0)), false)
abbrev asK221 : Q × Bool := ((.le (.bi .mul (.var 7) (.int 2)) (.int 281474976710656)), true)
abbrev asK222 : Q × Bool := ((.le (.bi .mul (.var 3) (.int 2)) (.int 281474976710656)), true)
def k2i1_t0 : List (Q × Bool) := [asK20, asK21, asK22, asK23, asK24, asK25, asK218, asK219, asK220, asK221, asK26, asK222, asK27]
def k2i1_d0 : List Duty := [zK224, zK224, zK224, (false, (.var 8), (.var 4)), (true, txK231, txK223), (true, txK231, txK223), (true, txK232, txK222), (true, txK232, txK222), (true, txK232, txK222), (true, txK232, txK222), (true, txK231, txK223), (false, (.fn 44 zK210), (.fn 44 zK27)), (true, txK232, txK222), zK227, (true, txK232, txK222), zK227]
def k2i1_h0 : List (Nat × E) := [(6, (.var 4)), (4, (.var 4)), (9, zK20), (10, (.var 10)), (1, zK21), (5, (.var 3)), (3, (.var 3)), (2, (.var 2)), (0, (.var 0))]
theorem k2i1_h0_a : lookE k2i1_h0 0 = (.var 0) ∧ lookE k2i1_h0 1 = zK21 ∧ lookE k2i1_h0 2 = (.var 2) ∧ lookE k2i1_h0 3 = (.var 3) ∧ lookE k2i1_h0 4 = (.var 4) ∧ lookE k2i1_h0 5 = (.var 3) ∧ lookE k2i1_h0 6 = (.var 4) ∧ lookE k2i1_h0 9 = zK20 ∧ lookE k2i1_h0 10 = (.var 10) := ⟨rfl, rfl, rfl, rfl, rfl, rfl, rfl, rfl, rfl⟩
theorem k2i1_y0 : nextJ (k2 1) (k2 2) k2i1_h0 [(11, 17), (5, 5), (3, 3), (9, 21), (7, 7), (1, 1)] (roundC Try.prog [] [] [(64, .lib (.clone)), (35, .lib (.keys 58 9))] 3000 40 5 [4, 1, 0, 1, 1, 1, 1, 1, 1, 1, 1] (tellA k2i1_t0) (k2 1)) = some k2i1_d0 := by kernel_rfl
def k2i1_t1 : List (Q × Bool) := [asK20, asK21, asK22, asK23, asK24, asK28, asK29, asK218, asK219, asK220, asK221, asK210, asK211, asK222, asK27]
def k2i1_d1 : List Duty := [zK224, zK224, zK224, (false, (.var 8), (.var 4)), (true, txK231, txK223), (true, txK231, txK223), (true, txK232, txK222), (true, txK232, txK222), (true, txK232, txK222), (true, txK232, txK222), (true, txK231, txK223), (false, (.fn 44 zK210), (.fn 44 zK27)), (true, txK232, txK222), zK227, (true, txK232, txK222), zK227]
def k2i1_h1 : List (Nat × E) := [(6, (.var 4)), (4, (.var 4)), (9, zK20), (10, zK24), (1, zK21), (5, (.var 3)), (3, (.var 3)), (2, (.var 2)), (0, (.var 0))]
theorem k2i1_h1_a : lookE k2i1_h1 0 = (.var 0) ∧ lookE k2i1_h1 1 = zK21 ∧ lookE k2i1_h1 2 = (.var 2) ∧ lookE k2i1_h1 3 = (.var 3) ∧ lookE k2i1_h1 4 = (.var 4) ∧ lookE k2i1_h1 5 = (.var 3) ∧ lookE k2i1_h1 6 = (.var 4) ∧ lookE k2i1_h1 9 = zK20 ∧ lookE k2i1_h1 10 = zK24 := ⟨rfl, rfl, rfl, rfl, rfl, rfl, rfl, rfl, rfl⟩
theorem k2i1_y1 : nextJ (k2 1) (k2 2) k2i1_h1 [(11, 17), (5, 5), (3, 3), (9, 21), (7, 7), (1, 1)] (roundC Try.prog [] [] [(64, .lib (.clone)), (35, .lib (.keys 58 9))] 3000 40 5 [4, 1, 0, 1, 1, 1, 1, 1, 1, 1, 1] (tellA k2i1_t1) (k2 1)) = some k2i1_d1 := by kernel_rfl
abbrev asK223 : Q × Bool := ((.fit .i64 (.bi .sub (.int 3000) (.var 7))), true)
abbrev asK224 : Q × Bool := ((.le (.un .len txK20) (.bi .sub (.int 3000) (.var 7))), true)
abbrev asK225 : Q × Bool := ((.le (.bi .mul zK29 (.int 2)) (.int 281474976710656)), true)
abbrev asK226 : Q × Bool := ((.le (.int 1) (.var 7)), true)
abbrev asK227 : Q × Bool := ((.le (.bi .mul zK23 (.int 2)) (.int 281474976710656)), true)
def k2i1_t2 : List (Q × Bool) := [asK20, asK21, asK22, asK212, asK213, asK218, asK219, asK223, asK224, asK24, asK25, asK225, asK226, asK26, asK227, asK27]
def k2i1_d2 : List Duty := [(true, txK245, txK223), (true, txK245, txK223), (true, txK246, txK222), (true, txK246, txK222), (true, txK246, txK222), (true, txK246, txK222), (true, txK245, txK223), zK220, (true, txK246, txK222), zK212, (true, txK246, txK222), zK212]
def k2i1_h2 : List (Nat × E) := [(8, (.bi .app (.var 8) txK20)), (4, (.bi .app (.var 4) txK20)), (7, zK29), (9, zK20), (10, (.var 10)), (1, zK21), (3, zK23), (2, (.var 2)), (0, (.var 0))]
theorem k2i1_h2_a : lookE k2i1_h2 0 = (.var 0) ∧ lookE k2i1_h2 1 = zK21 ∧ lookE k2i1_h2 2 = (.var 2) ∧ lookE k2i1_h2 3 = zK23 ∧ lookE k2i1_h2 4 = (.bi .app (.var 4) txK20) ∧ lookE k2i1_h2 7 = zK29 ∧ lookE k2i1_h2 8 = (.bi .app (.var 8) txK20) ∧ lookE k2i1_h2 9 = zK20 ∧ lookE k2i1_h2 10 = (.var 10) := ⟨rfl, rfl, rfl, rfl, rfl, rfl, rfl, rfl, rfl⟩
theorem k2i1_y2 : nextJ (k2 1) (k2 1) k2i1_h2 [(13, 27), (5, 5), (3, 3), (7, 29), (1, 1)] (roundC Try.prog [] [] [(64, .lib (.clone)), (35, .lib (.keys 58 9))] 3000 40 5 [4, 1, 0, 1, 1, 1, 1, 1, 1, 1, 1] (tellA k2i1_t2) (k2 1)) = some k2i1_d2 := by kernel_rfl
def k2i1_t3 : List (Q × Bool) := [asK20, asK21, asK22, asK212, asK213, asK218, asK219, asK223, asK224, asK24, asK28, asK29, asK225, asK226, asK210, asK211, asK227, asK27]
def k2i1_d3 : List Duty := [(true, txK245, txK223), (true, txK245, txK223), (true, txK246, txK222), (true, txK246, txK222), (true, txK246, txK222), (true, txK246, txK222), (true, txK245, txK223), zK220, (true, txK246, txK222), zK212, (true, txK246, txK222), zK212]
def k2i1_h3 : List (Nat × E) := [(8, (.bi .app (.var 8) txK20)), (4, (.bi .app (.var 4) txK20)), (7, zK29), (9, zK20), (10, zK24), (1, zK21), (3, zK23), (2, (.var 2)), (0, (.var 0))]
theorem k2i1_h3_a : lookE k2i1_h3 0 = (.var 0) ∧ lookE k2i1_h3 1 = zK21 ∧ lookE k2i1_h3 2 = (.var 2) ∧ lookE k2i1_h3 3 = zK23 ∧ lookE k2i1_h3 4 = (.bi .app (.var 4) txK20) ∧ lookE k2i1_h3 7 = zK29 ∧ lookE k2i1_h3 8 = (.bi .app (.var 8) txK20) ∧ lookE k2i1_h3 9 = zK20 ∧ lookE k2i1_h3 10 = zK24 := ⟨rfl, rfl, rfl, rfl, rfl, rfl, rfl, rfl, rfl⟩
theorem k2i1_y3 : nextJ (k2 1) (k2 1) k2i1_h3 [(13, 27), (5, 5), (3, 3), (7, 29), (1, 1)] (roundC Try.prog [] [] [(64, .lib (.clone)), (35, .lib (.keys 58 9))] 3000 40 5 [4, 1, 0, 1, 1, 1, 1, 1, 1, 1, 1] (tellA k2i1_t3) (k2 1)) = some k2i1_d3 := by kernel_rfl
def k2i1_t4 : List (Q × Bool) := [asK20, asK21, asK22, asK212, asK213, asK218, asK219, asK223, asK224, asK24, asK25, asK225, asK226, asK26, asK227, asK27]
def k2i1_d4 : List Duty := [(true, txK245, txK223), (true, txK245, txK223), (true, txK246, txK222), (true, txK246, txK222), (true, txK246, txK222), (true, txK246, txK222), (true, txK245, txK223), zK220, (true, txK246, txK222), zK212, (true, txK246, txK222), zK212]
def k2i1_h4 : List (Nat × E) := [(8, (.bi .app (.var 8) txK20)), (4, (.bi .app (.var 4) txK20)), (7, zK29), (9, zK20), (10, (.var 10)), (1, zK21), (3, zK23), (2, (.var 2)), (0, (.var 0))]
theorem k2i1_h4_a : lookE k2i1_h4 0 = (.var 0) ∧ lookE k2i1_h4 1 = zK21 ∧ lookE k2i1_h4 2 = (.var 2) ∧ lookE k2i1_h4 3 = zK23 ∧ lookE k2i1_h4 4 = (.bi .app (.var 4) txK20) ∧ lookE k2i1_h4 7 = zK29 ∧ lookE k2i1_h4 8 = (.bi .app (.var 8) txK20) ∧ lookE k2i1_h4 9 = zK20 ∧ lookE k2i1_h4 10 = (.var 10) := ⟨rfl, rfl, rfl, rfl, rfl, rfl, rfl, rfl, rfl⟩
theorem k2i1_y4 : nextJ (k2 1) (k2 1) k2i1_h4 [(13, 27), (5, 5), (3, 3), (7, 29), (1, 1)] (roundC Try.prog [] [] [(64, .lib (.clone)), (35, .lib (.keys 58 9))] 3000 40 5 [4, 1, 0, 1, 1, 1, 1, 1, 1, 1, 1] (tellA k2i1_t4) (k2 1)) = some k2i1_d4 := by kernel_rfl
def k2i1_t5 : List (Q × Bool) := [asK20, asK21, asK22, asK212, asK213, asK218, asK219, asK223, asK224, asK24, asK28, asK29, asK225, asK226, asK210, asK211, asK227, asK27]
def k2i1_d5 : List Duty := [(true, txK245, txK223), (true, txK245, txK223), (true, txK246, txK222), (true, txK246, txK222), (true, txK246, txK222), (true, txK246, txK222), (true, txK245, txK223), zK220, (true, txK246, txK222), zK212, (true, txK246, txK222), zK212]
def k2i1_h5 : List (Nat × E) := [(8, (.bi .app (.var 8) txK20)), (4, (.bi .app (.var 4) txK20)), (7, zK29), (9, zK20), (10, zK24), (1, zK21), (3, zK23), (2, (.var 2)), (0, (.var 0))]
theorem k2i1_h5_a : lookE k2i1_h5 0 = (.var 0) ∧ lookE k2i1_h5 1 = zK21 ∧ lookE k2i1_h5 2 = (.var 2) ∧ lookE k2i1_h5 3 = zK23 ∧ lookE k2i1_h5 4 = (.bi .app (.var 4) txK20) ∧ lookE k2i1_h5 7 = zK29 ∧ lookE k2i1_h5 8 = (.bi .app (.var 8) txK20) ∧ lookE k2i1_h5 9 = zK20 ∧ lookE k2i1_h5 10 = zK24 := ⟨rfl, rfl, rfl, rfl, rfl, rfl, rfl, rfl, rfl⟩
theorem k2i1_y5 : nextJ (k2 1) (k2 1) k2i1_h5 [(13, 27), (5, 5), (3, 3), (7, 29), (1, 1)] (roundC Try.prog [] [] [(64, .lib (.clone)), (35, .lib (.keys 58 9))] 3000 40 5 [4, 1, 0, 1, 1, 1, 1, 1, 1, 1, 1] (tellA k2i1_t5) (k2 1)) = some k2i1_d5 := by kernel_rfl
abbrev asK228 : Q × Bool := ((.le (.un .len (.var 0)) (.var 1)), true)
def k2i2_t0 : List (Q × Bool) := [asK20, asK228]
def k2i2_d0 : List Duty := [(true, (.var 3), txK226), (true, (.var 3), txK226), (true, (.var 5), txK224), (true, (.var 5), txK224), (true, (.var 5), txK224), (true, (.var 5), txK224), (true, (.var 3), txK226), (false, (.var 4), (.fn 44 zK22)), (true, (.var 5), txK224), zK235, (true, (.var 5), txK224), zK235]
theorem k2i2_y0 : endD (k2 2) [(11, 11), (9, 9), (7, 7), (1, 1), (3, 3), (5, 5)] 1000 (roundC Try.prog [] [] [(64, .lib (.clone)), (35, .lib (.keys 58 9))] 3000 40 5 [4, 1, 0, 1, 1, 1, 1, 1, 1, 1, 1] (tellA k2i2_t0) (k2 2)) = some k2i2_d0 := by kernel_rfl
abbrev asK229 : Q × Bool := ((.eq (.var 10) (.int 0)), true)
abbrev asK230 : Q × Bool := ((.le (.var 2) (.var 1)), true)
def k2i2_t1 : List (Q × Bool) := [asK20, asK21, asK22, asK23, asK229, asK210, asK230, asK27]
def k2i2_d1 : List Duty := [(true, txK233, txK226), (true, txK233, txK226), (true, txK234, txK224), (true, txK234, txK224), (true, txK234, txK224), (true, txK234, txK224), (true, txK233, txK226), zK216, (true, txK234, txK224), zK25, (true, txK234, txK224), zK25]
def k2i2_h1 : List (Nat × E) := [(6, (.var 6)), (4, (.var 4)), (9, (.var 9)), (10, (.var 10)), (1, zK21), (5, (.var 5)), (3, (.var 3)), (2, (.var 2)), (0, (.var 0))]
theorem k2i2_h1_a : lookE k2i2_h1 0 = (.var 0) ∧ lookE k2i2_h1 1 = zK21 ∧ lookE k2i2_h1 2 = (.var 2) ∧ lookE k2i2_h1 3 = (.var 3) ∧ lookE k2i2_h1 4 = (.var 4) ∧ lookE k2i2_h1 5 = (.var 5) ∧ lookE k2i2_h1 6 = (.var 6) ∧ lookE k2i2_h1 9 = (.var 9) ∧ lookE k2i2_h1 10 = (.var 10) := ⟨rfl, rfl, rfl, rfl, rfl, rfl, rfl, rfl, rfl⟩
theorem k2i2_y1 : nextJ (k2 2) (k2 4) k2i2_h1 [(11, 11), (5, 5), (3, 3), (9, 9), (7, 7), (1, 1)] (roundC Try.prog [] [] [(64, .lib (.clone)), (35, .lib (.keys 58 9))] 3000 40 5 [4, 1, 0, 1, 1, 1, 1, 1, 1, 1, 1] (tellA k2i2_t1) (k2 2)) = some k2i2_d1 := by kernel_rfl
abbrev asK231 : Q × Bool := ((.fit .i64 (.var 5)), true)
abbrev asK232 : Q × Bool := ((.le (.int 0) (.var 5)), true)
abbrev asK233 : Q × Bool := ((.fit .i64 (.bi .sub (.int 3000) (.var 5))), true)
abbrev asK234 : Q × Bool := ((.le (.un .len txK20) (.bi .sub (.int 3000) (.var 5))), true)
def k2i2_t2 : List (Q × Bool) := [asK20, asK21, asK22, asK212, asK213, asK231, asK232, asK233, asK234, asK229, asK210, asK230, asK27]
def k2i2_d2 : List Duty := [(true, txK233, txK226), (true, txK233, txK226), (true, txK234, txK224), (true, txK234, txK224), (true, txK234, txK224), (true, txK234, txK224), (true, txK233, txK226), zK216, (true, txK234, txK224), zK25, (true, txK234, txK224), zK25]
def k2i2_h2 : List (Nat × E) := [(6, (.var 6)), (4, (.var 4)), (9, (.var 9)), (10, (.var 10)), (1, zK21), (5, (.var 5)), (3, (.var 3)), (2, (.var 2)), (0, (.var 0))]
theorem k2i2_h2_a : lookE k2i2_h2 0 = (.var 0) ∧ lookE k2i2_h2 1 = zK21 ∧ lookE k2i2_h2 2 = (.var 2) ∧ lookE k2i2_h2 3 = (.var 3) ∧ lookE k2i2_h2 4 = (.var 4) ∧ lookE k2i2_h2 5 = (.var 5) ∧ lookE k2i2_h2 6 = (.var 6) ∧ lookE k2i2_h2 9 = (.var 9) ∧ lookE k2i2_h2 10 = (.var 10) := ⟨rfl, rfl, rfl, rfl, rfl, rfl, rfl, rfl, rfl⟩
theorem k2i2_y2 : nextJ (k2 2) (k2 4) k2i2_h2 [(11, 11), (5, 5), (3, 3), (9, 9), (7, 7), (1, 1)] (roundC Try.prog [] [] [(64, .lib (.clone)), (35, .lib (.keys 58 9))] 3000 40 5 [4, 1, 0, 1, 1, 1, 1, 1, 1, 1, 1] (tellA k2i2_t2) (k2 2)) = some k2i2_d2 := by kernel_rfl
abbrev asK235 : Q × Bool := ((.le (.bi .mul (.var 5) (.int 2)) (.int 281474976710656)), true)
def k2i2_t3 : List (Q × Bool) := [asK20, asK21, asK22, asK23, asK24, asK25, asK235, asK26, asK222, asK27]
def k2i2_d3 : List Duty := [zK225, zK225, zK225, (false, (.var 6), (.var 4)), (true, txK231, txK226), (true, txK231, txK226), (true, txK232, txK224), (true, txK232, txK224), (true, txK232, txK224), (true, txK232, txK224), (true, txK231, txK226), (false, (.fn 44 zK210), (.fn 44 zK22)), (true, txK232, txK224), zK228, (true, txK232, txK224), zK228]
def k2i2_h3 : List (Nat × E) := [(6, (.var 4)), (4, (.var 4)), (9, zK20), (10, (.var 10)), (1, zK21), (5, (.var 3)), (3, (.var 3)), (2, (.var 2)), (0, (.var 0))]
theorem k2i2_h3_a : lookE k2i2_h3 0 = (.var 0) ∧ lookE k2i2_h3 1 = zK21 ∧ lookE k2i2_h3 2 = (.var 2) ∧ lookE k2i2_h3 3 = (.var 3) ∧ lookE k2i2_h3 4 = (.var 4) ∧ lookE k2i2_h3 5 = (.var 3) ∧ lookE k2i2_h3 6 = (.var 4) ∧ lookE k2i2_h3 9 = zK20 ∧ lookE k2i2_h3 10 = (.var 10) := ⟨rfl, rfl, rfl, rfl, rfl, rfl, rfl, rfl, rfl⟩
theorem k2i2_y3 : nextJ (k2 2) (k2 2) k2i2_h3 [(11, 17), (5, 5), (3, 3), (9, 21), (7, 7), (1, 1)] (roundC Try.prog [] [] [(64, .lib (.clone)), (35, .lib (.keys 58 9))] 3000 40 5 [4, 1, 0, 1, 1, 1, 1, 1, 1, 1, 1] (tellA k2i2_t3) (k2 2)) = some k2i2_d3 := by kernel_rfl
def k2i2_t4 : List (Q × Bool) := [asK20, asK21, asK22, asK23, asK24, asK28, asK29, asK235, asK210, asK211, asK222, asK27]
def k2i2_d4 : List Duty := [zK225, zK225, zK225, (false, (.var 6), (.var 4)), (true, txK231, txK226), (true, txK231, txK226), (true, txK232, txK224), (true, txK232, txK224), (true, txK232, txK224), (true, txK232, txK224), (true, txK231, txK226), (false, (.fn 44 zK210), (.fn 44 zK22)), (true, txK232, txK224), zK228, (true, txK232, txK224), zK228]
def k2i2_h4 : List (Nat × E) := [(6, (.var 4)), (4, (.var 4)), (9, zK20), (10, zK24), (1, zK21), (5, (.var 3)), (3, (.var 3)), (2, (.var 2)), (0, (.var 0))]
theorem k2i2_h4_a : lookE k2i2_h4 0 = (.var 0) ∧ lookE k2i2_h4 1 = zK21 ∧ lookE k2i2_h4 2 = (.var 2) ∧ lookE k2i2_h4 3 = (.var 3) ∧ lookE k2i2_h4 4 = (.var 4) ∧ lookE k2i2_h4 5 = (.var 3) ∧ lookE k2i2_h4 6 = (.var 4) ∧ lookE k2i2_h4 9 = zK20 ∧ lookE k2i2_h4 10 = zK24 := ⟨rfl, rfl, rfl, rfl, rfl, rfl, rfl, rfl, rfl⟩
theorem k2i2_y4 : nextJ (k2 2) (k2 2) k2i2_h4 [(11, 17), (5, 5), (3, 3), (9, 21), (7, 7), (1, 1)] (roundC Try.prog [] [] [(64, .lib (.clone)), (35, .lib (.keys 58 9))] 3000 40 5 [4, 1, 0, 1, 1, 1, 1, 1, 1, 1, 1] (tellA k2i2_t4) (k2 2)) = some k2i2_d4 := by kernel_rfl
def k2i2_t5 : List (Q × Bool) := [asK20, asK21, asK22, asK212, asK213, asK231, asK232, asK233, asK234, asK24, asK25, asK215, asK26, asK227, asK27]
def k2i2_d5 : List Duty := [(true, txK233, txK226), (true, txK233, txK226), (true, txK234, txK224), (true, txK234, txK224), (true, txK234, txK224), (true, txK234, txK224), (true, txK233, txK226), zK216, (true, txK234, txK224), zK25, (true, txK234, txK224), zK25]
def k2i2_h5 : List (Nat × E) := [(6, (.var 6)), (4, (.bi .app (.var 4) txK20)), (9, zK20), (10, (.var 10)), (1, zK21), (5, (.var 5)), (3, zK23), (2, (.var 2)), (0, (.var 0))]
theorem k2i2_h5_a : lookE k2i2_h5 0 = (.var 0) ∧ lookE k2i2_h5 1 = zK21 ∧ lookE k2i2_h5 2 = (.var 2) ∧ lookE k2i2_h5 3 = zK23 ∧ lookE k2i2_h5 4 = (.bi .app (.var 4) txK20) ∧ lookE k2i2_h5 5 = (.var 5) ∧ lookE k2i2_h5 6 = (.var 6) ∧ lookE k2i2_h5 9 = zK20 ∧ lookE k2i2_h5 10 = (.var 10) := ⟨rfl, rfl, rfl, rfl, rfl, rfl, rfl, rfl, rfl⟩
theorem k2i2_y5 : nextJ (k2 2) (k2 2) k2i2_h5 [(11, 11), (5, 5), (3, 3), (9, 9), (7, 27), (1, 1)] (roundC Try.prog [] [] [(64, .lib (.clone)), (35, .lib (.keys 58 9))] 3000 40 5 [4, 1, 0, 1, 1, 1, 1, 1, 1, 1, 1] (tellA k2i2_t5) (k2 2)) = some k2i2_d5 := by kernel_rfl
def k2i2_t6 : List (Q × Bool) := [asK20, asK21, asK22, asK212, asK213, asK231, asK232, asK233, asK234, asK24, asK28, asK29, asK215, asK210, asK211, asK227, asK27]
def k2i2_d6 : List Duty := [(true, txK233, txK226), (true, txK233, txK226), (true, txK234, txK224), (true, txK234, txK224), (true, txK234, txK224), (true, txK234, txK224), (true, txK233, txK226), zK216, (true, txK234, txK224), zK25, (true, txK234, txK224), zK25]
def k2i2_h6 : List (Nat × E) := [(6, (.var 6)), (4, (.bi .app (.var 4) txK20)), (9, zK20), (10, zK24), (1, zK21), (5, (.var 5)), (3, zK23), (2, (.var 2)), (0, (.var 0))]
theorem k2i2_h6_a : lookE k2i2_h6 0 = (.var 0) ∧ lookE k2i2_h6 1 = zK21 ∧ lookE k2i2_h6 2 = (.var 2) ∧ lookE k2i2_h6 3 = zK23 ∧ lookE k2i2_h6 4 = (.bi .app (.var 4) txK20) ∧ lookE k2i2_h6 5 = (.var 5) ∧ lookE k2i2_h6 6 = (.var 6) ∧ lookE k2i2_h6 9 = zK20 ∧ lookE k2i2_h6 10 = zK24 := ⟨rfl, rfl, rfl, rfl, rfl, rfl, rfl, rfl, rfl⟩
theorem k2i2_y6 : nextJ (k2 2) (k2 2) k2i2_h6 [(11, 11), (5, 5), (3, 3), (9, 9), (7, 27), (1, 1)] (roundC Try.prog [] [] [(64, .lib (.clone)), (35, .lib (.keys 58 9))] 3000 40 5 [4, 1, 0, 1, 1, 1, 1, 1, 1, 1, 1] (tellA k2i2_t6) (k2 2)) = some k2i2_d6 := by kernel_rfl
def k2i2_t7 : List (Q × Bool) := [asK20, asK21, asK22, asK212, asK213, asK231, asK232, asK233, asK234, asK24, asK25, asK216, asK217, asK26, asK227, asK27]
def k2i2_d7 : List Duty := [(true, txK239, txK226), (true, txK239, txK226), (true, txK240, txK224), (true, txK240, txK224), (true, txK240, txK224), (true, txK240, txK224), (true, txK239, txK226), (false, (.fn 44 zK232), (.fn 44 zK22)), (true, txK240, txK224), zK221, (true, txK240, txK224), zK221]
def k2i2_h7 : List (Nat × E) := [(8, txK20), (6, (.var 6)), (4, (.bi .app (.var 4) txK20)), (7, (.un .len txK20)), (9, zK20), (10, (.var 10)), (1, zK21), (5, (.var 5)), (3, zK23), (2, (.var 2)), (0, (.var 0))]
theorem k2i2_h7_a : lookE k2i2_h7 0 = (.var 0) ∧ lookE k2i2_h7 1 = zK21 ∧ lookE k2i2_h7 2 = (.var 2) ∧ lookE k2i2_h7 3 = zK23 ∧ lookE k2i2_h7 4 = (.bi .app (.var 4) txK20) ∧ lookE k2i2_h7 5 = (.var 5) ∧ lookE k2i2_h7 6 = (.var 6) ∧ lookE k2i2_h7 7 = (.un .len txK20) ∧ lookE k2i2_h7 8 = txK20 ∧ lookE k2i2_h7 9 = zK20 ∧ lookE k2i2_h7 10 = (.var 10) := ⟨rfl, rfl, rfl, rfl, rfl, rfl, rfl, rfl, rfl, rfl, rfl⟩
theorem k2i2_y7 : nextJ (k2 2) (k2 3) k2i2_h7 [(13, 27), (11, 11), (5, 5), (3, 3), (9, 9), (7, 29), (1, 1)] (roundC Try.prog [] [] [(64, .lib (.clone)), (35, .lib (.keys 58 9))] 3000 40 5 [4, 1, 0, 1, 1, 1, 1, 1, 1, 1, 1] (tellA k2i2_t7) (k2 2)) = some k2i2_d7 := by kernel_rfl
def k2i2_t8 : List (Q × Bool) := [asK20, asK21, asK22, asK212, asK213, asK231, asK232, asK233, asK234, asK24, asK28, asK29, asK216, asK217, asK210, asK211, asK227, asK27]
def k2i2_d8 : List Duty := [(true, txK239, txK226), (true, txK239, txK226), (true, txK240, txK224), (true, txK240, txK224), (true, txK240, txK224), (true, txK240, txK224), (true, txK239, txK226), (false, (.fn 44 zK232), (.fn 44 zK22)), (true, txK240, txK224), zK221, (true, txK240, txK224), zK221]
def k2i2_h8 : List (Nat × E) := [(8, txK20), (6, (.var 6)), (4, (.bi .app (.var 4) txK20)), (7, (.un .len txK20)), (9, zK20), (10, zK24), (1, zK21), (5, (.var 5)), (3, zK23), (2, (.var 2)), (0, (.var 0))]
theorem k2i2_h8_a : lookE k2i2_h8 0 = (.var 0) ∧ lookE k2i2_h8 1 = zK21 ∧ lookE k2i2_h8 2 = (.var 2) ∧ lookE k2i2_h8 3 = zK23 ∧ lookE k2i2_h8 4 = (.bi .app (.var 4) txK20) ∧ lookE k2i2_h8 5 = (.var 5) ∧ lookE k2i2_h8 6 = (.var 6) ∧ lookE k2i2_h8 7 = (.un .len txK20) ∧ lookE k2i2_h8 8 = txK20 ∧ lookE k2i2_h8 9 = zK20 ∧ lookE k2i2_h8 10 = zK24 := ⟨rfl, rfl, rfl, rfl, rfl, rfl, rfl, rfl, rfl, rfl, rfl⟩
theorem k2i2_y8 : nextJ (k2 2) (k2 3) k2i2_h8 [(13, 27), (11, 11), (5, 5), (3, 3), (9, 9), (7, 29), (1, 1)] (roundC Try.prog [] [] [(64, .lib (.clone)), (35, .lib (.keys 58 9))] 3000 40 5 [4, 1, 0, 1, 1, 1, 1, 1, 1, 1, 1] (tellA k2i2_t8) (k2 2)) = some k2i2_d8 := by kernel_rfl
abbrev asK236 : Q × Bool := ((.le (.bi .mul zK217 (.int 2)) (.int 281474976710656)), true)
def k2i3_t0 : List (Q × Bool) := [asK20, asK21, asK22, asK23, asK24, asK25, asK218, asK219, asK236, asK26, asK222, asK27]
def k2i3_d0 : List Duty := [(true, zK217, (.var 3)), (true, zK217, (.var 3)), (true, zK217, (.var 3)), (false, zK246, (.var 4)), (true, txK231, txK220), (true, txK231, txK220), (true, txK232, txK219), (true, txK232, txK219), (true, txK232, txK219), (true, txK232, txK219), (true, txK231, txK220), (false, (.fn 44 zK210), (.fn 44 zK28)), (true, txK232, txK219), zK229, (true, txK232, txK219), zK229]
def k2i3_h0 : List (Nat × E) := [(6, (.var 4)), (4, (.var 4)), (9, zK20), (10, (.var 10)), (1, zK21), (5, (.var 3)), (3, (.var 3)), (2, (.var 2)), (0, (.var 0))]
theorem k2i3_h0_a : lookE k2i3_h0 0 = (.var 0) ∧ lookE k2i3_h0 1 = zK21 ∧ lookE k2i3_h0 2 = (.var 2) ∧ lookE k2i3_h0 3 = (.var 3) ∧ lookE k2i3_h0 4 = (.var 4) ∧ lookE k2i3_h0 5 = (.var 3) ∧ lookE k2i3_h0 6 = (.var 4) ∧ lookE k2i3_h0 9 = zK20 ∧ lookE k2i3_h0 10 = (.var 10) := ⟨rfl, rfl, rfl, rfl, rfl, rfl, rfl, rfl, rfl⟩
theorem k2i3_y0 : nextJ (k2 3) (k2 2) k2i3_h0 [(11, 17), (5, 5), (3, 3), (9, 21), (7, 7), (1, 1)] (roundC Try.prog [] [] [(64, .lib (.clone)), (35, .lib (.keys 58 9))] 3000 40 5 [4, 1, 0, 1, 1, 1, 1, 1, 1, 1, 1] (tellA k2i3_t0) (k2 3)) = some k2i3_d0 := by kernel_rfl
def k2i3_t1 : List (Q × Bool) := [asK20, asK21, asK22, asK23, asK24, asK28, asK29, asK218, asK219, asK236, asK210, asK211, asK222, asK27]
def k2i3_d1 : List Duty := [(true, zK217, (.var 3)), (true, zK217, (.var 3)), (true, zK217, (.var 3)), (false, zK246, (.var 4)), (true, txK231, txK220), (true, txK231, txK220), (true, txK232, txK219), (true, txK232, txK219), (true, txK232, txK219), (true, txK232, txK219), (true, txK231, txK220), (false, (.fn 44 zK210), (.fn 44 zK28)), (true, txK232, txK219), zK229, (true, txK232, txK219), zK229]
def k2i3_h1 : List (Nat × E) := [(6, (.var 4)), (4, (.var 4)), (9, zK20), (10, zK24), (1, zK21), (5, (.var 3)), (3, (.var 3)), (2, (.var 2)), (0, (.var 0))]
theorem k2i3_h1_a : lookE k2i3_h1 0 = (.var 0) ∧ lookE k2i3_h1 1 = zK21 ∧ lookE k2i3_h1 2 = (.var 2) ∧ lookE k2i3_h1 3 = (.var 3) ∧ lookE k2i3_h1 4 = (.var 4) ∧ lookE k2i3_h1 5 = (.var 3) ∧ lookE k2i3_h1 6 = (.var 4) ∧ lookE k2i3_h1 9 = zK20 ∧ lookE k2i3_h1 10 = zK24 := ⟨rfl, rfl, rfl, rfl, rfl, rfl, rfl, rfl, rfl⟩
theorem k2i3_y1 : nextJ (k2 3) (k2 2) k2i3_h1 [(11, 17), (5, 5), (3, 3), (9, 21), (7, 7), (1, 1)] (roundC Try.prog [] [] [(64, .lib (.clone)), (35, .lib (.keys 58 9))] 3000 40 5 [4, 1, 0, 1, 1, 1, 1, 1, 1, 1, 1] (tellA k2i3_t1) (k2 3)) = some k2i3_d1 := by kernel_rfl
abbrev asK237 : Q × Bool := ((.fit .i64 zK217), true)
abbrev asK238 : Q × Bool := ((.le (.int 0) zK217), true)
abbrev asK239 : Q × Bool := ((.fit .i64 (.bi .sub (.int 3000) zK217)), true)
abbrev asK240 : Q × Bool := ((.le (.un .len txK20) (.bi .sub (.int 3000) zK217)), true)
def k2i3_t2 : List (Q × Bool) := [asK20, asK21, asK22, asK212, asK213, asK231, asK218, asK237, asK238, asK239, asK240, asK24, asK25, asK225, asK226, asK26, asK227, asK27]
def k2i3_d2 : List Duty := [(true, txK243, txK220), (true, txK243, txK220), (true, txK244, txK219), (true, txK244, txK219), (true, txK244, txK219), (true, txK244, txK219), (true, txK243, txK220), zK222, (true, txK244, txK219), zK213, (true, txK244, txK219), zK213]
def k2i3_h2 : List (Nat × E) := [(8, (.bi .app (.var 8) txK20)), (6, (.var 6)), (4, (.bi .app (.var 4) txK20)), (7, zK29), (9, zK20), (10, (.var 10)), (1, zK21), (5, (.var 5)), (3, zK23), (2, (.var 2)), (0, (.var 0))]
theorem k2i3_h2_a : lookE k2i3_h2 0 = (.var 0) ∧ lookE k2i3_h2 1 = zK21 ∧ lookE k2i3_h2 2 = (.var 2) ∧ lookE k2i3_h2 3 = zK23 ∧ lookE k2i3_h2 4 = (.bi .app (.var 4) txK20) ∧ lookE k2i3_h2 5 = (.var 5) ∧ lookE k2i3_h2 6 = (.var 6) ∧ lookE k2i3_h2 7 = zK29 ∧ lookE k2i3_h2 8 = (.bi .app (.var 8) txK20) ∧ lookE k2i3_h2 9 = zK20 ∧ lookE k2i3_h2 10 = (.var 10) := ⟨rfl, rfl, rfl, rfl, rfl, rfl, rfl, rfl, rfl, rfl, rfl⟩
theorem k2i3_y2 : nextJ (k2 3) (k2 3) k2i3_h2 [(13, 27), (11, 11), (5, 5), (3, 3), (9, 9), (7, 29), (1, 1)] (roundC Try.prog [] [] [(64, .lib (.clone)), (35, .lib (.keys 58 9))] 3000 40 5 [4, 1, 0, 1, 1, 1, 1, 1, 1, 1, 1] (tellA k2i3_t2) (k2 3)) = some k2i3_d2 := by kernel_rfl
def k2i3_t3 : List (Q × Bool) := [asK20, asK21, asK22, asK212, asK213, asK231, asK218, asK237, asK238, asK239, asK240, asK24, asK28, asK29, asK225, asK226, asK210, asK211, asK227, asK27]
def k2i3_d3 : List Duty := [(true, txK243, txK220), (true, txK243, txK220), (true, txK244, txK219), (true, txK244, txK219), (true, txK244, txK219), (true, txK244, txK219), (true, txK243, txK220), zK222, (true, txK244, txK219), zK213, (true, txK244, txK219), zK213]
def k2i3_h3 : List (Nat × E) := [(8, (.bi .app (.var 8) txK20)), (6, (.var 6)), (4, (.bi .app (.var 4) txK20)), (7, zK29), (9, zK20), (10, zK24), (1, zK21), (5, (.var 5)), (3, zK23), (2, (.var 2)), (0, (.var 0))]
theorem k2i3_h3_a : lookE k2i3_h3 0 = (.var 0) ∧ lookE k2i3_h3 1 = zK21 ∧ lookE k2i3_h3 2 = (.var 2) ∧ lookE k2i3_h3 3 = zK23 ∧ lookE k2i3_h3 4 = (.bi .app (.var 4) txK20) ∧ lookE k2i3_h3 5 = (.var 5) ∧ lookE k2i3_h3 6 = (.var 6) ∧ lookE k2i3_h3 7 = zK29 ∧ lookE k2i3_h3 8 = (.bi .app (.var 8) txK20) ∧ lookE k2i3_h3 9 = zK20 ∧ lookE k2i3_h3 10 = zK24 := ⟨rfl, rfl, rfl, rfl, rfl, rfl, rfl, rfl, rfl, rfl, rfl⟩
theorem k2i3_y3 : nextJ (k2 3) (k2 3) k2i3_h3 [(13, 27), (11, 11), (5, 5), (3, 3), (9, 9), (7, 29), (1, 1)] (roundC Try.prog [] [] [(64, .lib (.clone)), (35, .lib (.keys 58 9))] 3000 40 5 [4, 1, 0, 1, 1, 1, 1, 1, 1, 1, 1] (tellA k2i3_t3) (k2 3)) = some k2i3_d3 := by kernel_rfl
def k2i3_t4 : List (Q × Bool) := [asK20, asK21, asK22, asK212, asK213, asK231, asK218, asK237, asK238, asK239, asK240, asK24, asK25, asK225, asK226, asK26, asK227, asK27]
def k2i3_d4 : List Duty := [(true, txK243, txK220), (true, txK243, txK220), (true, txK244, txK219), (true, txK244, txK219), (true, txK244, txK219), (true, txK244, txK219), (true, txK243, txK220), zK222, (true, txK244, txK219), zK213, (true, txK244, txK219), zK213]
def k2i3_h4 : List (Nat × E) := [(8, (.bi .app (.var 8) txK20)), (6, (.var 6)), (4, (.bi .app (.var 4) txK20)), (7, zK29), (9, zK20), (10, (.var 10)), (1, zK21), (5, (.var 5)), (3, zK23), (2, (.var 2)), (0, (.var 0))]
theorem k2i3_h4_a : lookE k2i3_h4 0 = (.var 0) ∧ lookE k2i3_h4 1 = zK21 ∧ lookE k2i3_h4 2 = (.var 2) ∧ lookE k2i3_h4 3 = zK23 ∧ lookE k2i3_h4 4 = (.bi .app (.var 4) txK20) ∧ lookE k2i3_h4 5 = (.var 5) ∧ lookE k2i3_h4 6 = (.var 6) ∧ lookE k2i3_h4 7 = zK29 ∧ lookE k2i3_h4 8 = (.bi .app (.var 8) txK20) ∧ lookE k2i3_h4 9 = zK20 ∧ lookE k2i3_h4 10 = (.var 10) := ⟨rfl, rfl, rfl, rfl, rfl, rfl, rfl, rfl, rfl, rfl, rfl⟩
theorem k2i3_y4 : nextJ (k2 3) (k2 3) k2i3_h4 [(13, 27), (11, 11), (5, 5), (3, 3), (9, 9), (7, 29), (1, 1)] (roundC Try.prog [] [] [(64, .lib (.clone)), (35, .lib (.keys 58 9))] 3000 40 5 [4, 1, 0, 1, 1, 1, 1, 1, 1, 1, 1] (tellA k2i3_t4) (k2 3)) = some k2i3_d4 := by kernel_rfl
def k2i3_t5 : List (Q × Bool) := [asK20, asK21, asK22, asK212, asK213, asK231, asK218, asK237, asK238, asK239, asK240, asK24, asK28, asK29, asK225, asK226, asK210, asK211, asK227, asK27]
def k2i3_d5 : List Duty := [(true, txK243, txK220), (true, txK243, txK220), (true, txK244, txK219), (true, txK244, txK219), (true, txK244, txK219), (true, txK244, txK219), (true, txK243, txK220), zK222, (true, txK244, txK219), zK213, (true, txK244, txK219), zK213]
def k2i3_h5 : List (Nat × E) := [(8, (.bi .app (.var 8) txK20)), (6, (.var 6)), (4, (.bi .app (.var 4) txK20)), (7, zK29), (9, zK20), (10, zK24), (1, zK21), (5, (.var 5)), (3, zK23), (2, (.var 2)), (0, (.var 0))]
theorem k2i3_h5_a : lookE k2i3_h5 0 = (.var 0) ∧ lookE k2i3_h5 1 = zK21 ∧ lookE k2i3_h5 2 = (.var 2) ∧ lookE k2i3_h5 3 = zK23 ∧ lookE k2i3_h5 4 = (.bi .app (.var 4) txK20) ∧ lookE k2i3_h5 5 = (.var 5) ∧ lookE k2i3_h5 6 = (.var 6) ∧ lookE k2i3_h5 7 = zK29 ∧ lookE k2i3_h5 8 = (.bi .app (.var 8) txK20) ∧ lookE k2i3_h5 9 = zK20 ∧ lookE k2i3_h5 10 = zK24 := ⟨rfl, rfl, rfl, rfl, rfl, rfl, rfl, rfl, rfl, rfl, rfl⟩
theorem k2i3_y5 : nextJ (k2 3) (k2 3) k2i3_h5 [(13, 27), (11, 11), (5, 5), (3, 3), (9, 9), (7, 29), (1, 1)] (roundC Try.prog [] [] [(64, .lib (.clone)), (35, .lib (.keys 58 9))] 3000 40 5 [4, 1, 0, 1, 1, 1, 1, 1, 1, 1, 1] (tellA k2i3_t5) (k2 3)) = some k2i3_d5 := by kernel_rfl
def k2o2_t0 : List (Q × Bool) := [asK20, asK228]
def k2o2_d0 : List Duty := [(true, (.var 3), txK226), (true, (.var 3), txK226), (true, (.var 5), txK224), (true, (.var 5), txK224), (true, (.var 5), txK224), (true, (.var 5), txK224), (true, (.var 3), txK226), (false, (.var 4), (.fn 44 zK22)), (true, (.var 5), txK224), zK235, (true, (.var 5), txK224), zK235]
theorem k2o2_y0 : endD (k2 4) [(11, 11), (9, 9), (7, 7), (1, 1), (3, 3), (5, 5)] 1000 (roundC Try.prog [] [] [(64, .lib (.clone)), (35, .lib (.keys 58 9))] 3000 40 5 [4, 1, 0, 1, 1, 1, 1, 1, 1, 1, 1] (tellA k2o2_t0) (k2 4)) = some k2o2_d0 := by kernel_rfl
def k2o2_t1 : List (Q × Bool) := [asK20, asK21, asK22, asK23, asK210, asK230, asK27]
def k2o2_d1 : List Duty := [(true, txK233, txK226), (true, txK233, txK226), (true, txK234, txK224), (true, txK234, txK224), (true, txK234, txK224), (true, txK234, txK224), (true, txK233, txK226), zK216, (true, txK234, txK224), zK25, (true, txK234, txK224), zK25]
def k2o2_h1 : List (Nat × E) := [(6, (.var 6)), (4, (.var 4)), (9, (.var 9)), (10, (.var 10)), (1, zK21), (5, (.var 5)), (3, (.var 3)), (2, (.var 2)), (0, (.var 0))]
theorem k2o2_h1_a : lookE k2o2_h1 0 = (.var 0) ∧ lookE k2o2_h1 1 = zK21 ∧ lookE k2o2_h1 2 = (.var 2) ∧ lookE k2o2_h1 3 = (.var 3) ∧ lookE k2o2_h1 4 = (.var 4) ∧ lookE k2o2_h1 5 = (.var 5) ∧ lookE k2o2_h1 6 = (.var 6) ∧ lookE k2o2_h1 9 = (.var 9) ∧ lookE k2o2_h1 10 = (.var 10) := ⟨rfl, rfl, rfl, rfl, rfl, rfl, rfl, rfl, rfl⟩
theorem k2o2_y1 : nextJ (k2 4) (k2 4) k2o2_h1 [(11, 11), (5, 5), (3, 3), (9, 9), (7, 7), (1, 1)] (roundC Try.prog [] [] [(64, .lib (.clone)), (35, .lib (.keys 58 9))] 3000 40 5 [4, 1, 0, 1, 1, 1, 1, 1, 1, 1, 1] (tellA k2o2_t1) (k2 4)) = some k2o2_d1 := by kernel_rfl
def k2o2_t2 : List (Q × Bool) := [asK20, asK21, asK22, asK212, asK210, asK230, asK27]
def k2o2_d2 : List Duty := [(true, txK233, txK226), (true, txK233, txK226), (true, txK234, txK224), (true, txK234, txK224), (true, txK234, txK224), (true, txK234, txK224), (true, txK233, txK226), zK216, (true, txK234, txK224), zK25, (true, txK234, txK224), zK25]
def k2o2_h2 : List (Nat × E) := [(6, (.var 6)), (4, (.var 4)), (9, (.var 9)), (10, (.var 10)), (1, zK21), (5, (.var 5)), (3, (.var 3)), (2, (.var 2)), (0, (.var 0))]
theorem k2o2_h2_a : lookE k2o2_h2 0 = (.var 0) ∧ lookE k2o2_h2 1 = zK21 ∧ lookE k2o2_h2 2 = (.var 2) ∧ lookE k2o2_h2 3 = (.var 3) ∧ lookE k2o2_h2 4 = (.var 4) ∧ lookE k2o2_h2 5 = (.var 5) ∧ lookE k2o2_h2 6 = (.var 6) ∧ lookE k2o2_h2 9 = (.var 9) ∧ lookE k2o2_h2 10 = (.var 10) := ⟨rfl, rfl, rfl, rfl, rfl, rfl, rfl, rfl, rfl⟩
theorem k2o2_y2 : nextJ (k2 4) (k2 4) k2o2_h2 [(11, 11), (5, 5), (3, 3), (9, 9), (7, 7), (1, 1)] (roundC Try.prog [] [] [(64, .lib (.clone)), (35, .lib (.keys 58 9))] 3000 40 5 [4, 1, 0, 1, 1, 1, 1, 1, 1, 1, 1] (tellA k2o2_t2) (k2 4)) = some k2o2_d2 := by kernel_rfl
set_option maxHeartbeats 16000000 in
theorem k2_holds : ∀ i, i < 5 → LHolds Try.prog (loopAt Try.prog 5 [4, 1, 0, 1, 1, 1, 1, 1, 1, 1, 1]) (k2 i) F := by
 refine loop_famC sound (tableNil _ _) (specsNil _ _) (oversLib cloneL_holds (oversLib keysL0_holds (oversNil _ _))) (fuel := 3000) (depth := 40) (by kernel_rfl) (fun i d => match i with | 0 => ((d 0).toList.length - (d 1).toInt).toNat | 1 => ((d 0).toList.length - (d 1).toInt).toNat | 2 => ((d 0).toList.length - (d 1).toInt).toNat | 3 => ((d 0).toList.length - (d 1).toInt).toNat | _ => ((d 0).toList.length - (d 1).toInt).toNat) ?_
 intro i hi d hp hR hA
 match i, hi with
 | 0, _ =>
   have hp := allTold'_iff.2 hp
   simp only [k2, k2i0, tl] at hp hR hA
   simp only [gk, tl] at hp
   obtain ⟨p1, p2, p3, p4, i1, i2, e1, e2⟩ := hp
   have g0 : (d 0).ints.length = (d 0).toList.length := (len_ints _).symm
   by_cases h : ((d 0).toList.length : Int) ≤ (d 1).toInt
   ·have he := goK_end (f := (d 2).toInt) h ([], [])
    simp only [he] at e1 e2
    (exfalso; (try simp only [D.ints_ofInts, List.length_nil, List.length_append] at *); omega)
   ·have hl := lenP_step (l := (d 0).toList) (i := (d 1).toInt.toNat) (by omega) (by omega)
    have hn := lenP_nn (((d 0).toList.take 61).drop ((d 1).toInt.toNat + 1))
    have hi : ((d 1).toInt + 1).toNat = (d 1).toInt.toNat + 1 := by omega
    have hst := goK_step (f := (d 2).toInt) (l := (d 0).toList) (i := (d 1).toInt) p1 (by omega)
    simp only [hi] at hst
    generalize hX : (d 0).toList[(d 1).toInt.toNat]?.getD (D.int 0) = X at *
    generalize hB : bytP X = B at *
    generalize hN : X.ints[1]?.getD 0 = N at *
    unfold bytP at hB
    have g1 : B.ints.length = B.toList.length := (len_ints _).symm
    have hsy : synP X = decide (N ≠ 0) := by unfold synP; rw [hN]
    by_cases ho : (d 2).toInt = (d 1).toInt
    ·have hq := goK_out (f := (d 2).toInt) (i := (d 1).toInt) (by omega) (by omega) ((d 0).toList.drop (d 1).toInt.toNat) ([], [])
     simp only [hq] at e1 e2
     (exfalso; (try simp only [D.ints_ofInts, List.length_nil, List.length_append] at *); omega)
    ·by_cases hu : (d 2).toInt < 0
     ·have hs := hst (.inl hu) ([], [])
      rw [hsy] at hs
      by_cases hz : N = 0
      ·by_cases hb : B.toList.length = 0
       ·have hb0 : B.ints = [] := List.eq_nil_of_length_eq_zero (by omega)
        simp only [hz, hb0, ne_eq, not_true_eq_false, decide_false, Bool.false_eq_true, if_false, List.nil_append, List.append_nil] at hs
        simp only [hs] at e1 e2
        refine ⟨tellA k2i0_t2, tellA_ok (allTold'_iff.1 ?_), .inr ⟨0, k2i0_h2, _, _, by decide, k2i0_y2, dutiesTold_ok ?_, allTold'_iff.1 ?_, ?_⟩⟩
        all_goals (try simp only [k2i0_t2, k2i0_d2, k2, k2i0, k2i1, k2i2, k2i3, k2o2, k2i0_h2_a, gk, hX, hN, hB, hi, hs, hb0, tl])
        all_goals (first | exact True.intro | omega | (and_intros <;> first | exact True.intro | omega | (rfl; done) | assumption | (rw [ap3, List.append_assoc]; done) | (rw [ap3, hb0, List.append_nil]; done) | (simp only [List.length_append] at *; omega)))
       ·simp only [hz, ne_eq, not_true_eq_false, decide_false, Bool.false_eq_true, if_false, List.nil_append, List.append_nil] at hs
        simp only [hs] at e1 e2
        refine ⟨tellA k2i0_t4, tellA_ok (allTold'_iff.1 ?_), .inr ⟨1, k2i0_h4, _, _, by decide, k2i0_y4, dutiesTold_ok ?_, allTold'_iff.1 ?_, ?_⟩⟩
        all_goals (try simp only [k2i0_t4, k2i0_d4, k2, k2i0, k2i1, k2i2, k2i3, k2o2, k2i0_h4_a, gk, hX, hN, hB, hi, hs, tl])
        all_goals (first | exact True.intro | omega | (and_intros <;> first | exact True.intro | omega | (rfl; done) | assumption | (rw [ap3, List.append_assoc]; done) | (rw [ap3, hb0, List.append_nil]; done) | (simp only [List.length_append] at *; omega)))
      ·simp only [ne_eq, hz, not_false_eq_true, decide_true, if_true, List.nil_append, List.append_nil] at hs
       simp only [hs] at e1 e2
       refine ⟨tellA k2i0_t0, tellA_ok (allTold'_iff.1 ?_), .inr ⟨0, k2i0_h0, _, _, by decide, k2i0_y0, dutiesTold_ok ?_, allTold'_iff.1 ?_, ?_⟩⟩
       all_goals (try simp only [k2i0_t0, k2i0_d0, k2, k2i0, k2i1, k2i2, k2i3, k2o2, k2i0_h0_a, gk, hX, hN, hB, hi, hs, tl])
       all_goals (first | exact True.intro | omega | (and_intros <;> first | exact True.intro | omega | (rfl; done) | assumption | (rw [ap3, List.append_assoc]; done) | (rw [ap3, hb0, List.append_nil]; done) | (simp only [List.length_append] at *; omega)))
     ·have hf : (d 1).toInt < (d 2).toInt := by omega
      have hs := hst (.inr hf) ([], [])
      rw [hsy] at hs
      by_cases hz : N = 0
      ·by_cases hb : B.toList.length = 0
       ·have hb0 : B.ints = [] := List.eq_nil_of_length_eq_zero (by omega)
        simp only [hz, hb0, ne_eq, not_true_eq_false, decide_false, Bool.false_eq_true, if_false, List.nil_append, List.append_nil] at hs
        simp only [hs] at e1 e2
        refine ⟨tellA k2i0_t3, tellA_ok (allTold'_iff.1 ?_), .inr ⟨0, k2i0_h3, _, _, by decide, k2i0_y3, dutiesTold_ok ?_, allTold'_iff.1 ?_, ?_⟩⟩
        all_goals (try simp only [k2i0_t3, k2i0_d3, k2, k2i0, k2i1, k2i2, k2i3, k2o2, k2i0_h3_a, gk, hX, hN, hB, hi, hs, hb0, tl])
        all_goals (first | exact True.intro | omega | (and_intros <;> first | exact True.intro | omega | (rfl; done) | assumption | (rw [ap3, List.append_assoc]; done) | (rw [ap3, hb0, List.append_nil]; done) | (simp only [List.length_append] at *; omega)))
       ·simp only [hz, ne_eq, not_true_eq_false, decide_false, Bool.false_eq_true, if_false, List.nil_append, List.append_nil] at hs
        simp only [hs] at e1 e2
        refine ⟨tellA k2i0_t5, tellA_ok (allTold'_iff.1 ?_), .inr ⟨1, k2i0_h5, _, _, by decide, k2i0_y5, dutiesTold_ok ?_, allTold'_iff.1 ?_, ?_⟩⟩
        all_goals (try simp only [k2i0_t5, k2i0_d5, k2, k2i0, k2i1, k2i2, k2i3, k2o2, k2i0_h5_a, gk, hX, hN, hB, hi, hs, tl])
        all_goals (first | exact True.intro | omega | (and_intros <;> first | exact True.intro | omega | (rfl; done) | assumption | (rw [ap3, List.append_assoc]; done) | (rw [ap3, hb0, List.append_nil]; done) | (simp only [List.length_append] at *; omega)))
      ·simp only [ne_eq, hz, not_false_eq_true, decide_true, if_true, List.nil_append, List.append_nil] at hs
       simp only [hs] at e1 e2
       refine ⟨tellA k2i0_t1, tellA_ok (allTold'_iff.1 ?_), .inr ⟨0, k2i0_h1, _, _, by decide, k2i0_y1, dutiesTold_ok ?_, allTold'_iff.1 ?_, ?_⟩⟩
       all_goals (try simp only [k2i0_t1, k2i0_d1, k2, k2i0, k2i1, k2i2, k2i3, k2o2, k2i0_h1_a, gk, hX, hN, hB, hi, hs, tl])
       all_goals (first | exact True.intro | omega | (and_intros <;> first | exact True.intro | omega | (rfl; done) | assumption | (rw [ap3, List.append_assoc]; done) | (rw [ap3, hb0, List.append_nil]; done) | (simp only [List.length_append] at *; omega)))
 | 1, _ =>
   have hp := allTold'_iff.2 hp
   simp only [k2, k2i1, tl] at hp hR hA
   simp only [gk, tl] at hp
   obtain ⟨p1, p2, p3, p4, i1, i2, u1, u2, a1, a2, e1, e2⟩ := hp
   have g0 : (d 0).ints.length = (d 0).toList.length := (len_ints _).symm
   have g8 : (d 8).ints.length = (d 8).toList.length := (len_ints _).symm
   by_cases h : ((d 0).toList.length : Int) ≤ (d 1).toInt
   ·have he := goK_end (f := (d 2).toInt) h ([], (d 8).ints)
    simp only [he] at e1 e2
    (exfalso; (try simp only [D.ints_ofInts, List.length_nil, List.length_append] at *); omega)
   ·have hl := lenP_step (l := (d 0).toList) (i := (d 1).toInt.toNat) (by omega) (by omega)
    have hn := lenP_nn (((d 0).toList.take 61).drop ((d 1).toInt.toNat + 1))
    have hi : ((d 1).toInt + 1).toNat = (d 1).toInt.toNat + 1 := by omega
    have hst := goK_step (f := (d 2).toInt) (l := (d 0).toList) (i := (d 1).toInt) p1 (by omega)
    simp only [hi] at hst
    generalize hX : (d 0).toList[(d 1).toInt.toNat]?.getD (D.int 0) = X at *
    generalize hB : bytP X = B at *
    generalize hN : X.ints[1]?.getD 0 = N at *
    unfold bytP at hB
    have g1 : B.ints.length = B.toList.length := (len_ints _).symm
    have hsy : synP X = decide (N ≠ 0) := by unfold synP; rw [hN]
    by_cases ho : (d 2).toInt = (d 1).toInt
    ·have hq := goK_out (f := (d 2).toInt) (i := (d 1).toInt) (by omega) (by omega) ((d 0).toList.drop (d 1).toInt.toNat) ([], (d 8).ints)
     simp only [hq] at e1 e2
     (exfalso; (try simp only [D.ints_ofInts, List.length_nil, List.length_append] at *); omega)
    ·by_cases hu : (d 2).toInt < 0
     ·have hs := hst (.inl hu) ([], (d 8).ints)
      rw [hsy] at hs
      by_cases hz : N = 0
      ·by_cases hb : B.toList.length = 0
       ·have hb0 : B.ints = [] := List.eq_nil_of_length_eq_zero (by omega)
        simp only [hz, hb0, ne_eq, not_true_eq_false, decide_false, Bool.false_eq_true, if_false, List.nil_append, List.append_nil] at hs
        simp only [hs] at e1 e2
        refine ⟨tellA k2i1_t2, tellA_ok (allTold'_iff.1 ?_), .inr ⟨1, k2i1_h2, _, _, by decide, k2i1_y2, dutiesTold_ok ?_, allTold'_iff.1 ?_, ?_⟩⟩
        all_goals (try simp only [k2i1_t2, k2i1_d2, k2, k2i0, k2i1, k2i2, k2i3, k2o2, k2i1_h2_a, gk, hX, hN, hB, hi, hs, hb0, a2, tl])
        all_goals (first | exact True.intro | omega | (and_intros <;> first | exact True.intro | omega | (rfl; done) | assumption | (rw [ap3, List.append_assoc]; done) | (rw [ap3, hb0, List.append_nil]; done) | (simp only [List.length_append] at *; omega)))
       ·simp only [hz, ne_eq, not_true_eq_false, decide_false, Bool.false_eq_true, if_false, List.nil_append, List.append_nil] at hs
        simp only [hs] at e1 e2
        refine ⟨tellA k2i1_t4, tellA_ok (allTold'_iff.1 ?_), .inr ⟨1, k2i1_h4, _, _, by decide, k2i1_y4, dutiesTold_ok ?_, allTold'_iff.1 ?_, ?_⟩⟩
        all_goals (try simp only [k2i1_t4, k2i1_d4, k2, k2i0, k2i1, k2i2, k2i3, k2o2, k2i1_h4_a, gk, hX, hN, hB, hi, hs, a2, tl])
        all_goals (first | exact True.intro | omega | (and_intros <;> first | exact True.intro | omega | (rfl; done) | assumption | (rw [ap3, List.append_assoc]; done) | (rw [ap3, hb0, List.append_nil]; done) | (simp only [List.length_append] at *; omega)))
      ·simp only [ne_eq, hz, not_false_eq_true, decide_true, if_true, List.nil_append, List.append_nil] at hs
       simp only [hs] at e1 e2
       refine ⟨tellA k2i1_t0, tellA_ok (allTold'_iff.1 ?_), .inr ⟨2, k2i1_h0, _, _, by decide, k2i1_y0, dutiesTold_ok ?_, allTold'_iff.1 ?_, ?_⟩⟩
       all_goals (try simp only [k2i1_t0, k2i1_d0, k2, k2i0, k2i1, k2i2, k2i3, k2o2, k2i1_h0_a, gk, hX, hN, hB, hi, hs, a2, tl])
       all_goals (first | exact True.intro | omega | (and_intros <;> first | exact True.intro | omega | (rfl; done) | assumption | (rw [ap3, List.append_assoc]; done) | (rw [ap3, hb0, List.append_nil]; done) | (simp only [List.length_append] at *; omega)))
     ·have hf : (d 1).toInt < (d 2).toInt := by omega
      have hs := hst (.inr hf) ([], (d 8).ints)
      rw [hsy] at hs
      by_cases hz : N = 0
      ·by_cases hb : B.toList.length = 0
       ·have hb0 : B.ints = [] := List.eq_nil_of_length_eq_zero (by omega)
        simp only [hz, hb0, ne_eq, not_true_eq_false, decide_false, Bool.false_eq_true, if_false, List.nil_append, List.append_nil] at hs
        simp only [hs] at e1 e2
        refine ⟨tellA k2i1_t3, tellA_ok (allTold'_iff.1 ?_), .inr ⟨1, k2i1_h3, _, _, by decide, k2i1_y3, dutiesTold_ok ?_, allTold'_iff.1 ?_, ?_⟩⟩
        all_goals (try simp only [k2i1_t3, k2i1_d3, k2, k2i0, k2i1, k2i2, k2i3, k2o2, k2i1_h3_a, gk, hX, hN, hB, hi, hs, hb0, a2, tl])
        all_goals (first | exact True.intro | omega | (and_intros <;> first | exact True.intro | omega | (rfl; done) | assumption | (rw [ap3, List.append_assoc]; done) | (rw [ap3, hb0, List.append_nil]; done) | (simp only [List.length_append] at *; omega)))
       ·simp only [hz, ne_eq, not_true_eq_false, decide_false, Bool.false_eq_true, if_false, List.nil_append, List.append_nil] at hs
        simp only [hs] at e1 e2
        refine ⟨tellA k2i1_t5, tellA_ok (allTold'_iff.1 ?_), .inr ⟨1, k2i1_h5, _, _, by decide, k2i1_y5, dutiesTold_ok ?_, allTold'_iff.1 ?_, ?_⟩⟩
        all_goals (try simp only [k2i1_t5, k2i1_d5, k2, k2i0, k2i1, k2i2, k2i3, k2o2, k2i1_h5_a, gk, hX, hN, hB, hi, hs, a2, tl])
        all_goals (first | exact True.intro | omega | (and_intros <;> first | exact True.intro | omega | (rfl; done) | assumption | (rw [ap3, List.append_assoc]; done) | (rw [ap3, hb0, List.append_nil]; done) | (simp only [List.length_append] at *; omega)))
      ·simp only [ne_eq, hz, not_false_eq_true, decide_true, if_true, List.nil_append, List.append_nil] at hs
       simp only [hs] at e1 e2
       refine ⟨tellA k2i1_t1, tellA_ok (allTold'_iff.1 ?_), .inr ⟨2, k2i1_h1, _, _, by decide, k2i1_y1, dutiesTold_ok ?_, allTold'_iff.1 ?_, ?_⟩⟩
       all_goals (try simp only [k2i1_t1, k2i1_d1, k2, k2i0, k2i1, k2i2, k2i3, k2o2, k2i1_h1_a, gk, hX, hN, hB, hi, hs, a2, tl])
       all_goals (first | exact True.intro | omega | (and_intros <;> first | exact True.intro | omega | (rfl; done) | assumption | (rw [ap3, List.append_assoc]; done) | (rw [ap3, hb0, List.append_nil]; done) | (simp only [List.length_append] at *; omega)))
 | 2, _ =>
   have hp := allTold'_iff.2 hp
   simp only [k2, k2i2, tl] at hp hR hA
   simp only [gk, tl] at hp
   obtain ⟨p1, p2, p3, p4, i1, i2, s1, s2, a1, a2, e1, e2⟩ := hp
   have g0 : (d 0).ints.length = (d 0).toList.length := (len_ints _).symm
   have g6 : (d 6).ints.length = (d 6).toList.length := (len_ints _).symm
   by_cases h : ((d 0).toList.length : Int) ≤ (d 1).toInt
   ·have he := goK_end (f := (d 2).toInt) h ((d 6).ints, [])
    simp only [he] at e1 e2
    refine ⟨tellA k2i2_t0, tellA_ok (allTold'_iff.1 ?_), .inl ⟨_, _, _, k2i2_y0, dutiesTold_ok ?_⟩⟩
    all_goals (try simp only [k2i2_t0, k2i2_d0, gk, he, a2, tl])
    all_goals (first | exact True.intro | omega | (and_intros <;> first | exact True.intro | omega | (rfl; done) | assumption | (rw [ap3, List.append_assoc]; done) | (rw [ap3, hb0, List.append_nil]; done) | (simp only [List.length_append] at *; omega)))
   ·have hl := lenP_step (l := (d 0).toList) (i := (d 1).toInt.toNat) (by omega) (by omega)
    have hn := lenP_nn (((d 0).toList.take 61).drop ((d 1).toInt.toNat + 1))
    have hi : ((d 1).toInt + 1).toNat = (d 1).toInt.toNat + 1 := by omega
    have hst := goK_step (f := (d 2).toInt) (l := (d 0).toList) (i := (d 1).toInt) p1 (by omega)
    simp only [hi] at hst
    generalize hX : (d 0).toList[(d 1).toInt.toNat]?.getD (D.int 0) = X at *
    generalize hB : bytP X = B at *
    generalize hN : X.ints[1]?.getD 0 = N at *
    unfold bytP at hB
    have g1 : B.ints.length = B.toList.length := (len_ints _).symm
    have hsy : synP X = decide (N ≠ 0) := by unfold synP; rw [hN]
    by_cases ho : (d 2).toInt = (d 1).toInt
    ·have hq := goK_out (f := (d 2).toInt) (i := (d 1).toInt) (by omega) (by omega) ((d 0).toList.drop (d 1).toInt.toNat) ((d 6).ints, [])
     simp only [hq] at e1 e2
     have hq2 := goK_out (f := (d 2).toInt) (i := (d 1).toInt + 1) (by omega) (by omega) ((d 0).toList.drop ((d 1).toInt + 1).toNat) ((d 6).ints, [])
     rw [hi] at hq2
     by_cases hs : N = 0
     ·refine ⟨tellA k2i2_t2, tellA_ok (allTold'_iff.1 ?_), .inr ⟨4, k2i2_h2, _, _, by decide, k2i2_y2, dutiesTold_ok ?_, allTold'_iff.1 ?_, ?_⟩⟩
      all_goals (try simp only [k2i2_t2, k2i2_d2, k2, k2i0, k2i1, k2i2, k2i3, k2o2, k2i2_h2_a, gk, hX, hN, hB, hi, hq, hq2, a2, tl])
      all_goals (first | exact True.intro | omega | (and_intros <;> first | exact True.intro | omega | (rfl; done) | assumption | (rw [ap3, List.append_assoc]; done) | (rw [ap3, hb0, List.append_nil]; done) | (simp only [List.length_append] at *; omega)))
     ·refine ⟨tellA k2i2_t1, tellA_ok (allTold'_iff.1 ?_), .inr ⟨4, k2i2_h1, _, _, by decide, k2i2_y1, dutiesTold_ok ?_, allTold'_iff.1 ?_, ?_⟩⟩
      all_goals (try simp only [k2i2_t1, k2i2_d1, k2, k2i0, k2i1, k2i2, k2i3, k2o2, k2i2_h1_a, gk, hX, hN, hB, hi, hq, hq2, a2, tl])
      all_goals (first | exact True.intro | omega | (and_intros <;> first | exact True.intro | omega | (rfl; done) | assumption | (rw [ap3, List.append_assoc]; done) | (rw [ap3, hb0, List.append_nil]; done) | (simp only [List.length_append] at *; omega)))
    ·by_cases hu : (d 2).toInt < 0
     ·have hs := hst (.inl hu) ((d 6).ints, [])
      rw [hsy] at hs
      by_cases hz : N = 0
      ·by_cases hb : B.toList.length = 0
       ·have hb0 : B.ints = [] := List.eq_nil_of_length_eq_zero (by omega)
        simp only [hz, hb0, ne_eq, not_true_eq_false, decide_false, Bool.false_eq_true, if_false, List.nil_append, List.append_nil] at hs
        simp only [hs] at e1 e2
        refine ⟨tellA k2i2_t5, tellA_ok (allTold'_iff.1 ?_), .inr ⟨2, k2i2_h5, _, _, by decide, k2i2_y5, dutiesTold_ok ?_, allTold'_iff.1 ?_, ?_⟩⟩
        all_goals (try simp only [k2i2_t5, k2i2_d5, k2, k2i0, k2i1, k2i2, k2i3, k2o2, k2i2_h5_a, gk, hX, hN, hB, hi, hs, hb0, a2, tl])
        all_goals (first | exact True.intro | omega | (and_intros <;> first | exact True.intro | omega | (rfl; done) | assumption | (rw [ap3, List.append_assoc]; done) | (rw [ap3, hb0, List.append_nil]; done) | (simp only [List.length_append] at *; omega)))
       ·simp only [hz, ne_eq, not_true_eq_false, decide_false, Bool.false_eq_true, if_false, List.nil_append, List.append_nil] at hs
        simp only [hs] at e1 e2
        refine ⟨tellA k2i2_t7, tellA_ok (allTold'_iff.1 ?_), .inr ⟨3, k2i2_h7, _, _, by decide, k2i2_y7, dutiesTold_ok ?_, allTold'_iff.1 ?_, ?_⟩⟩
        all_goals (try simp only [k2i2_t7, k2i2_d7, k2, k2i0, k2i1, k2i2, k2i3, k2o2, k2i2_h7_a, gk, hX, hN, hB, hi, hs, a2, tl])
        all_goals (first | exact True.intro | omega | (and_intros <;> first | exact True.intro | omega | (rfl; done) | assumption | (rw [ap3, List.append_assoc]; done) | (rw [ap3, hb0, List.append_nil]; done) | (simp only [List.length_append] at *; omega)))
      ·simp only [ne_eq, hz, not_false_eq_true, decide_true, if_true, List.nil_append, List.append_nil] at hs
       simp only [hs] at e1 e2
       refine ⟨tellA k2i2_t3, tellA_ok (allTold'_iff.1 ?_), .inr ⟨2, k2i2_h3, _, _, by decide, k2i2_y3, dutiesTold_ok ?_, allTold'_iff.1 ?_, ?_⟩⟩
       all_goals (try simp only [k2i2_t3, k2i2_d3, k2, k2i0, k2i1, k2i2, k2i3, k2o2, k2i2_h3_a, gk, hX, hN, hB, hi, hs, a2, tl])
       all_goals (first | exact True.intro | omega | (and_intros <;> first | exact True.intro | omega | (rfl; done) | assumption | (rw [ap3, List.append_assoc]; done) | (rw [ap3, hb0, List.append_nil]; done) | (simp only [List.length_append] at *; omega)))
     ·have hf : (d 1).toInt < (d 2).toInt := by omega
      have hs := hst (.inr hf) ((d 6).ints, [])
      rw [hsy] at hs
      by_cases hz : N = 0
      ·by_cases hb : B.toList.length = 0
       ·have hb0 : B.ints = [] := List.eq_nil_of_length_eq_zero (by omega)
        simp only [hz, hb0, ne_eq, not_true_eq_false, decide_false, Bool.false_eq_true, if_false, List.nil_append, List.append_nil] at hs
        simp only [hs] at e1 e2
        refine ⟨tellA k2i2_t6, tellA_ok (allTold'_iff.1 ?_), .inr ⟨2, k2i2_h6, _, _, by decide, k2i2_y6, dutiesTold_ok ?_, allTold'_iff.1 ?_, ?_⟩⟩
        all_goals (try simp only [k2i2_t6, k2i2_d6, k2, k2i0, k2i1, k2i2, k2i3, k2o2, k2i2_h6_a, gk, hX, hN, hB, hi, hs, hb0, a2, tl])
        all_goals (first | exact True.intro | omega | (and_intros <;> first | exact True.intro | omega | (rfl; done) | assumption | (rw [ap3, List.append_assoc]; done) | (rw [ap3, hb0, List.append_nil]; done) | (simp only [List.length_append] at *; omega)))
       ·simp only [hz, ne_eq, not_true_eq_false, decide_false, Bool.false_eq_true, if_false, List.nil_append, List.append_nil] at hs
        simp only [hs] at e1 e2
        refine ⟨tellA k2i2_t8, tellA_ok (allTold'_iff.1 ?_), .inr ⟨3, k2i2_h8, _, _, by decide, k2i2_y8, dutiesTold_ok ?_, allTold'_iff.1 ?_, ?_⟩⟩
        all_goals (try simp only [k2i2_t8, k2i2_d8, k2, k2i0, k2i1, k2i2, k2i3, k2o2, k2i2_h8_a, gk, hX, hN, hB, hi, hs, a2, tl])
        all_goals (first | exact True.intro | omega | (and_intros <;> first | exact True.intro | omega | (rfl; done) | assumption | (rw [ap3, List.append_assoc]; done) | (rw [ap3, hb0, List.append_nil]; done) | (simp only [List.length_append] at *; omega)))
      ·simp only [ne_eq, hz, not_false_eq_true, decide_true, if_true, List.nil_append, List.append_nil] at hs
       simp only [hs] at e1 e2
       refine ⟨tellA k2i2_t4, tellA_ok (allTold'_iff.1 ?_), .inr ⟨2, k2i2_h4, _, _, by decide, k2i2_y4, dutiesTold_ok ?_, allTold'_iff.1 ?_, ?_⟩⟩
       all_goals (try simp only [k2i2_t4, k2i2_d4, k2, k2i0, k2i1, k2i2, k2i3, k2o2, k2i2_h4_a, gk, hX, hN, hB, hi, hs, a2, tl])
       all_goals (first | exact True.intro | omega | (and_intros <;> first | exact True.intro | omega | (rfl; done) | assumption | (rw [ap3, List.append_assoc]; done) | (rw [ap3, hb0, List.append_nil]; done) | (simp only [List.length_append] at *; omega)))
 | 3, _ =>
   have hp := allTold'_iff.2 hp
   simp only [k2, k2i3, tl] at hp hR hA
   simp only [gk, tl] at hp
   obtain ⟨p1, p2, p3, p4, i1, i2, s1, s2, u1, u2, a1, a2, e1, e2⟩ := hp
   have g0 : (d 0).ints.length = (d 0).toList.length := (len_ints _).symm
   have g6 : (d 6).ints.length = (d 6).toList.length := (len_ints _).symm
   have g8 : (d 8).ints.length = (d 8).toList.length := (len_ints _).symm
   by_cases h : ((d 0).toList.length : Int) ≤ (d 1).toInt
   ·have he := goK_end (f := (d 2).toInt) h ((d 6).ints, (d 8).ints)
    simp only [he] at e1 e2
    (exfalso; (try simp only [D.ints_ofInts, List.length_nil, List.length_append] at *); omega)
   ·have hl := lenP_step (l := (d 0).toList) (i := (d 1).toInt.toNat) (by omega) (by omega)
    have hn := lenP_nn (((d 0).toList.take 61).drop ((d 1).toInt.toNat + 1))
    have hi : ((d 1).toInt + 1).toNat = (d 1).toInt.toNat + 1 := by omega
    have hst := goK_step (f := (d 2).toInt) (l := (d 0).toList) (i := (d 1).toInt) p1 (by omega)
    simp only [hi] at hst
    generalize hX : (d 0).toList[(d 1).toInt.toNat]?.getD (D.int 0) = X at *
    generalize hB : bytP X = B at *
    generalize hN : X.ints[1]?.getD 0 = N at *
    unfold bytP at hB
    have g1 : B.ints.length = B.toList.length := (len_ints _).symm
    have hsy : synP X = decide (N ≠ 0) := by unfold synP; rw [hN]
    by_cases ho : (d 2).toInt = (d 1).toInt
    ·have hq := goK_out (f := (d 2).toInt) (i := (d 1).toInt) (by omega) (by omega) ((d 0).toList.drop (d 1).toInt.toNat) ((d 6).ints, (d 8).ints)
     simp only [hq] at e1 e2
     (exfalso; (try simp only [D.ints_ofInts, List.length_nil, List.length_append] at *); omega)
    ·by_cases hu : (d 2).toInt < 0
     ·have hs := hst (.inl hu) ((d 6).ints, (d 8).ints)
      rw [hsy] at hs
      by_cases hz : N = 0
      ·by_cases hb : B.toList.length = 0
       ·have hb0 : B.ints = [] := List.eq_nil_of_length_eq_zero (by omega)
        simp only [hz, hb0, ne_eq, not_true_eq_false, decide_false, Bool.false_eq_true, if_false, List.nil_append, List.append_nil] at hs
        simp only [hs] at e1 e2
        refine ⟨tellA k2i3_t2, tellA_ok (allTold'_iff.1 ?_), .inr ⟨3, k2i3_h2, _, _, by decide, k2i3_y2, dutiesTold_ok ?_, allTold'_iff.1 ?_, ?_⟩⟩
        all_goals (try simp only [k2i3_t2, k2i3_d2, k2, k2i0, k2i1, k2i2, k2i3, k2o2, k2i3_h2_a, gk, hX, hN, hB, hi, hs, hb0, a2, tl])
        all_goals (first | exact True.intro | omega | (and_intros <;> first | exact True.intro | omega | (rfl; done) | assumption | (rw [ap3, List.append_assoc]; done) | (rw [ap3, hb0, List.append_nil]; done) | (simp only [List.length_append] at *; omega)))
       ·simp only [hz, ne_eq, not_true_eq_false, decide_false, Bool.false_eq_true, if_false, List.nil_append, List.append_nil] at hs
        simp only [hs] at e1 e2
        refine ⟨tellA k2i3_t4, tellA_ok (allTold'_iff.1 ?_), .inr ⟨3, k2i3_h4, _, _, by decide, k2i3_y4, dutiesTold_ok ?_, allTold'_iff.1 ?_, ?_⟩⟩
        all_goals (try simp only [k2i3_t4, k2i3_d4, k2, k2i0, k2i1, k2i2, k2i3, k2o2, k2i3_h4_a, gk, hX, hN, hB, hi, hs, a2, tl])
        all_goals (first | exact True.intro | omega | (and_intros <;> first | exact True.intro | omega | (rfl; done) | assumption | (rw [ap3, List.append_assoc]; done) | (rw [ap3, hb0, List.append_nil]; done) | (simp only [List.length_append] at *; omega)))
      ·simp only [ne_eq, hz, not_false_eq_true, decide_true, if_true, List.nil_append, List.append_nil] at hs
       simp only [hs] at e1 e2
       refine ⟨tellA k2i3_t0, tellA_ok (allTold'_iff.1 ?_), .inr ⟨2, k2i3_h0, _, _, by decide, k2i3_y0, dutiesTold_ok ?_, allTold'_iff.1 ?_, ?_⟩⟩
       all_goals (try simp only [k2i3_t0, k2i3_d0, k2, k2i0, k2i1, k2i2, k2i3, k2o2, k2i3_h0_a, gk, hX, hN, hB, hi, hs, a2, tl])
       all_goals (first | exact True.intro | omega | (and_intros <;> first | exact True.intro | omega | (rfl; done) | assumption | (rw [ap3, List.append_assoc]; done) | (rw [ap3, hb0, List.append_nil]; done) | (simp only [List.length_append] at *; omega)))
     ·have hf : (d 1).toInt < (d 2).toInt := by omega
      have hs := hst (.inr hf) ((d 6).ints, (d 8).ints)
      rw [hsy] at hs
      by_cases hz : N = 0
      ·by_cases hb : B.toList.length = 0
       ·have hb0 : B.ints = [] := List.eq_nil_of_length_eq_zero (by omega)
        simp only [hz, hb0, ne_eq, not_true_eq_false, decide_false, Bool.false_eq_true, if_false, List.nil_append, List.append_nil] at hs
        simp only [hs] at e1 e2
        refine ⟨tellA k2i3_t3, tellA_ok (allTold'_iff.1 ?_), .inr ⟨3, k2i3_h3, _, _, by decide, k2i3_y3, dutiesTold_ok ?_, allTold'_iff.1 ?_, ?_⟩⟩
        all_goals (try simp only [k2i3_t3, k2i3_d3, k2, k2i0, k2i1, k2i2, k2i3, k2o2, k2i3_h3_a, gk, hX, hN, hB, hi, hs, hb0, a2, tl])
        all_goals (first | exact True.intro | omega | (and_intros <;> first | exact True.intro | omega | (rfl; done) | assumption | (rw [ap3, List.append_assoc]; done) | (rw [ap3, hb0, List.append_nil]; done) | (simp only [List.length_append] at *; omega)))
       ·simp only [hz, ne_eq, not_true_eq_false, decide_false, Bool.false_eq_true, if_false, List.nil_append, List.append_nil] at hs
        simp only [hs] at e1 e2
        refine ⟨tellA k2i3_t5, tellA_ok (allTold'_iff.1 ?_), .inr ⟨3, k2i3_h5, _, _, by decide, k2i3_y5, dutiesTold_ok ?_, allTold'_iff.1 ?_, ?_⟩⟩
        all_goals (try simp only [k2i3_t5, k2i3_d5, k2, k2i0, k2i1, k2i2, k2i3, k2o2, k2i3_h5_a, gk, hX, hN, hB, hi, hs, a2, tl])
        all_goals (first | exact True.intro | omega | (and_intros <;> first | exact True.intro | omega | (rfl; done) | assumption | (rw [ap3, List.append_assoc]; done) | (rw [ap3, hb0, List.append_nil]; done) | (simp only [List.length_append] at *; omega)))
      ·simp only [ne_eq, hz, not_false_eq_true, decide_true, if_true, List.nil_append, List.append_nil] at hs
       simp only [hs] at e1 e2
       refine ⟨tellA k2i3_t1, tellA_ok (allTold'_iff.1 ?_), .inr ⟨2, k2i3_h1, _, _, by decide, k2i3_y1, dutiesTold_ok ?_, allTold'_iff.1 ?_, ?_⟩⟩
       all_goals (try simp only [k2i3_t1, k2i3_d1, k2, k2i0, k2i1, k2i2, k2i3, k2o2, k2i3_h1_a, gk, hX, hN, hB, hi, hs, a2, tl])
       all_goals (first | exact True.intro | omega | (and_intros <;> first | exact True.intro | omega | (rfl; done) | assumption | (rw [ap3, List.append_assoc]; done) | (rw [ap3, hb0, List.append_nil]; done) | (simp only [List.length_append] at *; omega)))
 | 4, _ =>
   have hp := allTold'_iff.2 hp
   simp only [k2, k2o2, tl] at hp hR hA
   simp only [gk, tl] at hp
   obtain ⟨p1, p2, p3, p4, o1, o2, o3, s1, s2, a1, a2, e1, e2⟩ := hp
   have g0 : (d 0).ints.length = (d 0).toList.length := (len_ints _).symm
   have g6 : (d 6).ints.length = (d 6).toList.length := (len_ints _).symm
   by_cases h : ((d 0).toList.length : Int) ≤ (d 1).toInt
   ·have he := goK_end (f := (d 2).toInt) h ((d 6).ints, [])
    simp only [he] at e1 e2
    refine ⟨tellA k2o2_t0, tellA_ok (allTold'_iff.1 ?_), .inl ⟨_, _, _, k2o2_y0, dutiesTold_ok ?_⟩⟩
    all_goals (try simp only [k2o2_t0, k2o2_d0, gk, he, a2, tl])
    all_goals (first | exact True.intro | omega | (and_intros <;> first | exact True.intro | omega | (rfl; done) | assumption | (rw [ap3, List.append_assoc]; done) | (rw [ap3, hb0, List.append_nil]; done) | (simp only [List.length_append] at *; omega)))
   ·have hl := lenP_step (l := (d 0).toList) (i := (d 1).toInt.toNat) (by omega) (by omega)
    have hn := lenP_nn (((d 0).toList.take 61).drop ((d 1).toInt.toNat + 1))
    have hi : ((d 1).toInt + 1).toNat = (d 1).toInt.toNat + 1 := by omega
    have hq := goK_out (i := (d 1).toInt) o1 (by omega) ((d 0).toList.drop (d 1).toInt.toNat) ((d 6).ints, [])
    have hq2 := goK_out (i := (d 1).toInt + 1) o1 (by omega) ((d 0).toList.drop ((d 1).toInt + 1).toNat) ((d 6).ints, [])
    rw [hi] at hq2
    simp only [hq] at e1 e2
    generalize hX : (d 0).toList[(d 1).toInt.toNat]?.getD (D.int 0) = X at *
    generalize hB : bytP X = B at *
    generalize hN : X.ints[1]?.getD 0 = N at *
    unfold bytP at hB
    have g1 : B.ints.length = B.toList.length := (len_ints _).symm
    have hsy : synP X = decide (N ≠ 0) := by unfold synP; rw [hN]
    by_cases hs : N = 0
    ·refine ⟨tellA k2o2_t2, tellA_ok (allTold'_iff.1 ?_), .inr ⟨4, k2o2_h2, _, _, by decide, k2o2_y2, dutiesTold_ok ?_, allTold'_iff.1 ?_, ?_⟩⟩
     all_goals (try simp only [k2o2_t2, k2o2_d2, k2, k2i0, k2i1, k2i2, k2i3, k2o2, k2o2_h2_a, gk, hX, hN, hB, hi, hq, hq2, a2, tl])
     all_goals (first | exact True.intro | omega | (and_intros <;> first | exact True.intro | omega | (rfl; done) | assumption | (rw [ap3, List.append_assoc]; done) | (rw [ap3, hb0, List.append_nil]; done) | (simp only [List.length_append] at *; omega)))
    ·refine ⟨tellA k2o2_t1, tellA_ok (allTold'_iff.1 ?_), .inr ⟨4, k2o2_h1, _, _, by decide, k2o2_y1, dutiesTold_ok ?_, allTold'_iff.1 ?_, ?_⟩⟩
     all_goals (try simp only [k2o2_t1, k2o2_d1, k2, k2i0, k2i1, k2i2, k2i3, k2o2, k2o2_h1_a, gk, hX, hN, hB, hi, hq, hq2, a2, tl])
     all_goals (first | exact True.intro | omega | (and_intros <;> first | exact True.intro | omega | (rfl; done) | assumption | (rw [ap3, List.append_assoc]; done) | (rw [ap3, hb0, List.append_nil]; done) | (simp only [List.length_append] at *; omega)))
theorem k2i0_holds : LHolds Try.prog (loopAt Try.prog 5 [4, 1, 0, 1, 1, 1, 1, 1, 1, 1, 1]) k2i0 F := k2_holds 0 (by decide)
theorem k2i1_holds : LHolds Try.prog (loopAt Try.prog 5 [4, 1, 0, 1, 1, 1, 1, 1, 1, 1, 1]) k2i1 F := k2_holds 1 (by decide)
theorem k2i2_holds : LHolds Try.prog (loopAt Try.prog 5 [4, 1, 0, 1, 1, 1, 1, 1, 1, 1, 1]) k2i2 F := k2_holds 2 (by decide)
theorem k2i3_holds : LHolds Try.prog (loopAt Try.prog 5 [4, 1, 0, 1, 1, 1, 1, 1, 1, 1, 1]) k2i3 F := k2_holds 3 (by decide)
theorem k2o2_holds : LHolds Try.prog (loopAt Try.prog 5 [4, 1, 0, 1, 1, 1, 1, 1, 1, 1, 1]) k2o2 F := k2_holds 4 (by decide)

end Go.Proofs.Ytmlocknojpmfpaa.K2
