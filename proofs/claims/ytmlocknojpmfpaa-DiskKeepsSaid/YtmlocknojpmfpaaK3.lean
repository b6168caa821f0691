/-
 Contracts of this seat: what loops and calls leave, for all inputs. No condition.
-/
import Derived.Test.YtmlocknojpmfpaaSycp
import Derived.Test.YtmlocknojpmfpaaSyfm
import Derived.Test.YtmlocknojpmfpaaCo
import Derived.Test.YtmlocknojpmfpaaK1
set_option linter.unusedSimpArgs false
set_option linter.unusedVariables false
namespace Go.Proofs.Ytmlocknojpmfpaa.K3
open Go.RowKit Go.Ev Go.Proofs.Ytmlocknojpmfpaa.Co

open Go.Proofs.Ytmlocknojpmfpaa.K1

abbrev zK355 : E := (.bi .sel (.var 0) (.var 1))
abbrev txK30 : E := (.bi .sel zK355 (.int 0))
abbrev txK31 : E := (.bi .pair (.var 0) (.bi .pair (.var 1) (.int 0)))
abbrev txK32 : E := (.bi .pair (.var 2) (.bi .pair (.var 1) (.int 0)))
abbrev txK33 : E := (.bi .pair (.var 6) (.bi .pair (.var 8) (.int 0)))
abbrev txK34 : E := (.bi .pair (.lits []) (.bi .pair (.var 8) (.int 0)))
abbrev zK354 : E := (.bi .pair (.lits []) (.int 0))
abbrev txK35 : E := (.bi .pair (.var 6) zK354)
abbrev txK36 : E := (.bi .pair (.var 4) zK354)
abbrev txK37 : E := (.bi .pair (.lits []) zK354)
abbrev txK38 : E := (.bi .pair (.bi .app (.var 8) txK30) (.int 0))
abbrev txK39 : E := (.bi .pair (.var 6) (.bi .pair txK30 (.int 0)))
abbrev txK310 : E := (.bi .pair (.var 1) (.bi .pair (.var 2) txK33))
abbrev txK311 : E := (.bi .pair (.lits []) (.bi .pair txK30 (.int 0)))
abbrev txK312 : E := (.bi .pair (.var 1) (.bi .pair (.var 2) txK34))
abbrev txK313 : E := (.bi .pair (.var 1) (.bi .pair (.var 2) txK35))
abbrev txK314 : E := (.bi .pair (.var 1) (.bi .pair (.var 2) txK37))
abbrev zK31 : E := (.bi .add (.var 1) (.int 1))
abbrev txK315 : E := (.bi .pair zK31 (.bi .pair (.var 2) txK33))
abbrev txK316 : E := (.bi .pair zK31 (.bi .pair (.var 2) txK36))
abbrev txK317 : E := (.bi .pair zK31 (.bi .pair (.var 2) txK35))
abbrev txK318 : E := (.bi .pair zK31 (.bi .pair (.var 2) txK37))
abbrev txK319 : E := (.bi .pair (.var 2) (.bi .pair (.var 6) txK38))
abbrev zK32 : E := (.bi .pair (.var 0) txK310)
abbrev txK320 : E := (.un .len (.fn 45 zK32))
abbrev txK321 : E := (.un .len (.fn 46 zK32))
abbrev txK322 : E := (.un .len (.fn 44 zK32))
abbrev txK323 : E := (.bi .pair (.var 2) (.bi .pair (.lits []) txK38))
abbrev zK35 : E := (.bi .pair (.var 0) txK312)
abbrev txK324 : E := (.un .len (.fn 45 zK35))
abbrev txK325 : E := (.un .len (.fn 46 zK35))
abbrev txK326 : E := (.un .len (.fn 44 zK35))
abbrev zK36 : E := (.bi .pair (.var 0) txK313)
abbrev txK327 : E := (.un .len (.fn 45 zK36))
abbrev txK328 : E := (.un .len (.fn 46 zK36))
abbrev txK329 : E := (.un .len (.fn 44 zK36))
abbrev zK34 : E := (.bi .pair (.var 0) txK314)
abbrev txK330 : E := (.un .len (.fn 45 zK34))
abbrev txK331 : E := (.un .len (.fn 46 zK34))
abbrev txK332 : E := (.un .len (.fn 44 zK34))
abbrev txK333 : E := (.bi .pair zK31 (.bi .pair (.var 2) txK39))
abbrev zK312 : E := (.bi .pair (.var 0) txK315)
abbrev txK334 : E := (.un .len (.fn 44 zK312))
abbrev txK335 : E := (.un .len (.fn 45 zK312))
abbrev txK336 : E := (.un .len (.fn 46 zK312))
abbrev txK337 : E := (.bi .pair zK31 (.bi .pair (.var 2) txK311))
abbrev zK38 : E := (.bi .pair (.var 0) txK316)
abbrev txK338 : E := (.un .len (.fn 44 zK38))
abbrev txK339 : E := (.un .len (.fn 45 zK38))
abbrev txK340 : E := (.un .len (.fn 46 zK38))
abbrev zK322 : E := (.bi .pair (.var 0) txK317)
abbrev txK341 : E := (.un .len (.fn 44 zK322))
abbrev txK342 : E := (.un .len (.fn 45 zK322))
abbrev txK343 : E := (.un .len (.fn 46 zK322))
abbrev zK310 : E := (.bi .pair (.var 0) txK318)
abbrev txK344 : E := (.un .len (.fn 44 zK310))
abbrev txK345 : E := (.un .len (.fn 45 zK310))
abbrev txK346 : E := (.un .len (.fn 46 zK310))
abbrev txK347 : E := (.bi .pair zK31 txK319)
abbrev txK348 : E := (.bi .pair zK31 txK323)
abbrev zK323 : E := (.bi .pair (.var 0) txK333)
abbrev txK349 : E := (.un .len (.fn 44 zK323))
abbrev txK350 : E := (.un .len (.fn 45 zK323))
abbrev txK351 : E := (.un .len (.fn 46 zK323))
abbrev zK321 : E := (.bi .pair (.var 0) txK337)
abbrev txK352 : E := (.un .len (.fn 44 zK321))
abbrev txK353 : E := (.un .len (.fn 45 zK321))
abbrev txK354 : E := (.un .len (.fn 46 zK321))
abbrev zK313 : E := (.bi .pair (.var 0) txK347)
abbrev txK355 : E := (.un .len (.fn 44 zK313))
abbrev txK356 : E := (.un .len (.fn 45 zK313))
abbrev txK357 : E := (.un .len (.fn 46 zK313))
abbrev zK311 : E := (.bi .pair (.var 0) txK348)
abbrev txK358 : E := (.un .len (.fn 44 zK311))
abbrev txK359 : E := (.un .len (.fn 45 zK311))
abbrev txK360 : E := (.un .len (.fn 46 zK311))
abbrev zK30 : E := (.bi (.iop .add .i64) (.var 9) (.int 1))
abbrev zK33 : E := (.bi .add (.var 3) (.un .len txK30))
abbrev zK37 : E := (.bi .add (.var 10) (.int (-1)))
abbrev zK39 : E := (.bi .add (.var 7) (.un .len txK30))
abbrev zK314 : Nat × RW := (1, .cells 37 0 false false [.ptr 1 0, .int .i64 3000, .mapv 3, .sint .i64 (.var 10), .bool false, .sint .i64 (.var 9)])
abbrev zK315 : Nat × RW := (1, .cells 37 0 false false [.ptr 1 0, .int .i64 3000, .mapv 3, .any, .any, .any])
abbrev zK316 : E := (.bi .add (.var 5) (.var 7))
abbrev zK317 : Duty := (false, (.fn 45 zK310), (.fn 45 zK34))
abbrev zK318 : Duty := (false, (.fn 45 zK311), (.fn 45 zK35))
abbrev zK319 : Duty := (false, (.fn 45 zK312), (.fn 45 zK32))
abbrev zK320 : Duty := (false, (.fn 45 zK313), (.fn 45 zK32))
abbrev zK324 : Nat × RW := (7, .seq ⟨5, .u8, .var 3, .var 4, true, false⟩)
abbrev zK325 : Nat × RW := (5, .cells 82 0 false false [.sslice 11 (.int 0) (.var 5) (.var 5) true, .sslice 13 (.int 0) (.var 7) (.var 7) true])
abbrev zK326 : Duty := (true, (.var 7), (.var 3))
abbrev zK327 : Duty := (true, (.var 5), (.var 3))
abbrev zK328 : E := (.fn 43 (.bi .pair (.var 2) (.int 0)))
abbrev zK329 : Nat × RW := (5, .cells 82 0 false false [.sslice 11 (.int 0) txK320 txK320 true, .sslice 13 (.int 0) txK321 txK321 true])
abbrev zK330 : Duty := (false, (.fn 44 zK310), (.fn 44 zK34))
abbrev zK331 : Duty := (false, (.fn 46 zK310), (.fn 46 zK34))
abbrev zK332 : Duty := (false, (.fn 45 zK321), (.fn 45 zK34))
abbrev zK333 : Duty := (false, (.fn 44 zK311), (.fn 44 zK35))
abbrev zK334 : Duty := (false, (.fn 46 zK311), (.fn 46 zK35))
abbrev zK335 : Duty := (false, (.fn 45 zK322), (.fn 45 zK36))
abbrev zK336 : Duty := (false, (.fn 45 zK323), (.fn 45 zK36))
abbrev zK337 : Duty := (false, (.fn 44 zK312), (.fn 44 zK32))
abbrev zK338 : Duty := (false, (.fn 46 zK312), (.fn 46 zK32))
abbrev zK339 : Duty := (false, (.fn 44 zK313), (.fn 44 zK32))
abbrev zK340 : Duty := (false, (.fn 46 zK313), (.fn 46 zK32))
abbrev zK341 : Duty := (false, (.fn 45 zK38), (.fn 45 zK35))
abbrev zK342 : Duty := (false, (.fn 45 zK38), (.fn 45 zK36))
abbrev zK343 : Duty := (false, (.fn 45 zK38), (.fn 45 zK32))
abbrev zK344 : E := (.bi .add (.var 3) (.fn 30 txK31))
abbrev zK345 : Nat × RW := (13, .seq ⟨5, .u8, .var 7, .var 8, true, false⟩)
abbrev zK346 : Nat × RW := (11, .seq ⟨5, .u8, .var 5, .var 6, true, false⟩)
abbrev zK347 : Nat × RW := (9, .seq ⟨5, .u8, .var 5, .var 6, true, false⟩)
abbrev zK348 : Duty := (false, (.var 6), (.fn 45 zK32))
abbrev zK349 : E := (.bi .app (.var 6) (.var 8))
abbrev zK350 : Nat × RW := (11, .seq ⟨5, .u8, .un .len (.fn 45 zK32), .fn 45 zK32, true, false⟩)
abbrev zK351 : Nat × RW := (13, .seq ⟨5, .u8, .un .len (.fn 46 zK32), .fn 46 zK32, true, false⟩)
abbrev zK352 : Nat × RW := (7, .seq ⟨5, .u8, .un .len (.fn 44 zK32), .fn 44 zK32, true, false⟩)
abbrev zK353 : Nat × RW := (9, .seq ⟨5, .u8, .un .len (.fn 45 zK32), .fn 45 zK32, true, false⟩)
def k3i0 : LSpec := { n := 195, next := 7, pat := [(0, .pv (.agg [.sl (.int .u8), .bool]) (.var 0)), (1, .sint .i64 (.var 2)), (10, .ptr 1 0), (11, .nilslice), (12, .empty), (13, .sint .i64 (.var 1))], rows := [zK314, (3, .map [⟨.str ⟨#[102]⟩, .ptr 5 0, 0⟩] 1), (5, .cells 82 0 false false [.nilslice, .nilslice])], pre := [(.le (.int 0) (.var 1), true), (.le (.var 1) (.un .len (.var 0)), true), (.le (.un .len (.var 0)) (.int 60), true), (.le (.bi .add (.int 0) (.fn 30 txK31)) (.int 3000), true), (.eq (.var 10) (.fn 40 txK32), true), (.le (.var 1) zK328, true), (.le (.int 1) txK330, true), (.le (.int 1) txK331, true)], x := 2, fin := [(11, .sslice 7 (.int 0) txK332 txK332 true), (12, .sslice 9 (.int 0) txK330 txK330 true), (10, .ptr 1 0), (0, .pv (.agg [.sl (.int .u8), .bool]) (.var 0)), (1, .sint .i64 (.var 2))], frows := [zK315, (3, .map [⟨.str ⟨#[102]⟩, .ptr 5 0, 0⟩] 1), (5, .cells 82 0 false false [.sslice 11 (.int 0) txK330 txK330 true, .sslice 13 (.int 0) txK331 txK331 true]), (7, .seq ⟨5, .u8, .un .len (.fn 44 zK34), .fn 44 zK34, true, false⟩), (9, .seq ⟨5, .u8, .un .len (.fn 45 zK34), .fn 45 zK34, true, false⟩), (11, .seq ⟨5, .u8, .un .len (.fn 45 zK34), .fn 45 zK34, true, false⟩), (13, .seq ⟨5, .u8, .un .len (.fn 46 zK34), .fn 46 zK34, true, false⟩)], same := [1, 3, 5], chg := [0, 1, 10, 11, 12, 13, 14, 15, 66, 67, 68, 69, 70, 71, 72, 73, 74, 75, 76, 77, 78, 79, 80, 81, 82, 83, 84, 85, 86, 87, 88, 89, 90, 91, 92, 93, 94, 95, 96, 97, 98, 99, 100, 101, 102, 103, 104, 105, 106, 107, 108, 109, 110, 111, 112, 113, 114, 115, 116, 117, 118, 119, 120, 121, 122, 123, 124, 125, 126, 127, 128, 129, 130, 131, 132, 133, 134, 135, 136, 137, 138] }
def k3i1 : LSpec := { n := 195, next := 7, pat := [(0, .pv (.agg [.sl (.int .u8), .bool]) (.var 0)), (1, .sint .i64 (.var 2)), (10, .ptr 1 0), (11, .sslice 7 (.int 0) (.var 3) (.var 3) true), (12, .empty), (13, .sint .i64 (.var 1))], rows := [zK314, (3, .map [⟨.str ⟨#[102]⟩, .ptr 5 0, 0⟩] 1), (5, .cells 82 0 false false [.nilslice, .sslice 13 (.int 0) (.var 7) (.var 7) true]), zK324, zK345], pre := [(.le (.int 0) (.var 1), true), (.le (.var 1) (.un .len (.var 0)), true), (.le (.un .len (.var 0)) (.int 60), true), (.le zK344 (.int 3000), true), (.eq (.var 10) (.fn 40 txK32), true), (.le (.var 1) zK328, true), (.le (.int 1) (.var 7), true), (.eq (.var 7) (.un .len (.var 8)), true), (.eq (.var 3) (.var 7), true), (.same (.var 4) (.var 8), true), (.le (.int 1) txK324, true), (.le (.int 1) txK325, true)], x := 2, fin := [(11, .sslice 7 (.int 0) txK326 txK326 true), (12, .sslice 9 (.int 0) txK324 txK324 true), (10, .ptr 1 0), (0, .pv (.agg [.sl (.int .u8), .bool]) (.var 0)), (1, .sint .i64 (.var 2))], frows := [zK315, (3, .map [⟨.str ⟨#[102]⟩, .ptr 5 0, 0⟩] 1), (5, .cells 82 0 false false [.sslice 11 (.int 0) txK324 txK324 true, .sslice 13 (.int 0) txK325 txK325 true]), (7, .seq ⟨5, .u8, .un .len (.fn 44 zK35), .fn 44 zK35, true, false⟩), (9, .seq ⟨5, .u8, .un .len (.fn 45 zK35), .fn 45 zK35, true, false⟩), (11, .seq ⟨5, .u8, .un .len (.fn 45 zK35), .fn 45 zK35, true, false⟩), (13, .seq ⟨5, .u8, .un .len (.fn 46 zK35), .fn 46 zK35, true, false⟩)], same := [1, 3, 5], chg := [0, 1, 10, 11, 12, 13, 14, 15, 66, 67, 68, 69, 70, 71, 72, 73, 74, 75, 76, 77, 78, 79, 80, 81, 82, 83, 84, 85, 86, 87, 88, 89, 90, 91, 92, 93, 94, 95, 96, 97, 98, 99, 100, 101, 102, 103, 104, 105, 106, 107, 108, 109, 110, 111, 112, 113, 114, 115, 116, 117, 118, 119, 120, 121, 122, 123, 124, 125, 126, 127, 128, 129, 130, 131, 132, 133, 134, 135, 136, 137, 138] }
def k3i2 : LSpec := { n := 195, next := 7, pat := [(0, .pv (.agg [.sl (.int .u8), .bool]) (.var 0)), (1, .sint .i64 (.var 2)), (10, .ptr 1 0), (11, .sslice 7 (.int 0) (.var 3) (.var 3) true), (12, .sslice 9 (.int 0) (.var 5) (.var 5) true), (13, .sint .i64 (.var 1))], rows := [zK314, (3, .map [⟨.str ⟨#[102]⟩, .ptr 5 0, 0⟩] 1), (5, .cells 82 0 false false [.sslice 11 (.int 0) (.var 5) (.var 5) true, .nilslice]), zK324, zK347, zK346], pre := [(.le (.int 0) (.var 1), true), (.le (.var 1) (.un .len (.var 0)), true), (.le (.un .len (.var 0)) (.int 60), true), (.le zK344 (.int 3000), true), (.eq (.var 10) (.fn 40 txK32), true), (.le (.var 1) zK328, true), (.le (.int 1) (.var 5), true), (.eq (.var 5) (.un .len (.var 6)), true), (.eq (.var 3) (.var 5), true), (.same (.var 4) (.var 6), true), (.le (.int 1) txK327, true), (.le (.int 1) txK328, true)], x := 2, fin := [(11, .sslice 7 (.int 0) txK329 txK329 true), (12, .sslice 9 (.int 0) txK327 txK327 true), (10, .ptr 1 0), (0, .pv (.agg [.sl (.int .u8), .bool]) (.var 0)), (1, .sint .i64 (.var 2))], frows := [zK315, (3, .map [⟨.str ⟨#[102]⟩, .ptr 5 0, 0⟩] 1), (5, .cells 82 0 false false [.sslice 11 (.int 0) txK327 txK327 true, .sslice 13 (.int 0) txK328 txK328 true]), (7, .seq ⟨5, .u8, .un .len (.fn 44 zK36), .fn 44 zK36, true, false⟩), (9, .seq ⟨5, .u8, .un .len (.fn 45 zK36), .fn 45 zK36, true, false⟩), (11, .seq ⟨5, .u8, .un .len (.fn 45 zK36), .fn 45 zK36, true, false⟩), (13, .seq ⟨5, .u8, .un .len (.fn 46 zK36), .fn 46 zK36, true, false⟩)], same := [1, 3, 5], chg := [0, 1, 10, 11, 12, 13, 14, 15, 66, 67, 68, 69, 70, 71, 72, 73, 74, 75, 76, 77, 78, 79, 80, 81, 82, 83, 84, 85, 86, 87, 88, 89, 90, 91, 92, 93, 94, 95, 96, 97, 98, 99, 100, 101, 102, 103, 104, 105, 106, 107, 108, 109, 110, 111, 112, 113, 114, 115, 116, 117, 118, 119, 120, 121, 122, 123, 124, 125, 126, 127, 128, 129, 130, 131, 132, 133, 134, 135, 136, 137, 138] }
def k3i3 : LSpec := { n := 195, next := 7, pat := [(0, .pv (.agg [.sl (.int .u8), .bool]) (.var 0)), (1, .sint .i64 (.var 2)), (10, .ptr 1 0), (11, .sslice 7 (.int 0) (.var 3) (.var 3) true), (12, .sslice 9 (.int 0) (.var 5) (.var 5) true), (13, .sint .i64 (.var 1))], rows := [zK314, (3, .map [⟨.str ⟨#[102]⟩, .ptr 5 0, 0⟩] 1), zK325, zK324, zK347, zK346, zK345], pre := [(.le (.int 0) (.var 1), true), (.le (.var 1) (.un .len (.var 0)), true), (.le (.un .len (.var 0)) (.int 60), true), (.le zK344 (.int 3000), true), (.eq (.var 10) (.fn 40 txK32), true), (.le (.var 1) zK328, true), (.le (.int 1) (.var 5), true), (.eq (.var 5) (.un .len (.var 6)), true), (.le (.int 1) (.var 7), true), (.eq (.var 7) (.un .len (.var 8)), true), (.eq (.var 3) zK316, true), (.same (.var 4) zK349, true), (.le (.int 1) txK320, true), (.le (.int 1) txK321, true)], x := 2, fin := [(11, .sslice 7 (.int 0) txK322 txK322 true), (12, .sslice 9 (.int 0) txK320 txK320 true), (10, .ptr 1 0), (0, .pv (.agg [.sl (.int .u8), .bool]) (.var 0)), (1, .sint .i64 (.var 2))], frows := [zK315, (3, .map [⟨.str ⟨#[102]⟩, .ptr 5 0, 0⟩] 1), zK329, zK352, zK353, zK350, zK351], same := [1, 3, 5], chg := [0, 1, 10, 11, 12, 13, 14, 15, 66, 67, 68, 69, 70, 71, 72, 73, 74, 75, 76, 77, 78, 79, 80, 81, 82, 83, 84, 85, 86, 87, 88, 89, 90, 91, 92, 93, 94, 95, 96, 97, 98, 99, 100, 101, 102, 103, 104, 105, 106, 107, 108, 109, 110, 111, 112, 113, 114, 115, 116, 117, 118, 119, 120, 121, 122, 123, 124, 125, 126, 127, 128, 129, 130, 131, 132, 133, 134, 135, 136, 137, 138] }
def k3o3 : LSpec := { n := 195, next := 7, pat := [(0, .pv (.agg [.sl (.int .u8), .bool]) (.var 0)), (1, .sint .i64 (.var 2)), (10, .ptr 1 0), (11, .sslice 7 (.int 0) (.var 3) (.var 3) true), (12, .sslice 9 (.int 0) (.var 5) (.var 5) true), (13, .sint .i64 (.var 1))], rows := [(1, .cells 37 0 false false [.ptr 1 0, .int .i64 3000, .mapv 3, .sint .i64 (.var 10), .bool true, .sint .i64 (.var 9)]), (3, .map [⟨.str ⟨#[102]⟩, .ptr 5 0, 0⟩] 1), zK325, zK324, zK347, zK346, zK345], pre := [(.le (.int 0) (.var 1), true), (.le (.var 1) (.un .len (.var 0)), true), (.le (.un .len (.var 0)) (.int 60), true), (.le zK344 (.int 3000), true), (.le (.int 0) (.var 2), true), (.le (.bi .add (.var 2) (.int 1)) (.var 1), true), (.eq (.var 10) (.int 0), true), (.le (.int 1) (.var 5), true), (.eq (.var 5) (.un .len (.var 6)), true), (.le (.int 1) (.var 7), true), (.eq (.var 7) (.un .len (.var 8)), true), (.eq (.var 3) zK316, true), (.same (.var 4) zK349, true), (.le (.int 1) txK320, true), (.le (.int 1) txK321, true)], x := 2, fin := [(11, .sslice 7 (.int 0) txK322 txK322 true), (12, .sslice 9 (.int 0) txK320 txK320 true), (10, .ptr 1 0), (0, .pv (.agg [.sl (.int .u8), .bool]) (.var 0)), (1, .sint .i64 (.var 2))], frows := [zK315, (3, .map [⟨.str ⟨#[102]⟩, .ptr 5 0, 0⟩] 1), zK329, zK352, zK353, zK350, zK351], same := [1, 3, 5], chg := [0, 1, 10, 11, 12, 13, 14, 15, 66, 67, 68, 69, 70, 71, 72, 73, 74, 75, 76, 77, 78, 79, 80, 81, 82, 83, 84, 85, 86, 87, 88, 89, 90, 91, 92, 93, 94, 95, 96, 97, 98, 99, 100, 101, 102, 103, 104, 105, 106, 107, 108, 109, 110, 111, 112, 113, 114, 115, 116, 117, 118, 119, 120, 121, 122, 123, 124, 125, 126, 127, 128, 129, 130, 131, 132, 133, 134, 135, 136, 137, 138] }
def k3 : Nat → LSpec
 | 0 => k3i0
 | 1 => k3i1
 | 2 => k3i2
 | 3 => k3i3
 | _ => k3o3
abbrev asK30 : Q × Bool := ((.fit .i64 (.un .len (.var 0))), true)
abbrev asK31 : Q × Bool := ((.le (.un .len (.var 0)) (.var 1)), false)
abbrev asK32 : Q × Bool := ((.le (.int 0) (.var 1)), true)
abbrev asK33 : Q × Bool := ((.eq (.bi .sel zK355 (.int 1)) (.int 0)), false)
abbrev asK34 : Q × Bool := ((.eq (.var 10) (.int 0)), false)
abbrev asK35 : Q × Bool := ((.eq (.var 10) (.int (-1))), true)
abbrev asK36 : Q × Bool := ((.le (.int 0) (.var 2)), false)
abbrev asK37 : Q × Bool := ((.fit .i64 zK31), true)
def k3i0_t0 : List (Q × Bool) := [asK30, asK31, asK32, asK33, asK34, asK35, asK36, asK37]
def k3i0_d0 : List Duty := [(true, txK344, txK332), (true, txK344, txK332), (true, txK345, txK330), (true, txK345, txK330), (true, txK345, txK330), (true, txK345, txK330), (true, txK346, txK331), (true, txK346, txK331), (true, txK344, txK332), zK330, (true, txK345, txK330), zK317, (true, txK345, txK330), zK317, (true, txK346, txK331), zK331]
def k3i0_h0 : List (Nat × E) := [(9, zK30), (10, (.var 10)), (1, zK31), (2, (.var 2)), (0, (.var 0))]
theorem k3i0_h0_a : lookE k3i0_h0 0 = (.var 0) ∧ lookE k3i0_h0 1 = zK31 ∧ lookE k3i0_h0 2 = (.var 2) ∧ lookE k3i0_h0 9 = zK30 ∧ lookE k3i0_h0 10 = (.var 10) := ⟨rfl, rfl, rfl, rfl, rfl⟩
theorem k3i0_y0 : nextJ (k3 0) (k3 0) k3i0_h0 [(5, 5), (3, 3), (1, 1)] (roundC Try.prog [] [] [(64, .lib (.clone)), (35, .lib (.keys 58 9))] 3000 40 5 [4, 1, 0, 1, 1, 1, 1, 1, 1, 1, 1] (tellA k3i0_t0) (k3 0)) = some k3i0_d0 := by kernel_rfl
abbrev asK38 : Q × Bool := ((.eq (.var 10) (.int (-1))), false)
abbrev asK39 : Q × Bool := ((.fit .i64 zK37), true)
abbrev asK310 : Q × Bool := ((.le (.int 0) (.var 2)), true)
abbrev asK311 : Q × Bool := ((.le (.var 2) (.var 1)), false)
def k3i0_t1 : List (Q × Bool) := [asK30, asK31, asK32, asK33, asK34, asK38, asK39, asK310, asK311, asK37]
def k3i0_d1 : List Duty := [(true, txK344, txK332), (true, txK344, txK332), (true, txK345, txK330), (true, txK345, txK330), (true, txK345, txK330), (true, txK345, txK330), (true, txK346, txK331), (true, txK346, txK331), (true, txK344, txK332), zK330, (true, txK345, txK330), zK317, (true, txK345, txK330), zK317, (true, txK346, txK331), zK331]
def k3i0_h1 : List (Nat × E) := [(9, zK30), (10, zK37), (1, zK31), (2, (.var 2)), (0, (.var 0))]
theorem k3i0_h1_a : lookE k3i0_h1 0 = (.var 0) ∧ lookE k3i0_h1 1 = zK31 ∧ lookE k3i0_h1 2 = (.var 2) ∧ lookE k3i0_h1 9 = zK30 ∧ lookE k3i0_h1 10 = zK37 := ⟨rfl, rfl, rfl, rfl, rfl⟩
theorem k3i0_y1 : nextJ (k3 0) (k3 0) k3i0_h1 [(5, 5), (3, 3), (1, 1)] (roundC Try.prog [] [] [(64, .lib (.clone)), (35, .lib (.keys 58 9))] 3000 40 5 [4, 1, 0, 1, 1, 1, 1, 1, 1, 1, 1] (tellA k3i0_t1) (k3 0)) = some k3i0_d1 := by kernel_rfl
abbrev asK312 : Q × Bool := ((.eq (.bi .sel zK355 (.int 1)) (.int 0)), true)
abbrev asK313 : Q × Bool := ((.fit .i64 (.un .len txK30)), true)
abbrev asK314 : Q × Bool := ((.le (.un .len txK30) (.int 3000)), true)
abbrev asK315 : Q × Bool := ((.eq (.un .len txK30) (.int 0)), true)
def k3i0_t2 : List (Q × Bool) := [asK30, asK31, asK32, asK312, asK313, asK314, asK34, asK35, asK315, asK36, asK37]
def k3i0_d2 : List Duty := [(true, txK344, txK332), (true, txK344, txK332), (true, txK345, txK330), (true, txK345, txK330), (true, txK345, txK330), (true, txK345, txK330), (true, txK346, txK331), (true, txK346, txK331), (true, txK344, txK332), zK330, (true, txK345, txK330), zK317, (true, txK345, txK330), zK317, (true, txK346, txK331), zK331]
def k3i0_h2 : List (Nat × E) := [(9, zK30), (10, (.var 10)), (1, zK31), (2, (.var 2)), (0, (.var 0))]
theorem k3i0_h2_a : lookE k3i0_h2 0 = (.var 0) ∧ lookE k3i0_h2 1 = zK31 ∧ lookE k3i0_h2 2 = (.var 2) ∧ lookE k3i0_h2 9 = zK30 ∧ lookE k3i0_h2 10 = (.var 10) := ⟨rfl, rfl, rfl, rfl, rfl⟩
theorem k3i0_y2 : nextJ (k3 0) (k3 0) k3i0_h2 [(5, 5), (3, 3), (1, 1)] (roundC Try.prog [] [] [(64, .lib (.clone)), (35, .lib (.keys 58 9))] 3000 40 5 [4, 1, 0, 1, 1, 1, 1, 1, 1, 1, 1] (tellA k3i0_t2) (k3 0)) = some k3i0_d2 := by kernel_rfl
def k3i0_t3 : List (Q × Bool) := [asK30, asK31, asK32, asK312, asK313, asK314, asK34, asK38, asK39, asK315, asK310, asK311, asK37]
def k3i0_d3 : List Duty := [(true, txK344, txK332), (true, txK344, txK332), (true, txK345, txK330), (true, txK345, txK330), (true, txK345, txK330), (true, txK345, txK330), (true, txK346, txK331), (true, txK346, txK331), (true, txK344, txK332), zK330, (true, txK345, txK330), zK317, (true, txK345, txK330), zK317, (true, txK346, txK331), zK331]
def k3i0_h3 : List (Nat × E) := [(9, zK30), (10, zK37), (1, zK31), (2, (.var 2)), (0, (.var 0))]
theorem k3i0_h3_a : lookE k3i0_h3 0 = (.var 0) ∧ lookE k3i0_h3 1 = zK31 ∧ lookE k3i0_h3 2 = (.var 2) ∧ lookE k3i0_h3 9 = zK30 ∧ lookE k3i0_h3 10 = zK37 := ⟨rfl, rfl, rfl, rfl, rfl⟩
theorem k3i0_y3 : nextJ (k3 0) (k3 0) k3i0_h3 [(5, 5), (3, 3), (1, 1)] (roundC Try.prog [] [] [(64, .lib (.clone)), (35, .lib (.keys 58 9))] 3000 40 5 [4, 1, 0, 1, 1, 1, 1, 1, 1, 1, 1] (tellA k3i0_t3) (k3 0)) = some k3i0_d3 := by kernel_rfl
abbrev asK316 : Q × Bool := ((.eq (.un .len txK30) (.int 0)), false)
abbrev asK317 : Q × Bool := ((.le (.bi .mul (.un .len txK30) (.int 2)) (.int 281474976710656)), true)
def k3i0_t4 : List (Q × Bool) := [asK30, asK31, asK32, asK312, asK313, asK314, asK34, asK35, asK316, asK317, asK36, asK37]
def k3i0_d4 : List Duty := [(true, txK352, txK332), (true, txK352, txK332), (true, txK353, txK330), (true, txK353, txK330), (true, txK353, txK330), (true, txK353, txK330), (true, txK354, txK331), (true, txK354, txK331), (true, txK352, txK332), (false, (.fn 44 zK321), (.fn 44 zK34)), (true, txK353, txK330), zK332, (true, txK353, txK330), zK332, (true, txK354, txK331), (false, (.fn 46 zK321), (.fn 46 zK34))]
def k3i0_h4 : List (Nat × E) := [(8, txK30), (4, txK30), (7, (.un .len txK30)), (9, zK30), (10, (.var 10)), (1, zK31), (3, (.un .len txK30)), (2, (.var 2)), (0, (.var 0))]
theorem k3i0_h4_a : lookE k3i0_h4 0 = (.var 0) ∧ lookE k3i0_h4 1 = zK31 ∧ lookE k3i0_h4 2 = (.var 2) ∧ lookE k3i0_h4 3 = (.un .len txK30) ∧ lookE k3i0_h4 4 = txK30 ∧ lookE k3i0_h4 7 = (.un .len txK30) ∧ lookE k3i0_h4 8 = txK30 ∧ lookE k3i0_h4 9 = zK30 ∧ lookE k3i0_h4 10 = (.var 10) := ⟨rfl, rfl, rfl, rfl, rfl, rfl, rfl, rfl, rfl⟩
theorem k3i0_y4 : nextJ (k3 0) (k3 1) k3i0_h4 [(13, 27), (5, 5), (3, 3), (7, 29), (1, 1)] (roundC Try.prog [] [] [(64, .lib (.clone)), (35, .lib (.keys 58 9))] 3000 40 5 [4, 1, 0, 1, 1, 1, 1, 1, 1, 1, 1] (tellA k3i0_t4) (k3 0)) = some k3i0_d4 := by kernel_rfl
def k3i0_t5 : List (Q × Bool) := [asK30, asK31, asK32, asK312, asK313, asK314, asK34, asK38, asK39, asK316, asK317, asK310, asK311, asK37]
def k3i0_d5 : List Duty := [(true, txK352, txK332), (true, txK352, txK332), (true, txK353, txK330), (true, txK353, txK330), (true, txK353, txK330), (true, txK353, txK330), (true, txK354, txK331), (true, txK354, txK331), (true, txK352, txK332), (false, (.fn 44 zK321), (.fn 44 zK34)), (true, txK353, txK330), zK332, (true, txK353, txK330), zK332, (true, txK354, txK331), (false, (.fn 46 zK321), (.fn 46 zK34))]
def k3i0_h5 : List (Nat × E) := [(8, txK30), (4, txK30), (7, (.un .len txK30)), (9, zK30), (10, zK37), (1, zK31), (3, (.un .len txK30)), (2, (.var 2)), (0, (.var 0))]
theorem k3i0_h5_a : lookE k3i0_h5 0 = (.var 0) ∧ lookE k3i0_h5 1 = zK31 ∧ lookE k3i0_h5 2 = (.var 2) ∧ lookE k3i0_h5 3 = (.un .len txK30) ∧ lookE k3i0_h5 4 = txK30 ∧ lookE k3i0_h5 7 = (.un .len txK30) ∧ lookE k3i0_h5 8 = txK30 ∧ lookE k3i0_h5 9 = zK30 ∧ lookE k3i0_h5 10 = zK37 := ⟨rfl, rfl, rfl, rfl, rfl, rfl, rfl, rfl, rfl⟩
theorem k3i0_y5 : nextJ (k3 0) (k3 1) k3i0_h5 [(13, 27), (5, 5), (3, 3), (7, 29), (1, 1)] (roundC Try.prog [] [] [(64, .lib (.clone)), (35, .lib (.keys 58 9))] 3000 40 5 [4, 1, 0, 1, 1, 1, 1, 1, 1, 1, 1] (tellA k3i0_t5) (k3 0)) = some k3i0_d5 := by kernel_rfl
abbrev asK318 : Q × Bool := ((.fit .i64 (.var 7)), true)
abbrev asK319 : Q × Bool := ((.le (.int 0) (.var 7)), true)
abbrev asK320 : Q × Bool := ((.eq (.var 7) (.int 0)), false)
abbrev asK321 : Q × Bool := ((.le (.bi .mul (.var 7) (.int 2)) (.int 281474976710656)), true)
abbrev asK322 : Q × Bool := ((.le (.bi .mul (.var 3) (.int 2)) (.int 281474976710656)), true)
def k3i1_t0 : List (Q × Bool) := [asK30, asK31, asK32, asK33, asK34, asK35, asK318, asK319, asK320, asK321, asK36, asK322, asK37]
def k3i1_d0 : List Duty := [zK326, zK326, zK326, (false, (.var 8), (.var 4)), (true, txK338, txK326), (true, txK338, txK326), (true, txK339, txK324), (true, txK339, txK324), (true, txK339, txK324), (true, txK339, txK324), (true, txK340, txK325), (true, txK340, txK325), (true, txK338, txK326), (false, (.fn 44 zK38), (.fn 44 zK35)), (true, txK339, txK324), zK341, (true, txK339, txK324), zK341, (true, txK340, txK325), (false, (.fn 46 zK38), (.fn 46 zK35))]
def k3i1_h0 : List (Nat × E) := [(6, (.var 4)), (4, (.var 4)), (9, zK30), (10, (.var 10)), (1, zK31), (5, (.var 3)), (3, (.var 3)), (2, (.var 2)), (0, (.var 0))]
theorem k3i1_h0_a : lookE k3i1_h0 0 = (.var 0) ∧ lookE k3i1_h0 1 = zK31 ∧ lookE k3i1_h0 2 = (.var 2) ∧ lookE k3i1_h0 3 = (.var 3) ∧ lookE k3i1_h0 4 = (.var 4) ∧ lookE k3i1_h0 5 = (.var 3) ∧ lookE k3i1_h0 6 = (.var 4) ∧ lookE k3i1_h0 9 = zK30 ∧ lookE k3i1_h0 10 = (.var 10) := ⟨rfl, rfl, rfl, rfl, rfl, rfl, rfl, rfl, rfl⟩
theorem k3i1_y0 : nextJ (k3 1) (k3 2) k3i1_h0 [(11, 17), (5, 5), (3, 3), (9, 21), (7, 7), (1, 1)] (roundC Try.prog [] [] [(64, .lib (.clone)), (35, .lib (.keys 58 9))] 3000 40 5 [4, 1, 0, 1, 1, 1, 1, 1, 1, 1, 1] (tellA k3i1_t0) (k3 1)) = some k3i1_d0 := by kernel_rfl
def k3i1_t1 : List (Q × Bool) := [asK30, asK31, asK32, asK33, asK34, asK38, asK39, asK318, asK319, asK320, asK321, asK310, asK311, asK322, asK37]
def k3i1_d1 : List Duty := [zK326, zK326, zK326, (false, (.var 8), (.var 4)), (true, txK338, txK326), (true, txK338, txK326), (true, txK339, txK324), (true, txK339, txK324), (true, txK339, txK324), (true, txK339, txK324), (true, txK340, txK325), (true, txK340, txK325), (true, txK338, txK326), (false, (.fn 44 zK38), (.fn 44 zK35)), (true, txK339, txK324), zK341, (true, txK339, txK324), zK341, (true, txK340, txK325), (false, (.fn 46 zK38), (.fn 46 zK35))]
def k3i1_h1 : List (Nat × E) := [(6, (.var 4)), (4, (.var 4)), (9, zK30), (10, zK37), (1, zK31), (5, (.var 3)), (3, (.var 3)), (2, (.var 2)), (0, (.var 0))]
theorem k3i1_h1_a : lookE k3i1_h1 0 = (.var 0) ∧ lookE k3i1_h1 1 = zK31 ∧ lookE k3i1_h1 2 = (.var 2) ∧ lookE k3i1_h1 3 = (.var 3) ∧ lookE k3i1_h1 4 = (.var 4) ∧ lookE k3i1_h1 5 = (.var 3) ∧ lookE k3i1_h1 6 = (.var 4) ∧ lookE k3i1_h1 9 = zK30 ∧ lookE k3i1_h1 10 = zK37 := ⟨rfl, rfl, rfl, rfl, rfl, rfl, rfl, rfl, rfl⟩
theorem k3i1_y1 : nextJ (k3 1) (k3 2) k3i1_h1 [(11, 17), (5, 5), (3, 3), (9, 21), (7, 7), (1, 1)] (roundC Try.prog [] [] [(64, .lib (.clone)), (35, .lib (.keys 58 9))] 3000 40 5 [4, 1, 0, 1, 1, 1, 1, 1, 1, 1, 1] (tellA k3i1_t1) (k3 1)) = some k3i1_d1 := by kernel_rfl
abbrev asK323 : Q × Bool := ((.fit .i64 (.bi .sub (.int 3000) (.var 7))), true)
abbrev asK324 : Q × Bool := ((.le (.un .len txK30) (.bi .sub (.int 3000) (.var 7))), true)
abbrev asK325 : Q × Bool := ((.le (.bi .mul zK39 (.int 2)) (.int 281474976710656)), true)
abbrev asK326 : Q × Bool := ((.le (.int 1) (.var 7)), true)
abbrev asK327 : Q × Bool := ((.le (.bi .mul zK33 (.int 2)) (.int 281474976710656)), true)
def k3i1_t2 : List (Q × Bool) := [asK30, asK31, asK32, asK312, asK313, asK318, asK319, asK323, asK324, asK34, asK35, asK325, asK326, asK36, asK327, asK37]
def k3i1_d2 : List Duty := [(true, txK358, txK326), (true, txK358, txK326), (true, txK359, txK324), (true, txK359, txK324), (true, txK359, txK324), (true, txK359, txK324), (true, txK360, txK325), (true, txK360, txK325), (true, txK358, txK326), zK333, (true, txK359, txK324), zK318, (true, txK359, txK324), zK318, (true, txK360, txK325), zK334]
def k3i1_h2 : List (Nat × E) := [(8, (.bi .app (.var 8) txK30)), (4, (.bi .app (.var 4) txK30)), (7, zK39), (9, zK30), (10, (.var 10)), (1, zK31), (3, zK33), (2, (.var 2)), (0, (.var 0))]
theorem k3i1_h2_a : lookE k3i1_h2 0 = (.var 0) ∧ lookE k3i1_h2 1 = zK31 ∧ lookE k3i1_h2 2 = (.var 2) ∧ lookE k3i1_h2 3 = zK33 ∧ lookE k3i1_h2 4 = (.bi .app (.var 4) txK30) ∧ lookE k3i1_h2 7 = zK39 ∧ lookE k3i1_h2 8 = (.bi .app (.var 8) txK30) ∧ lookE k3i1_h2 9 = zK30 ∧ lookE k3i1_h2 10 = (.var 10) := ⟨rfl, rfl, rfl, rfl, rfl, rfl, rfl, rfl, rfl⟩
theorem k3i1_y2 : nextJ (k3 1) (k3 1) k3i1_h2 [(13, 27), (5, 5), (3, 3), (7, 29), (1, 1)] (roundC Try.prog [] [] [(64, .lib (.clone)), (35, .lib (.keys 58 9))] 3000 40 5 [4, 1, 0, 1, 1, 1, 1, 1, 1, 1, 1] (tellA k3i1_t2) (k3 1)) = some k3i1_d2 := by kernel_rfl
def k3i1_t3 : List (Q × Bool) := [asK30, asK31, asK32, asK312, asK313, asK318, asK319, asK323, asK324, asK34, asK38, asK39, asK325, asK326, asK310, asK311, asK327, asK37]
def k3i1_d3 : List Duty := [(true, txK358, txK326), (true, txK358, txK326), (true, txK359, txK324), (true, txK359, txK324), (true, txK359, txK324), (true, txK359, txK324), (true, txK360, txK325), (true, txK360, txK325), (true, txK358, txK326), zK333, (true, txK359, txK324), zK318, (true, txK359, txK324), zK318, (true, txK360, txK325), zK334]
def k3i1_h3 : List (Nat × E) := [(8, (.bi .app (.var 8) txK30)), (4, (.bi .app (.var 4) txK30)), (7, zK39), (9, zK30), (10, zK37), (1, zK31), (3, zK33), (2, (.var 2)), (0, (.var 0))]
theorem k3i1_h3_a : lookE k3i1_h3 0 = (.var 0) ∧ lookE k3i1_h3 1 = zK31 ∧ lookE k3i1_h3 2 = (.var 2) ∧ lookE k3i1_h3 3 = zK33 ∧ lookE k3i1_h3 4 = (.bi .app (.var 4) txK30) ∧ lookE k3i1_h3 7 = zK39 ∧ lookE k3i1_h3 8 = (.bi .app (.var 8) txK30) ∧ lookE k3i1_h3 9 = zK30 ∧ lookE k3i1_h3 10 = zK37 := ⟨rfl, rfl, rfl, rfl, rfl, rfl, rfl, rfl, rfl⟩
theorem k3i1_y3 : nextJ (k3 1) (k3 1) k3i1_h3 [(13, 27), (5, 5), (3, 3), (7, 29), (1, 1)] (roundC Try.prog [] [] [(64, .lib (.clone)), (35, .lib (.keys 58 9))] 3000 40 5 [4, 1, 0, 1, 1, 1, 1, 1, 1, 1, 1] (tellA k3i1_t3) (k3 1)) = some k3i1_d3 := by kernel_rfl
def k3i1_t4 : List (Q × Bool) := [asK30, asK31, asK32, asK312, asK313, asK318, asK319, asK323, asK324, asK34, asK35, asK325, asK326, asK36, asK327, asK37]
def k3i1_d4 : List Duty := [(true, txK358, txK326), (true, txK358, txK326), (true, txK359, txK324), (true, txK359, txK324), (true, txK359, txK324), (true, txK359, txK324), (true, txK360, txK325), (true, txK360, txK325), (true, txK358, txK326), zK333, (true, txK359, txK324), zK318, (true, txK359, txK324), zK318, (true, txK360, txK325), zK334]
def k3i1_h4 : List (Nat × E) := [(8, (.bi .app (.var 8) txK30)), (4, (.bi .app (.var 4) txK30)), (7, zK39), (9, zK30), (10, (.var 10)), (1, zK31), (3, zK33), (2, (.var 2)), (0, (.var 0))]
theorem k3i1_h4_a : lookE k3i1_h4 0 = (.var 0) ∧ lookE k3i1_h4 1 = zK31 ∧ lookE k3i1_h4 2 = (.var 2) ∧ lookE k3i1_h4 3 = zK33 ∧ lookE k3i1_h4 4 = (.bi .app (.var 4) txK30) ∧ lookE k3i1_h4 7 = zK39 ∧ lookE k3i1_h4 8 = (.bi .app (.var 8) txK30) ∧ lookE k3i1_h4 9 = zK30 ∧ lookE k3i1_h4 10 = (.var 10) := ⟨rfl, rfl, rfl, rfl, rfl, rfl, rfl, rfl, rfl⟩
theorem k3i1_y4 : nextJ (k3 1) (k3 1) k3i1_h4 [(13, 27), (5, 5), (3, 3), (7, 29), (1, 1)] (roundC Try.prog [] [] [(64, .lib (.clone)), (35, .lib (.keys 58 9))] 3000 40 5 [4, 1, 0, 1, 1, 1, 1, 1, 1, 1, 1] (tellA k3i1_t4) (k3 1)) = some k3i1_d4 := by kernel_rfl
def k3i1_t5 : List (Q × Bool) := [asK30, asK31, asK32, asK312, asK313, asK318, asK319, asK323, asK324, asK34, asK38, asK39, asK325, asK326, asK310, asK311, asK327, asK37]
def k3i1_d5 : List Duty := [(true, txK358, txK326), (true, txK358, txK326), (true, txK359, txK324), (true, txK359, txK324), (true, txK359, txK324), (true, txK359, txK324), (true, txK360, txK325), (true, txK360, txK325), (true, txK358, txK326), zK333, (true, txK359, txK324), zK318, (true, txK359, txK324), zK318, (true, txK360, txK325), zK334]
def k3i1_h5 : List (Nat × E) := [(8, (.bi .app (.var 8) txK30)), (4, (.bi .app (.var 4) txK30)), (7, zK39), (9, zK30), (10, zK37), (1, zK31), (3, zK33), (2, (.var 2)), (0, (.var 0))]
theorem k3i1_h5_a : lookE k3i1_h5 0 = (.var 0) ∧ lookE k3i1_h5 1 = zK31 ∧ lookE k3i1_h5 2 = (.var 2) ∧ lookE k3i1_h5 3 = zK33 ∧ lookE k3i1_h5 4 = (.bi .app (.var 4) txK30) ∧ lookE k3i1_h5 7 = zK39 ∧ lookE k3i1_h5 8 = (.bi .app (.var 8) txK30) ∧ lookE k3i1_h5 9 = zK30 ∧ lookE k3i1_h5 10 = zK37 := ⟨rfl, rfl, rfl, rfl, rfl, rfl, rfl, rfl, rfl⟩
theorem k3i1_y5 : nextJ (k3 1) (k3 1) k3i1_h5 [(13, 27), (5, 5), (3, 3), (7, 29), (1, 1)] (roundC Try.prog [] [] [(64, .lib (.clone)), (35, .lib (.keys 58 9))] 3000 40 5 [4, 1, 0, 1, 1, 1, 1, 1, 1, 1, 1] (tellA k3i1_t5) (k3 1)) = some k3i1_d5 := by kernel_rfl
abbrev asK328 : Q × Bool := ((.le (.bi .mul (.var 5) (.int 2)) (.int 281474976710656)), true)
def k3i2_t0 : List (Q × Bool) := [asK30, asK31, asK32, asK33, asK34, asK35, asK328, asK36, asK322, asK37]
def k3i2_d0 : List Duty := [zK327, zK327, zK327, (false, (.var 6), (.var 4)), (true, txK338, txK329), (true, txK338, txK329), (true, txK339, txK327), (true, txK339, txK327), (true, txK339, txK327), (true, txK339, txK327), (true, txK340, txK328), (true, txK340, txK328), (true, txK338, txK329), (false, (.fn 44 zK38), (.fn 44 zK36)), (true, txK339, txK327), zK342, (true, txK339, txK327), zK342, (true, txK340, txK328), (false, (.fn 46 zK38), (.fn 46 zK36))]
def k3i2_h0 : List (Nat × E) := [(6, (.var 4)), (4, (.var 4)), (9, zK30), (10, (.var 10)), (1, zK31), (5, (.var 3)), (3, (.var 3)), (2, (.var 2)), (0, (.var 0))]
theorem k3i2_h0_a : lookE k3i2_h0 0 = (.var 0) ∧ lookE k3i2_h0 1 = zK31 ∧ lookE k3i2_h0 2 = (.var 2) ∧ lookE k3i2_h0 3 = (.var 3) ∧ lookE k3i2_h0 4 = (.var 4) ∧ lookE k3i2_h0 5 = (.var 3) ∧ lookE k3i2_h0 6 = (.var 4) ∧ lookE k3i2_h0 9 = zK30 ∧ lookE k3i2_h0 10 = (.var 10) := ⟨rfl, rfl, rfl, rfl, rfl, rfl, rfl, rfl, rfl⟩
theorem k3i2_y0 : nextJ (k3 2) (k3 2) k3i2_h0 [(11, 17), (5, 5), (3, 3), (9, 21), (7, 7), (1, 1)] (roundC Try.prog [] [] [(64, .lib (.clone)), (35, .lib (.keys 58 9))] 3000 40 5 [4, 1, 0, 1, 1, 1, 1, 1, 1, 1, 1] (tellA k3i2_t0) (k3 2)) = some k3i2_d0 := by kernel_rfl
def k3i2_t1 : List (Q × Bool) := [asK30, asK31, asK32, asK33, asK34, asK38, asK39, asK328, asK310, asK311, asK322, asK37]
def k3i2_d1 : List Duty := [zK327, zK327, zK327, (false, (.var 6), (.var 4)), (true, txK338, txK329), (true, txK338, txK329), (true, txK339, txK327), (true, txK339, txK327), (true, txK339, txK327), (true, txK339, txK327), (true, txK340, txK328), (true, txK340, txK328), (true, txK338, txK329), (false, (.fn 44 zK38), (.fn 44 zK36)), (true, txK339, txK327), zK342, (true, txK339, txK327), zK342, (true, txK340, txK328), (false, (.fn 46 zK38), (.fn 46 zK36))]
def k3i2_h1 : List (Nat × E) := [(6, (.var 4)), (4, (.var 4)), (9, zK30), (10, zK37), (1, zK31), (5, (.var 3)), (3, (.var 3)), (2, (.var 2)), (0, (.var 0))]
theorem k3i2_h1_a : lookE k3i2_h1 0 = (.var 0) ∧ lookE k3i2_h1 1 = zK31 ∧ lookE k3i2_h1 2 = (.var 2) ∧ lookE k3i2_h1 3 = (.var 3) ∧ lookE k3i2_h1 4 = (.var 4) ∧ lookE k3i2_h1 5 = (.var 3) ∧ lookE k3i2_h1 6 = (.var 4) ∧ lookE k3i2_h1 9 = zK30 ∧ lookE k3i2_h1 10 = zK37 := ⟨rfl, rfl, rfl, rfl, rfl, rfl, rfl, rfl, rfl⟩
theorem k3i2_y1 : nextJ (k3 2) (k3 2) k3i2_h1 [(11, 17), (5, 5), (3, 3), (9, 21), (7, 7), (1, 1)] (roundC Try.prog [] [] [(64, .lib (.clone)), (35, .lib (.keys 58 9))] 3000 40 5 [4, 1, 0, 1, 1, 1, 1, 1, 1, 1, 1] (tellA k3i2_t1) (k3 2)) = some k3i2_d1 := by kernel_rfl
abbrev asK329 : Q × Bool := ((.fit .i64 (.var 5)), true)
abbrev asK330 : Q × Bool := ((.le (.int 0) (.var 5)), true)
abbrev asK331 : Q × Bool := ((.fit .i64 (.bi .sub (.int 3000) (.var 5))), true)
abbrev asK332 : Q × Bool := ((.le (.un .len txK30) (.bi .sub (.int 3000) (.var 5))), true)
def k3i2_t2 : List (Q × Bool) := [asK30, asK31, asK32, asK312, asK313, asK329, asK330, asK331, asK332, asK34, asK35, asK315, asK36, asK327, asK37]
def k3i2_d2 : List Duty := [(true, txK341, txK329), (true, txK341, txK329), (true, txK342, txK327), (true, txK342, txK327), (true, txK342, txK327), (true, txK342, txK327), (true, txK343, txK328), (true, txK343, txK328), (true, txK341, txK329), (false, (.fn 44 zK322), (.fn 44 zK36)), (true, txK342, txK327), zK335, (true, txK342, txK327), zK335, (true, txK343, txK328), (false, (.fn 46 zK322), (.fn 46 zK36))]
def k3i2_h2 : List (Nat × E) := [(6, (.var 6)), (4, (.bi .app (.var 4) txK30)), (9, zK30), (10, (.var 10)), (1, zK31), (5, (.var 5)), (3, zK33), (2, (.var 2)), (0, (.var 0))]
theorem k3i2_h2_a : lookE k3i2_h2 0 = (.var 0) ∧ lookE k3i2_h2 1 = zK31 ∧ lookE k3i2_h2 2 = (.var 2) ∧ lookE k3i2_h2 3 = zK33 ∧ lookE k3i2_h2 4 = (.bi .app (.var 4) txK30) ∧ lookE k3i2_h2 5 = (.var 5) ∧ lookE k3i2_h2 6 = (.var 6) ∧ lookE k3i2_h2 9 = zK30 ∧ lookE k3i2_h2 10 = (.var 10) := ⟨rfl, rfl, rfl, rfl, rfl, rfl, rfl, rfl, rfl⟩
theorem k3i2_y2 : nextJ (k3 2) (k3 2) k3i2_h2 [(11, 11), (5, 5), (3, 3), (9, 9), (7, 27), (1, 1)] (roundC Try.prog [] [] [(64, .lib (.clone)), (35, .lib (.keys 58 9))] 3000 40 5 [4, 1, 0, 1, 1, 1, 1, 1, 1, 1, 1] (tellA k3i2_t2) (k3 2)) = some k3i2_d2 := by kernel_rfl
def k3i2_t3 : List (Q × Bool) := [asK30, asK31, asK32, asK312, asK313, asK329, asK330, asK331, asK332, asK34, asK38, asK39, asK315, asK310, asK311, asK327, asK37]
def k3i2_d3 : List Duty := [(true, txK341, txK329), (true, txK341, txK329), (true, txK342, txK327), (true, txK342, txK327), (true, txK342, txK327), (true, txK342, txK327), (true, txK343, txK328), (true, txK343, txK328), (true, txK341, txK329), (false, (.fn 44 zK322), (.fn 44 zK36)), (true, txK342, txK327), zK335, (true, txK342, txK327), zK335, (true, txK343, txK328), (false, (.fn 46 zK322), (.fn 46 zK36))]
def k3i2_h3 : List (Nat × E) := [(6, (.var 6)), (4, (.bi .app (.var 4) txK30)), (9, zK30), (10, zK37), (1, zK31), (5, (.var 5)), (3, zK33), (2, (.var 2)), (0, (.var 0))]
theorem k3i2_h3_a : lookE k3i2_h3 0 = (.var 0) ∧ lookE k3i2_h3 1 = zK31 ∧ lookE k3i2_h3 2 = (.var 2) ∧ lookE k3i2_h3 3 = zK33 ∧ lookE k3i2_h3 4 = (.bi .app (.var 4) txK30) ∧ lookE k3i2_h3 5 = (.var 5) ∧ lookE k3i2_h3 6 = (.var 6) ∧ lookE k3i2_h3 9 = zK30 ∧ lookE k3i2_h3 10 = zK37 := ⟨rfl, rfl, rfl, rfl, rfl, rfl, rfl, rfl, rfl⟩
theorem k3i2_y3 : nextJ (k3 2) (k3 2) k3i2_h3 [(11, 11), (5, 5), (3, 3), (9, 9), (7, 27), (1, 1)] (roundC Try.prog [] [] [(64, .lib (.clone)), (35, .lib (.keys 58 9))] 3000 40 5 [4, 1, 0, 1, 1, 1, 1, 1, 1, 1, 1] (tellA k3i2_t3) (k3 2)) = some k3i2_d3 := by kernel_rfl
def k3i2_t4 : List (Q × Bool) := [asK30, asK31, asK32, asK312, asK313, asK329, asK330, asK331, asK332, asK34, asK35, asK316, asK317, asK36, asK327, asK37]
def k3i2_d4 : List Duty := [(true, txK349, txK329), (true, txK349, txK329), (true, txK350, txK327), (true, txK350, txK327), (true, txK350, txK327), (true, txK350, txK327), (true, txK351, txK328), (true, txK351, txK328), (true, txK349, txK329), (false, (.fn 44 zK323), (.fn 44 zK36)), (true, txK350, txK327), zK336, (true, txK350, txK327), zK336, (true, txK351, txK328), (false, (.fn 46 zK323), (.fn 46 zK36))]
def k3i2_h4 : List (Nat × E) := [(8, txK30), (6, (.var 6)), (4, (.bi .app (.var 4) txK30)), (7, (.un .len txK30)), (9, zK30), (10, (.var 10)), (1, zK31), (5, (.var 5)), (3, zK33), (2, (.var 2)), (0, (.var 0))]
theorem k3i2_h4_a : lookE k3i2_h4 0 = (.var 0) ∧ lookE k3i2_h4 1 = zK31 ∧ lookE k3i2_h4 2 = (.var 2) ∧ lookE k3i2_h4 3 = zK33 ∧ lookE k3i2_h4 4 = (.bi .app (.var 4) txK30) ∧ lookE k3i2_h4 5 = (.var 5) ∧ lookE k3i2_h4 6 = (.var 6) ∧ lookE k3i2_h4 7 = (.un .len txK30) ∧ lookE k3i2_h4 8 = txK30 ∧ lookE k3i2_h4 9 = zK30 ∧ lookE k3i2_h4 10 = (.var 10) := ⟨rfl, rfl, rfl, rfl, rfl, rfl, rfl, rfl, rfl, rfl, rfl⟩
theorem k3i2_y4 : nextJ (k3 2) (k3 3) k3i2_h4 [(13, 27), (11, 11), (5, 5), (3, 3), (9, 9), (7, 29), (1, 1)] (roundC Try.prog [] [] [(64, .lib (.clone)), (35, .lib (.keys 58 9))] 3000 40 5 [4, 1, 0, 1, 1, 1, 1, 1, 1, 1, 1] (tellA k3i2_t4) (k3 2)) = some k3i2_d4 := by kernel_rfl
def k3i2_t5 : List (Q × Bool) := [asK30, asK31, asK32, asK312, asK313, asK329, asK330, asK331, asK332, asK34, asK38, asK39, asK316, asK317, asK310, asK311, asK327, asK37]
def k3i2_d5 : List Duty := [(true, txK349, txK329), (true, txK349, txK329), (true, txK350, txK327), (true, txK350, txK327), (true, txK350, txK327), (true, txK350, txK327), (true, txK351, txK328), (true, txK351, txK328), (true, txK349, txK329), (false, (.fn 44 zK323), (.fn 44 zK36)), (true, txK350, txK327), zK336, (true, txK350, txK327), zK336, (true, txK351, txK328), (false, (.fn 46 zK323), (.fn 46 zK36))]
def k3i2_h5 : List (Nat × E) := [(8, txK30), (6, (.var 6)), (4, (.bi .app (.var 4) txK30)), (7, (.un .len txK30)), (9, zK30), (10, zK37), (1, zK31), (5, (.var 5)), (3, zK33), (2, (.var 2)), (0, (.var 0))]
theorem k3i2_h5_a : lookE k3i2_h5 0 = (.var 0) ∧ lookE k3i2_h5 1 = zK31 ∧ lookE k3i2_h5 2 = (.var 2) ∧ lookE k3i2_h5 3 = zK33 ∧ lookE k3i2_h5 4 = (.bi .app (.var 4) txK30) ∧ lookE k3i2_h5 5 = (.var 5) ∧ lookE k3i2_h5 6 = (.var 6) ∧ lookE k3i2_h5 7 = (.un .len txK30) ∧ lookE k3i2_h5 8 = txK30 ∧ lookE k3i2_h5 9 = zK30 ∧ lookE k3i2_h5 10 = zK37 := ⟨rfl, rfl, rfl, rfl, rfl, rfl, rfl, rfl, rfl, rfl, rfl⟩
theorem k3i2_y5 : nextJ (k3 2) (k3 3) k3i2_h5 [(13, 27), (11, 11), (5, 5), (3, 3), (9, 9), (7, 29), (1, 1)] (roundC Try.prog [] [] [(64, .lib (.clone)), (35, .lib (.keys 58 9))] 3000 40 5 [4, 1, 0, 1, 1, 1, 1, 1, 1, 1, 1] (tellA k3i2_t5) (k3 2)) = some k3i2_d5 := by kernel_rfl
abbrev asK333 : Q × Bool := ((.le (.un .len (.var 0)) (.var 1)), true)
def k3i3_t0 : List (Q × Bool) := [asK30, asK333]
def k3i3_d0 : List Duty := [(true, (.var 3), txK322), (true, (.var 3), txK322), (true, (.var 5), txK320), (true, (.var 5), txK320), (true, (.var 5), txK320), (true, (.var 5), txK320), (true, (.var 7), txK321), (true, (.var 7), txK321), (true, (.var 3), txK322), (false, (.var 4), (.fn 44 zK32)), (true, (.var 5), txK320), zK348, (true, (.var 5), txK320), zK348, (true, (.var 7), txK321), (false, (.var 8), (.fn 46 zK32))]
theorem k3i3_y0 : endD (k3 3) [(13, 13), (11, 11), (9, 9), (7, 7), (1, 1), (3, 3), (5, 5)] 1000 (roundC Try.prog [] [] [(64, .lib (.clone)), (35, .lib (.keys 58 9))] 3000 40 5 [4, 1, 0, 1, 1, 1, 1, 1, 1, 1, 1] (tellA k3i3_t0) (k3 3)) = some k3i3_d0 := by kernel_rfl
abbrev asK334 : Q × Bool := ((.eq (.var 10) (.int 0)), true)
abbrev asK335 : Q × Bool := ((.le (.var 2) (.var 1)), true)
def k3i3_t1 : List (Q × Bool) := [asK30, asK31, asK32, asK33, asK334, asK310, asK335, asK37]
def k3i3_d1 : List Duty := [(true, txK334, txK322), (true, txK334, txK322), (true, txK335, txK320), (true, txK335, txK320), (true, txK335, txK320), (true, txK335, txK320), (true, txK336, txK321), (true, txK336, txK321), (true, txK334, txK322), zK337, (true, txK335, txK320), zK319, (true, txK335, txK320), zK319, (true, txK336, txK321), zK338]
def k3i3_h1 : List (Nat × E) := [(8, (.var 8)), (6, (.var 6)), (4, (.var 4)), (7, (.var 7)), (9, (.var 9)), (10, (.var 10)), (1, zK31), (5, (.var 5)), (3, (.var 3)), (2, (.var 2)), (0, (.var 0))]
theorem k3i3_h1_a : lookE k3i3_h1 0 = (.var 0) ∧ lookE k3i3_h1 1 = zK31 ∧ lookE k3i3_h1 2 = (.var 2) ∧ lookE k3i3_h1 3 = (.var 3) ∧ lookE k3i3_h1 4 = (.var 4) ∧ lookE k3i3_h1 5 = (.var 5) ∧ lookE k3i3_h1 6 = (.var 6) ∧ lookE k3i3_h1 7 = (.var 7) ∧ lookE k3i3_h1 8 = (.var 8) ∧ lookE k3i3_h1 9 = (.var 9) ∧ lookE k3i3_h1 10 = (.var 10) := ⟨rfl, rfl, rfl, rfl, rfl, rfl, rfl, rfl, rfl, rfl, rfl⟩
theorem k3i3_y1 : nextJ (k3 3) (k3 4) k3i3_h1 [(13, 13), (11, 11), (5, 5), (3, 3), (9, 9), (7, 7), (1, 1)] (roundC Try.prog [] [] [(64, .lib (.clone)), (35, .lib (.keys 58 9))] 3000 40 5 [4, 1, 0, 1, 1, 1, 1, 1, 1, 1, 1] (tellA k3i3_t1) (k3 3)) = some k3i3_d1 := by kernel_rfl
abbrev asK336 : Q × Bool := ((.fit .i64 zK316), true)
abbrev asK337 : Q × Bool := ((.le (.int 0) zK316), true)
abbrev asK338 : Q × Bool := ((.fit .i64 (.bi .sub (.int 3000) zK316)), true)
abbrev asK339 : Q × Bool := ((.le (.un .len txK30) (.bi .sub (.int 3000) zK316)), true)
def k3i3_t2 : List (Q × Bool) := [asK30, asK31, asK32, asK312, asK313, asK329, asK318, asK336, asK337, asK338, asK339, asK334, asK310, asK335, asK37]
def k3i3_d2 : List Duty := [(true, txK334, txK322), (true, txK334, txK322), (true, txK335, txK320), (true, txK335, txK320), (true, txK335, txK320), (true, txK335, txK320), (true, txK336, txK321), (true, txK336, txK321), (true, txK334, txK322), zK337, (true, txK335, txK320), zK319, (true, txK335, txK320), zK319, (true, txK336, txK321), zK338]
def k3i3_h2 : List (Nat × E) := [(8, (.var 8)), (6, (.var 6)), (4, (.var 4)), (7, (.var 7)), (9, (.var 9)), (10, (.var 10)), (1, zK31), (5, (.var 5)), (3, (.var 3)), (2, (.var 2)), (0, (.var 0))]
theorem k3i3_h2_a : lookE k3i3_h2 0 = (.var 0) ∧ lookE k3i3_h2 1 = zK31 ∧ lookE k3i3_h2 2 = (.var 2) ∧ lookE k3i3_h2 3 = (.var 3) ∧ lookE k3i3_h2 4 = (.var 4) ∧ lookE k3i3_h2 5 = (.var 5) ∧ lookE k3i3_h2 6 = (.var 6) ∧ lookE k3i3_h2 7 = (.var 7) ∧ lookE k3i3_h2 8 = (.var 8) ∧ lookE k3i3_h2 9 = (.var 9) ∧ lookE k3i3_h2 10 = (.var 10) := ⟨rfl, rfl, rfl, rfl, rfl, rfl, rfl, rfl, rfl, rfl, rfl⟩
theorem k3i3_y2 : nextJ (k3 3) (k3 4) k3i3_h2 [(13, 13), (11, 11), (5, 5), (3, 3), (9, 9), (7, 7), (1, 1)] (roundC Try.prog [] [] [(64, .lib (.clone)), (35, .lib (.keys 58 9))] 3000 40 5 [4, 1, 0, 1, 1, 1, 1, 1, 1, 1, 1] (tellA k3i3_t2) (k3 3)) = some k3i3_d2 := by kernel_rfl
abbrev asK340 : Q × Bool := ((.le (.bi .mul zK316 (.int 2)) (.int 281474976710656)), true)
def k3i3_t3 : List (Q × Bool) := [asK30, asK31, asK32, asK33, asK34, asK35, asK318, asK319, asK340, asK36, asK322, asK37]
def k3i3_d3 : List Duty := [(true, zK316, (.var 3)), (true, zK316, (.var 3)), (true, zK316, (.var 3)), (false, zK349, (.var 4)), (true, txK338, txK322), (true, txK338, txK322), (true, txK339, txK320), (true, txK339, txK320), (true, txK339, txK320), (true, txK339, txK320), (true, txK340, txK321), (true, txK340, txK321), (true, txK338, txK322), (false, (.fn 44 zK38), (.fn 44 zK32)), (true, txK339, txK320), zK343, (true, txK339, txK320), zK343, (true, txK340, txK321), (false, (.fn 46 zK38), (.fn 46 zK32))]
def k3i3_h3 : List (Nat × E) := [(6, (.var 4)), (4, (.var 4)), (9, zK30), (10, (.var 10)), (1, zK31), (5, (.var 3)), (3, (.var 3)), (2, (.var 2)), (0, (.var 0))]
theorem k3i3_h3_a : lookE k3i3_h3 0 = (.var 0) ∧ lookE k3i3_h3 1 = zK31 ∧ lookE k3i3_h3 2 = (.var 2) ∧ lookE k3i3_h3 3 = (.var 3) ∧ lookE k3i3_h3 4 = (.var 4) ∧ lookE k3i3_h3 5 = (.var 3) ∧ lookE k3i3_h3 6 = (.var 4) ∧ lookE k3i3_h3 9 = zK30 ∧ lookE k3i3_h3 10 = (.var 10) := ⟨rfl, rfl, rfl, rfl, rfl, rfl, rfl, rfl, rfl⟩
theorem k3i3_y3 : nextJ (k3 3) (k3 2) k3i3_h3 [(11, 17), (5, 5), (3, 3), (9, 21), (7, 7), (1, 1)] (roundC Try.prog [] [] [(64, .lib (.clone)), (35, .lib (.keys 58 9))] 3000 40 5 [4, 1, 0, 1, 1, 1, 1, 1, 1, 1, 1] (tellA k3i3_t3) (k3 3)) = some k3i3_d3 := by kernel_rfl
def k3i3_t4 : List (Q × Bool) := [asK30, asK31, asK32, asK33, asK34, asK38, asK39, asK318, asK319, asK340, asK310, asK311, asK322, asK37]
def k3i3_d4 : List Duty := [(true, zK316, (.var 3)), (true, zK316, (.var 3)), (true, zK316, (.var 3)), (false, zK349, (.var 4)), (true, txK338, txK322), (true, txK338, txK322), (true, txK339, txK320), (true, txK339, txK320), (true, txK339, txK320), (true, txK339, txK320), (true, txK340, txK321), (true, txK340, txK321), (true, txK338, txK322), (false, (.fn 44 zK38), (.fn 44 zK32)), (true, txK339, txK320), zK343, (true, txK339, txK320), zK343, (true, txK340, txK321), (false, (.fn 46 zK38), (.fn 46 zK32))]
def k3i3_h4 : List (Nat × E) := [(6, (.var 4)), (4, (.var 4)), (9, zK30), (10, zK37), (1, zK31), (5, (.var 3)), (3, (.var 3)), (2, (.var 2)), (0, (.var 0))]
theorem k3i3_h4_a : lookE k3i3_h4 0 = (.var 0) ∧ lookE k3i3_h4 1 = zK31 ∧ lookE k3i3_h4 2 = (.var 2) ∧ lookE k3i3_h4 3 = (.var 3) ∧ lookE k3i3_h4 4 = (.var 4) ∧ lookE k3i3_h4 5 = (.var 3) ∧ lookE k3i3_h4 6 = (.var 4) ∧ lookE k3i3_h4 9 = zK30 ∧ lookE k3i3_h4 10 = zK37 := ⟨rfl, rfl, rfl, rfl, rfl, rfl, rfl, rfl, rfl⟩
theorem k3i3_y4 : nextJ (k3 3) (k3 2) k3i3_h4 [(11, 17), (5, 5), (3, 3), (9, 21), (7, 7), (1, 1)] (roundC Try.prog [] [] [(64, .lib (.clone)), (35, .lib (.keys 58 9))] 3000 40 5 [4, 1, 0, 1, 1, 1, 1, 1, 1, 1, 1] (tellA k3i3_t4) (k3 3)) = some k3i3_d4 := by kernel_rfl
def k3i3_t5 : List (Q × Bool) := [asK30, asK31, asK32, asK312, asK313, asK329, asK318, asK336, asK337, asK338, asK339, asK34, asK35, asK325, asK326, asK36, asK327, asK37]
def k3i3_d5 : List Duty := [(true, txK355, txK322), (true, txK355, txK322), (true, txK356, txK320), (true, txK356, txK320), (true, txK356, txK320), (true, txK356, txK320), (true, txK357, txK321), (true, txK357, txK321), (true, txK355, txK322), zK339, (true, txK356, txK320), zK320, (true, txK356, txK320), zK320, (true, txK357, txK321), zK340]
def k3i3_h5 : List (Nat × E) := [(8, (.bi .app (.var 8) txK30)), (6, (.var 6)), (4, (.bi .app (.var 4) txK30)), (7, zK39), (9, zK30), (10, (.var 10)), (1, zK31), (5, (.var 5)), (3, zK33), (2, (.var 2)), (0, (.var 0))]
theorem k3i3_h5_a : lookE k3i3_h5 0 = (.var 0) ∧ lookE k3i3_h5 1 = zK31 ∧ lookE k3i3_h5 2 = (.var 2) ∧ lookE k3i3_h5 3 = zK33 ∧ lookE k3i3_h5 4 = (.bi .app (.var 4) txK30) ∧ lookE k3i3_h5 5 = (.var 5) ∧ lookE k3i3_h5 6 = (.var 6) ∧ lookE k3i3_h5 7 = zK39 ∧ lookE k3i3_h5 8 = (.bi .app (.var 8) txK30) ∧ lookE k3i3_h5 9 = zK30 ∧ lookE k3i3_h5 10 = (.var 10) := ⟨rfl, rfl, rfl, rfl, rfl, rfl, rfl, rfl, rfl, rfl, rfl⟩
theorem k3i3_y5 : nextJ (k3 3) (k3 3) k3i3_h5 [(13, 27), (11, 11), (5, 5), (3, 3), (9, 9), (7, 29), (1, 1)] (roundC Try.prog [] [] [(64, .lib (.clone)), (35, .lib (.keys 58 9))] 3000 40 5 [4, 1, 0, 1, 1, 1, 1, 1, 1, 1, 1] (tellA k3i3_t5) (k3 3)) = some k3i3_d5 := by kernel_rfl
def k3i3_t6 : List (Q × Bool) := [asK30, asK31, asK32, asK312, asK313, asK329, asK318, asK336, asK337, asK338, asK339, asK34, asK38, asK39, asK325, asK326, asK310, asK311, asK327, asK37]
def k3i3_d6 : List Duty := [(true, txK355, txK322), (true, txK355, txK322), (true, txK356, txK320), (true, txK356, txK320), (true, txK356, txK320), (true, txK356, txK320), (true, txK357, txK321), (true, txK357, txK321), (true, txK355, txK322), zK339, (true, txK356, txK320), zK320, (true, txK356, txK320), zK320, (true, txK357, txK321), zK340]
def k3i3_h6 : List (Nat × E) := [(8, (.bi .app (.var 8) txK30)), (6, (.var 6)), (4, (.bi .app (.var 4) txK30)), (7, zK39), (9, zK30), (10, zK37), (1, zK31), (5, (.var 5)), (3, zK33), (2, (.var 2)), (0, (.var 0))]
theorem k3i3_h6_a : lookE k3i3_h6 0 = (.var 0) ∧ lookE k3i3_h6 1 = zK31 ∧ lookE k3i3_h6 2 = (.var 2) ∧ lookE k3i3_h6 3 = zK33 ∧ lookE k3i3_h6 4 = (.bi .app (.var 4) txK30) ∧ lookE k3i3_h6 5 = (.var 5) ∧ lookE k3i3_h6 6 = (.var 6) ∧ lookE k3i3_h6 7 = zK39 ∧ lookE k3i3_h6 8 = (.bi .app (.var 8) txK30) ∧ lookE k3i3_h6 9 = zK30 ∧ lookE k3i3_h6 10 = zK37 := ⟨rfl, rfl, rfl, rfl, rfl, rfl, rfl, rfl, rfl, rfl, rfl⟩
theorem k3i3_y6 : nextJ (k3 3) (k3 3) k3i3_h6 [(13, 27), (11, 11), (5, 5), (3, 3), (9, 9), (7, 29), (1, 1)] (roundC Try.prog [] [] [(64, .lib (.clone)), (35, .lib (.keys 58 9))] 3000 40 5 [4, 1, 0, 1, 1, 1, 1, 1, 1, 1, 1] (tellA k3i3_t6) (k3 3)) = some k3i3_d6 := by kernel_rfl
def k3i3_t7 : List (Q × Bool) := [asK30, asK31, asK32, asK312, asK313, asK329, asK318, asK336, asK337, asK338, asK339, asK34, asK35, asK325, asK326, asK36, asK327, asK37]
def k3i3_d7 : List Duty := [(true, txK355, txK322), (true, txK355, txK322), (true, txK356, txK320), (true, txK356, txK320), (true, txK356, txK320), (true, txK356, txK320), (true, txK357, txK321), (true, txK357, txK321), (true, txK355, txK322), zK339, (true, txK356, txK320), zK320, (true, txK356, txK320), zK320, (true, txK357, txK321), zK340]
def k3i3_h7 : List (Nat × E) := [(8, (.bi .app (.var 8) txK30)), (6, (.var 6)), (4, (.bi .app (.var 4) txK30)), (7, zK39), (9, zK30), (10, (.var 10)), (1, zK31), (5, (.var 5)), (3, zK33), (2, (.var 2)), (0, (.var 0))]
theorem k3i3_h7_a : lookE k3i3_h7 0 = (.var 0) ∧ lookE k3i3_h7 1 = zK31 ∧ lookE k3i3_h7 2 = (.var 2) ∧ lookE k3i3_h7 3 = zK33 ∧ lookE k3i3_h7 4 = (.bi .app (.var 4) txK30) ∧ lookE k3i3_h7 5 = (.var 5) ∧ lookE k3i3_h7 6 = (.var 6) ∧ lookE k3i3_h7 7 = zK39 ∧ lookE k3i3_h7 8 = (.bi .app (.var 8) txK30) ∧ lookE k3i3_h7 9 = zK30 ∧ lookE k3i3_h7 10 = (.var 10) := ⟨rfl, rfl, rfl, rfl, rfl, rfl, rfl, rfl, rfl, rfl, rfl⟩
theorem k3i3_y7 : nextJ (k3 3) (k3 3) k3i3_h7 [(13, 27), (11, 11), (5, 5), (3, 3), (9, 9), (7, 29), (1, 1)] (roundC Try.prog [] [] [(64, .lib (.clone)), (35, .lib (.keys 58 9))] 3000 40 5 [4, 1, 0, 1, 1, 1, 1, 1, 1, 1, 1] (tellA k3i3_t7) (k3 3)) = some k3i3_d7 := by kernel_rfl
def k3i3_t8 : List (Q × Bool) := [asK30, asK31, asK32, asK312, asK313, asK329, asK318, asK336, asK337, asK338, asK339, asK34, asK38, asK39, asK325, asK326, asK310, asK311, asK327, asK37]
def k3i3_d8 : List Duty := [(true, txK355, txK322), (true, txK355, txK322), (true, txK356, txK320), (true, txK356, txK320), (true, txK356, txK320), (true, txK356, txK320), (true, txK357, txK321), (true, txK357, txK321), (true, txK355, txK322), zK339, (true, txK356, txK320), zK320, (true, txK356, txK320), zK320, (true, txK357, txK321), zK340]
def k3i3_h8 : List (Nat × E) := [(8, (.bi .app (.var 8) txK30)), (6, (.var 6)), (4, (.bi .app (.var 4) txK30)), (7, zK39), (9, zK30), (10, zK37), (1, zK31), (5, (.var 5)), (3, zK33), (2, (.var 2)), (0, (.var 0))]
theorem k3i3_h8_a : lookE k3i3_h8 0 = (.var 0) ∧ lookE k3i3_h8 1 = zK31 ∧ lookE k3i3_h8 2 = (.var 2) ∧ lookE k3i3_h8 3 = zK33 ∧ lookE k3i3_h8 4 = (.bi .app (.var 4) txK30) ∧ lookE k3i3_h8 5 = (.var 5) ∧ lookE k3i3_h8 6 = (.var 6) ∧ lookE k3i3_h8 7 = zK39 ∧ lookE k3i3_h8 8 = (.bi .app (.var 8) txK30) ∧ lookE k3i3_h8 9 = zK30 ∧ lookE k3i3_h8 10 = zK37 := ⟨rfl, rfl, rfl, rfl, rfl, rfl, rfl, rfl, rfl, rfl, rfl⟩
theorem k3i3_y8 : nextJ (k3 3) (k3 3) k3i3_h8 [(13, 27), (11, 11), (5, 5), (3, 3), (9, 9), (7, 29), (1, 1)] (roundC Try.prog [] [] [(64, .lib (.clone)), (35, .lib (.keys 58 9))] 3000 40 5 [4, 1, 0, 1, 1, 1, 1, 1, 1, 1, 1] (tellA k3i3_t8) (k3 3)) = some k3i3_d8 := by kernel_rfl
def k3o3_t0 : List (Q × Bool) := [asK30, asK333]
def k3o3_d0 : List Duty := [(true, (.var 3), txK322), (true, (.var 3), txK322), (true, (.var 5), txK320), (true, (.var 5), txK320), (true, (.var 5), txK320), (true, (.var 5), txK320), (true, (.var 7), txK321), (true, (.var 7), txK321), (true, (.var 3), txK322), (false, (.var 4), (.fn 44 zK32)), (true, (.var 5), txK320), zK348, (true, (.var 5), txK320), zK348, (true, (.var 7), txK321), (false, (.var 8), (.fn 46 zK32))]
theorem k3o3_y0 : endD (k3 4) [(13, 13), (11, 11), (9, 9), (7, 7), (1, 1), (3, 3), (5, 5)] 1000 (roundC Try.prog [] [] [(64, .lib (.clone)), (35, .lib (.keys 58 9))] 3000 40 5 [4, 1, 0, 1, 1, 1, 1, 1, 1, 1, 1] (tellA k3o3_t0) (k3 4)) = some k3o3_d0 := by kernel_rfl
def k3o3_t1 : List (Q × Bool) := [asK30, asK31, asK32, asK33, asK310, asK335, asK37]
def k3o3_d1 : List Duty := [(true, txK334, txK322), (true, txK334, txK322), (true, txK335, txK320), (true, txK335, txK320), (true, txK335, txK320), (true, txK335, txK320), (true, txK336, txK321), (true, txK336, txK321), (true, txK334, txK322), zK337, (true, txK335, txK320), zK319, (true, txK335, txK320), zK319, (true, txK336, txK321), zK338]
def k3o3_h1 : List (Nat × E) := [(8, (.var 8)), (6, (.var 6)), (4, (.var 4)), (7, (.var 7)), (9, (.var 9)), (10, (.var 10)), (1, zK31), (5, (.var 5)), (3, (.var 3)), (2, (.var 2)), (0, (.var 0))]
theorem k3o3_h1_a : lookE k3o3_h1 0 = (.var 0) ∧ lookE k3o3_h1 1 = zK31 ∧ lookE k3o3_h1 2 = (.var 2) ∧ lookE k3o3_h1 3 = (.var 3) ∧ lookE k3o3_h1 4 = (.var 4) ∧ lookE k3o3_h1 5 = (.var 5) ∧ lookE k3o3_h1 6 = (.var 6) ∧ lookE k3o3_h1 7 = (.var 7) ∧ lookE k3o3_h1 8 = (.var 8) ∧ lookE k3o3_h1 9 = (.var 9) ∧ lookE k3o3_h1 10 = (.var 10) := ⟨rfl, rfl, rfl, rfl, rfl, rfl, rfl, rfl, rfl, rfl, rfl⟩
theorem k3o3_y1 : nextJ (k3 4) (k3 4) k3o3_h1 [(13, 13), (11, 11), (5, 5), (3, 3), (9, 9), (7, 7), (1, 1)] (roundC Try.prog [] [] [(64, .lib (.clone)), (35, .lib (.keys 58 9))] 3000 40 5 [4, 1, 0, 1, 1, 1, 1, 1, 1, 1, 1] (tellA k3o3_t1) (k3 4)) = some k3o3_d1 := by kernel_rfl
def k3o3_t2 : List (Q × Bool) := [asK30, asK31, asK32, asK312, asK310, asK335, asK37]
def k3o3_d2 : List Duty := [(true, txK334, txK322), (true, txK334, txK322), (true, txK335, txK320), (true, txK335, txK320), (true, txK335, txK320), (true, txK335, txK320), (true, txK336, txK321), (true, txK336, txK321), (true, txK334, txK322), zK337, (true, txK335, txK320), zK319, (true, txK335, txK320), zK319, (true, txK336, txK321), zK338]
def k3o3_h2 : List (Nat × E) := [(8, (.var 8)), (6, (.var 6)), (4, (.var 4)), (7, (.var 7)), (9, (.var 9)), (10, (.var 10)), (1, zK31), (5, (.var 5)), (3, (.var 3)), (2, (.var 2)), (0, (.var 0))]
theorem k3o3_h2_a : lookE k3o3_h2 0 = (.var 0) ∧ lookE k3o3_h2 1 = zK31 ∧ lookE k3o3_h2 2 = (.var 2) ∧ lookE k3o3_h2 3 = (.var 3) ∧ lookE k3o3_h2 4 = (.var 4) ∧ lookE k3o3_h2 5 = (.var 5) ∧ lookE k3o3_h2 6 = (.var 6) ∧ lookE k3o3_h2 7 = (.var 7) ∧ lookE k3o3_h2 8 = (.var 8) ∧ lookE k3o3_h2 9 = (.var 9) ∧ lookE k3o3_h2 10 = (.var 10) := ⟨rfl, rfl, rfl, rfl, rfl, rfl, rfl, rfl, rfl, rfl, rfl⟩
theorem k3o3_y2 : nextJ (k3 4) (k3 4) k3o3_h2 [(13, 13), (11, 11), (5, 5), (3, 3), (9, 9), (7, 7), (1, 1)] (roundC Try.prog [] [] [(64, .lib (.clone)), (35, .lib (.keys 58 9))] 3000 40 5 [4, 1, 0, 1, 1, 1, 1, 1, 1, 1, 1] (tellA k3o3_t2) (k3 4)) = some k3o3_d2 := by kernel_rfl
set_option maxHeartbeats 16000000 in
theorem k3_holds : ∀ i, i < 5 → LHolds Try.prog (loopAt Try.prog 5 [4, 1, 0, 1, 1, 1, 1, 1, 1, 1, 1]) (k3 i) F := by
 refine loop_famC sound (tableNil _ _) (specsNil _ _) (oversLib cloneL_holds (oversLib keysL0_holds (oversNil _ _))) (fuel := 3000) (depth := 40) (by kernel_rfl) (fun i d => match i with | 0 => ((d 0).toList.length - (d 1).toInt).toNat | 1 => ((d 0).toList.length - (d 1).toInt).toNat | 2 => ((d 0).toList.length - (d 1).toInt).toNat | 3 => ((d 0).toList.length - (d 1).toInt).toNat | _ => ((d 0).toList.length - (d 1).toInt).toNat) ?_
 intro i hi d hp hR hA
 match i, hi with
 | 0, _ =>
   have hp := allTold'_iff.2 hp
   simp only [k3, k3i0, tl] at hp hR hA
   simp only [gk, tl] at hp
   obtain ⟨p1, p2, p3, p4, i1, i2, e1, e2⟩ := hp
   have g0 : (d 0).ints.length = (d 0).toList.length := (len_ints _).symm
   by_cases h : ((d 0).toList.length : Int) ≤ (d 1).toInt
   ·have he := goK_end (f := (d 2).toInt) h ([], [])
    simp only [he] at e1 e2
    (exfalso; (try simp only [D.ints_ofInts, List.length_nil, List.length_append] at *); omega)
   ·have hl := lenP_step (l := (d 0).toList) (i := (d 1).toInt.toNat) (by omega) (by omega)
    have hn := lenP_nn (((d 0).toList.take 61).drop ((d 1).toInt.toNat + 1))
    have hi : ((d 1).toInt + 1).toNat = (d 1).toInt.toNat + 1 := by omega
    have hst := goK_step (f := (d 2).toInt) (l := (d 0).toList) (i := (d 1).toInt) p1 (by omega)
    simp only [hi] at hst
    generalize hX : (d 0).toList[(d 1).toInt.toNat]?.getD (D.int 0) = X at *
    generalize hB : bytP X = B at *
    generalize hN : X.ints[1]?.getD 0 = N at *
    unfold bytP at hB
    have g1 : B.ints.length = B.toList.length := (len_ints _).symm
    have hsy : synP X = decide (N ≠ 0) := by unfold synP; rw [hN]
    by_cases ho : (d 2).toInt = (d 1).toInt
    ·have hq := goK_out (f := (d 2).toInt) (i := (d 1).toInt) (by omega) (by omega) ((d 0).toList.drop (d 1).toInt.toNat) ([], [])
     simp only [hq] at e1 e2
     (exfalso; (try simp only [D.ints_ofInts, List.length_nil, List.length_append] at *); omega)
    ·by_cases hu : (d 2).toInt < 0
     ·have hs := hst (.inl hu) ([], [])
      rw [hsy] at hs
      by_cases hz : N = 0
      ·by_cases hb : B.toList.length = 0
       ·have hb0 : B.ints = [] := List.eq_nil_of_length_eq_zero (by omega)
        simp only [hz, hb0, ne_eq, not_true_eq_false, decide_false, Bool.false_eq_true, if_false, List.nil_append, List.append_nil] at hs
        simp only [hs] at e1 e2
        refine ⟨tellA k3i0_t2, tellA_ok (allTold'_iff.1 ?_), .inr ⟨0, k3i0_h2, _, _, by decide, k3i0_y2, dutiesTold_ok ?_, allTold'_iff.1 ?_, ?_⟩⟩
        all_goals (try simp only [k3i0_t2, k3i0_d2, k3, k3i0, k3i1, k3i2, k3i3, k3o3, k3i0_h2_a, gk, hX, hN, hB, hi, hs, hb0, tl])
        all_goals (first | exact True.intro | omega | (and_intros <;> first | exact True.intro | omega | (rfl; done) | assumption | (rw [ap3, List.append_assoc]; done) | (rw [ap3, hb0, List.append_nil]; done) | (simp only [List.length_append] at *; omega)))
       ·simp only [hz, ne_eq, not_true_eq_false, decide_false, Bool.false_eq_true, if_false, List.nil_append, List.append_nil] at hs
        simp only [hs] at e1 e2
        refine ⟨tellA k3i0_t4, tellA_ok (allTold'_iff.1 ?_), .inr ⟨1, k3i0_h4, _, _, by decide, k3i0_y4, dutiesTold_ok ?_, allTold'_iff.1 ?_, ?_⟩⟩
        all_goals (try simp only [k3i0_t4, k3i0_d4, k3, k3i0, k3i1, k3i2, k3i3, k3o3, k3i0_h4_a, gk, hX, hN, hB, hi, hs, tl])
        all_goals (first | exact True.intro | omega | (and_intros <;> first | exact True.intro | omega | (rfl; done) | assumption | (rw [ap3, List.append_assoc]; done) | (rw [ap3, hb0, List.append_nil]; done) | (simp only [List.length_append] at *; omega)))
      ·simp only [ne_eq, hz, not_false_eq_true, decide_true, if_true, List.nil_append, List.append_nil] at hs
       simp only [hs] at e1 e2
       refine ⟨tellA k3i0_t0, tellA_ok (allTold'_iff.1 ?_), .inr ⟨0, k3i0_h0, _, _, by decide, k3i0_y0, dutiesTold_ok ?_, allTold'_iff.1 ?_, ?_⟩⟩
       all_goals (try simp only [k3i0_t0, k3i0_d0, k3, k3i0, k3i1, k3i2, k3i3, k3o3, k3i0_h0_a, gk, hX, hN, hB, hi, hs, tl])
       all_goals (first | exact True.intro | omega | (and_intros <;> first | exact True.intro | omega | (rfl; done) | assumption | (rw [ap3, List.append_assoc]; done) | (rw [ap3, hb0, List.append_nil]; done) | (simp only [List.length_append] at *; omega)))
     ·have hf : (d 1).toInt < (d 2).toInt := by omega
      have hs := hst (.inr hf) ([], [])
      rw [hsy] at hs
      by_cases hz : N = 0
      ·by_cases hb : B.toList.length = 0
       ·have hb0 : B.ints = [] := List.eq_nil_of_length_eq_zero (by omega)
        simp only [hz, hb0, ne_eq, not_true_eq_false, decide_false, Bool.false_eq_true, if_false, List.nil_append, List.append_nil] at hs
        simp only [hs] at e1 e2
        refine ⟨tellA k3i0_t3, tellA_ok (allTold'_iff.1 ?_), .inr ⟨0, k3i0_h3, _, _, by decide, k3i0_y3, dutiesTold_ok ?_, allTold'_iff.1 ?_, ?_⟩⟩
        all_goals (try simp only [k3i0_t3, k3i0_d3, k3, k3i0, k3i1, k3i2, k3i3, k3o3, k3i0_h3_a, gk, hX, hN, hB, hi, hs, hb0, tl])
        all_goals (first | exact True.intro | omega | (and_intros <;> first | exact True.intro | omega | (rfl; done) | assumption | (rw [ap3, List.append_assoc]; done) | (rw [ap3, hb0, List.append_nil]; done) | (simp only [List.length_append] at *; omega)))
       ·simp only [hz, ne_eq, not_true_eq_false, decide_false, Bool.false_eq_true, if_false, List.nil_append, List.append_nil] at hs
        simp only [hs] at e1 e2
        refine ⟨tellA k3i0_t5, tellA_ok (allTold'_iff.1 ?_), .inr ⟨1, k3i0_h5, _, _, by decide, k3i0_y5, dutiesTold_ok ?_, allTold'_iff.1 ?_, ?_⟩⟩
        all_goals (try simp only [k3i0_t5, k3i0_d5, k3, k3i0, k3i1, k3i2, k3i3, k3o3, k3i0_h5_a, gk, hX, hN, hB, hi, hs, tl])
        all_goals (first | exact True.intro | omega | (and_intros <;> first | exact True.intro | omega | (rfl; done) | assumption | (rw [ap3, List.append_assoc]; done) | (rw [ap3, hb0, List.append_nil]; done) | (simp only [List.length_append] at *; omega)))
      ·simp only [ne_eq, hz, not_false_eq_true, decide_true, if_true, List.nil_append, List.append_nil] at hs
       simp only [hs] at e1 e2
       refine ⟨tellA k3i0_t1, tellA_ok (allTold'_iff.1 ?_), .inr ⟨0, k3i0_h1, _, _, by decide, k3i0_y1, dutiesTold_ok ?_, allTold'_iff.1 ?_, ?_⟩⟩
       all_goals (try simp only [k3i0_t1, k3i0_d1, k3, k3i0, k3i1, k3i2, k3i3, k3o3, k3i0_h1_a, gk, hX, hN, hB, hi, hs, tl])
       all_goals (first | exact True.intro | omega | (and_intros <;> first | exact True.intro | omega | (rfl; done) | assumption | (rw [ap3, List.append_assoc]; done) | (rw [ap3, hb0, List.append_nil]; done) | (simp only [List.length_append] at *; omega)))
 | 1, _ =>
   have hp := allTold'_iff.2 hp
   simp only [k3, k3i1, tl] at hp hR hA
   simp only [gk, tl] at hp
   obtain ⟨p1, p2, p3, p4, i1, i2, u1, u2, a1, a2, e1, e2⟩ := hp
   have g0 : (d 0).ints.length = (d 0).toList.length := (len_ints _).symm
   have g8 : (d 8).ints.length = (d 8).toList.length := (len_ints _).symm
   by_cases h : ((d 0).toList.length : Int) ≤ (d 1).toInt
   ·have he := goK_end (f := (d 2).toInt) h ([], (d 8).ints)
    simp only [he] at e1 e2
    (exfalso; (try simp only [D.ints_ofInts, List.length_nil, List.length_append] at *); omega)
   ·have hl := lenP_step (l := (d 0).toList) (i := (d 1).toInt.toNat) (by omega) (by omega)
    have hn := lenP_nn (((d 0).toList.take 61).drop ((d 1).toInt.toNat + 1))
    have hi : ((d 1).toInt + 1).toNat = (d 1).toInt.toNat + 1 := by omega
    have hst := goK_step (f := (d 2).toInt) (l := (d 0).toList) (i := (d 1).toInt) p1 (by omega)
    simp only [hi] at hst
    generalize hX : (d 0).toList[(d 1).toInt.toNat]?.getD (D.int 0) = X at *
    generalize hB : bytP X = B at *
    generalize hN : X.ints[1]?.getD 0 = N at *
    unfold bytP at hB
    have g1 : B.ints.length = B.toList.length := (len_ints _).symm
    have hsy : synP X = decide (N ≠ 0) := by unfold synP; rw [hN]
    by_cases ho : (d 2).toInt = (d 1).toInt
    ·have hq := goK_out (f := (d 2).toInt) (i := (d 1).toInt) (by omega) (by omega) ((d 0).toList.drop (d 1).toInt.toNat) ([], (d 8).ints)
     simp only [hq] at e1 e2
     (exfalso; (try simp only [D.ints_ofInts, List.length_nil, List.length_append] at *); omega)
    ·by_cases hu : (d 2).toInt < 0
     ·have hs := hst (.inl hu) ([], (d 8).ints)
      rw [hsy] at hs
      by_cases hz : N = 0
      ·by_cases hb : B.toList.length = 0
       ·have hb0 : B.ints = [] := List.eq_nil_of_length_eq_zero (by omega)
        simp only [hz, hb0, ne_eq, not_true_eq_false, decide_false, Bool.false_eq_true, if_false, List.nil_append, List.append_nil] at hs
        simp only [hs] at e1 e2
        refine ⟨tellA k3i1_t2, tellA_ok (allTold'_iff.1 ?_), .inr ⟨1, k3i1_h2, _, _, by decide, k3i1_y2, dutiesTold_ok ?_, allTold'_iff.1 ?_, ?_⟩⟩
        all_goals (try simp only [k3i1_t2, k3i1_d2, k3, k3i0, k3i1, k3i2, k3i3, k3o3, k3i1_h2_a, gk, hX, hN, hB, hi, hs, hb0, a2, tl])
        all_goals (first | exact True.intro | omega | (and_intros <;> first | exact True.intro | omega | (rfl; done) | assumption | (rw [ap3, List.append_assoc]; done) | (rw [ap3, hb0, List.append_nil]; done) | (simp only [List.length_append] at *; omega)))
       ·simp only [hz, ne_eq, not_true_eq_false, decide_false, Bool.false_eq_true, if_false, List.nil_append, List.append_nil] at hs
        simp only [hs] at e1 e2
        refine ⟨tellA k3i1_t4, tellA_ok (allTold'_iff.1 ?_), .inr ⟨1, k3i1_h4, _, _, by decide, k3i1_y4, dutiesTold_ok ?_, allTold'_iff.1 ?_, ?_⟩⟩
        all_goals (try simp only [k3i1_t4, k3i1_d4, k3, k3i0, k3i1, k3i2, k3i3, k3o3, k3i1_h4_a, gk, hX, hN, hB, hi, hs, a2, tl])
        all_goals (first | exact True.intro | omega | (and_intros <;> first | exact True.intro | omega | (rfl; done) | assumption | (rw [ap3, List.append_assoc]; done) | (rw [ap3, hb0, List.append_nil]; done) | (simp only [List.length_append] at *; omega)))
      ·simp only [ne_eq, hz, not_false_eq_true, decide_true, if_true, List.nil_append, List.append_nil] at hs
       simp only [hs] at e1 e2
       refine ⟨tellA k3i1_t0, tellA_ok (allTold'_iff.1 ?_), .inr ⟨2, k3i1_h0, _, _, by decide, k3i1_y0, dutiesTold_ok ?_, allTold'_iff.1 ?_, ?_⟩⟩
       all_goals (try simp only [k3i1_t0, k3i1_d0, k3, k3i0, k3i1, k3i2, k3i3, k3o3, k3i1_h0_a, gk, hX, hN, hB, hi, hs, a2, tl])
       all_goals (first | exact True.intro | omega | (and_intros <;> first | exact True.intro | omega | (rfl; done) | assumption | (rw [ap3, List.append_assoc]; done) | (rw [ap3, hb0, List.append_nil]; done) | (simp only [List.length_append] at *; omega)))
     ·have hf : (d 1).toInt < (d 2).toInt := by omega
      have hs := hst (.inr hf) ([], (d 8).ints)
      rw [hsy] at hs
      by_cases hz : N = 0
      ·by_cases hb : B.toList.length = 0
       ·have hb0 : B.ints = [] := List.eq_nil_of_length_eq_zero (by omega)
        simp only [hz, hb0, ne_eq, not_true_eq_false, decide_false, Bool.false_eq_true, if_false, List.nil_append, List.append_nil] at hs
        simp only [hs] at e1 e2
        refine ⟨tellA k3i1_t3, tellA_ok (allTold'_iff.1 ?_), .inr ⟨1, k3i1_h3, _, _, by decide, k3i1_y3, dutiesTold_ok ?_, allTold'_iff.1 ?_, ?_⟩⟩
        all_goals (try simp only [k3i1_t3, k3i1_d3, k3, k3i0, k3i1, k3i2, k3i3, k3o3, k3i1_h3_a, gk, hX, hN, hB, hi, hs, hb0, a2, tl])
        all_goals (first | exact True.intro | omega | (and_intros <;> first | exact True.intro | omega | (rfl; done) | assumption | (rw [ap3, List.append_assoc]; done) | (rw [ap3, hb0, List.append_nil]; done) | (simp only [List.length_append] at *; omega)))
       ·simp only [hz, ne_eq, not_true_eq_false, decide_false, Bool.false_eq_true, if_false, List.nil_append, List.append_nil] at hs
        simp only [hs] at e1 e2
        refine ⟨tellA k3i1_t5, tellA_ok (allTold'_iff.1 ?_), .inr ⟨1, k3i1_h5, _, _, by decide, k3i1_y5, dutiesTold_ok ?_, allTold'_iff.1 ?_, ?_⟩⟩
        all_goals (try simp only [k3i1_t5, k3i1_d5, k3, k3i0, k3i1, k3i2, k3i3, k3o3, k3i1_h5_a, gk, hX, hN, hB, hi, hs, a2, tl])
        all_goals (first | exact True.intro | omega | (and_intros <;> first | exact True.intro | omega | (rfl; done) | assumption | (rw [ap3, List.append_assoc]; done) | (rw [ap3, hb0, List.append_nil]; done) | (simp only [List.length_append] at *; omega)))
      ·simp only [ne_eq, hz, not_false_eq_true, decide_true, if_true, List.nil_append, List.append_nil] at hs
       simp only [hs] at e1 e2
       refine ⟨tellA k3i1_t1, tellA_ok (allTold'_iff.1 ?_), .inr ⟨2, k3i1_h1, _, _, by decide, k3i1_y1, dutiesTold_ok ?_, allTold'_iff.1 ?_, ?_⟩⟩
       all_goals (try simp only [k3i1_t1, k3i1_d1, k3, k3i0, k3i1, k3i2, k3i3, k3o3, k3i1_h1_a, gk, hX, hN, hB, hi, hs, a2, tl])
       all_goals (first | exact True.intro | omega | (and_intros <;> first | exact True.intro | omega | (rfl; done) | assumption | (rw [ap3, List.append_assoc]; done) | (rw [ap3, hb0, List.append_nil]; done) | (simp only [List.length_append] at *; omega)))
 | 2, _ =>
   have hp := allTold'_iff.2 hp
   simp only [k3, k3i2, tl] at hp hR hA
   simp only [gk, tl] at hp
   obtain ⟨p1, p2, p3, p4, i1, i2, s1, s2, a1, a2, e1, e2⟩ := hp
   have g0 : (d 0).ints.length = (d 0).toList.length := (len_ints _).symm
   have g6 : (d 6).ints.length = (d 6).toList.length := (len_ints _).symm
   by_cases h : ((d 0).toList.length : Int) ≤ (d 1).toInt
   ·have he := goK_end (f := (d 2).toInt) h ((d 6).ints, [])
    simp only [he] at e1 e2
    (exfalso; (try simp only [D.ints_ofInts, List.length_nil, List.length_append] at *); omega)
   ·have hl := lenP_step (l := (d 0).toList) (i := (d 1).toInt.toNat) (by omega) (by omega)
    have hn := lenP_nn (((d 0).toList.take 61).drop ((d 1).toInt.toNat + 1))
    have hi : ((d 1).toInt + 1).toNat = (d 1).toInt.toNat + 1 := by omega
    have hst := goK_step (f := (d 2).toInt) (l := (d 0).toList) (i := (d 1).toInt) p1 (by omega)
    simp only [hi] at hst
    generalize hX : (d 0).toList[(d 1).toInt.toNat]?.getD (D.int 0) = X at *
    generalize hB : bytP X = B at *
    generalize hN : X.ints[1]?.getD 0 = N at *
    unfold bytP at hB
    have g1 : B.ints.length = B.toList.length := (len_ints _).symm
    have hsy : synP X = decide (N ≠ 0) := by unfold synP; rw [hN]
    by_cases ho : (d 2).toInt = (d 1).toInt
    ·have hq := goK_out (f := (d 2).toInt) (i := (d 1).toInt) (by omega) (by omega) ((d 0).toList.drop (d 1).toInt.toNat) ((d 6).ints, [])
     simp only [hq] at e1 e2
     (exfalso; (try simp only [D.ints_ofInts, List.length_nil, List.length_append] at *); omega)
    ·by_cases hu : (d 2).toInt < 0
     ·have hs := hst (.inl hu) ((d 6).ints, [])
      rw [hsy] at hs
      by_cases hz : N = 0
      ·by_cases hb : B.toList.length = 0
       ·have hb0 : B.ints = [] := List.eq_nil_of_length_eq_zero (by omega)
        simp only [hz, hb0, ne_eq, not_true_eq_false, decide_false, Bool.false_eq_true, if_false, List.nil_append, List.append_nil] at hs
        simp only [hs] at e1 e2
        refine ⟨tellA k3i2_t2, tellA_ok (allTold'_iff.1 ?_), .inr ⟨2, k3i2_h2, _, _, by decide, k3i2_y2, dutiesTold_ok ?_, allTold'_iff.1 ?_, ?_⟩⟩
        all_goals (try simp only [k3i2_t2, k3i2_d2, k3, k3i0, k3i1, k3i2, k3i3, k3o3, k3i2_h2_a, gk, hX, hN, hB, hi, hs, hb0, a2, tl])
        all_goals (first | exact True.intro | omega | (and_intros <;> first | exact True.intro | omega | (rfl; done) | assumption | (rw [ap3, List.append_assoc]; done) | (rw [ap3, hb0, List.append_nil]; done) | (simp only [List.length_append] at *; omega)))
       ·simp only [hz, ne_eq, not_true_eq_false, decide_false, Bool.false_eq_true, if_false, List.nil_append, List.append_nil] at hs
        simp only [hs] at e1 e2
        refine ⟨tellA k3i2_t4, tellA_ok (allTold'_iff.1 ?_), .inr ⟨3, k3i2_h4, _, _, by decide, k3i2_y4, dutiesTold_ok ?_, allTold'_iff.1 ?_, ?_⟩⟩
        all_goals (try simp only [k3i2_t4, k3i2_d4, k3, k3i0, k3i1, k3i2, k3i3, k3o3, k3i2_h4_a, gk, hX, hN, hB, hi, hs, a2, tl])
        all_goals (first | exact True.intro | omega | (and_intros <;> first | exact True.intro | omega | (rfl; done) | assumption | (rw [ap3, List.append_assoc]; done) | (rw [ap3, hb0, List.append_nil]; done) | (simp only [List.length_append] at *; omega)))
      ·simp only [ne_eq, hz, not_false_eq_true, decide_true, if_true, List.nil_append, List.append_nil] at hs
       simp only [hs] at e1 e2
       refine ⟨tellA k3i2_t0, tellA_ok (allTold'_iff.1 ?_), .inr ⟨2, k3i2_h0, _, _, by decide, k3i2_y0, dutiesTold_ok ?_, allTold'_iff.1 ?_, ?_⟩⟩
       all_goals (try simp only [k3i2_t0, k3i2_d0, k3, k3i0, k3i1, k3i2, k3i3, k3o3, k3i2_h0_a, gk, hX, hN, hB, hi, hs, a2, tl])
       all_goals (first | exact True.intro | omega | (and_intros <;> first | exact True.intro | omega | (rfl; done) | assumption | (rw [ap3, List.append_assoc]; done) | (rw [ap3, hb0, List.append_nil]; done) | (simp only [List.length_append] at *; omega)))
     ·have hf : (d 1).toInt < (d 2).toInt := by omega
      have hs := hst (.inr hf) ((d 6).ints, [])
      rw [hsy] at hs
      by_cases hz : N = 0
      ·by_cases hb : B.toList.length = 0
       ·have hb0 : B.ints = [] := List.eq_nil_of_length_eq_zero (by omega)
        simp only [hz, hb0, ne_eq, not_true_eq_false, decide_false, Bool.false_eq_true, if_false, List.nil_append, List.append_nil] at hs
        simp only [hs] at e1 e2
        refine ⟨tellA k3i2_t3, tellA_ok (allTold'_iff.1 ?_), .inr ⟨2, k3i2_h3, _, _, by decide, k3i2_y3, dutiesTold_ok ?_, allTold'_iff.1 ?_, ?_⟩⟩
        all_goals (try simp only [k3i2_t3, k3i2_d3, k3, k3i0, k3i1, k3i2, k3i3, k3o3, k3i2_h3_a, gk, hX, hN, hB, hi, hs, hb0, a2, tl])
        all_goals (first | exact True.intro | omega | (and_intros <;> first | exact True.intro | omega | (rfl; done) | assumption | (rw [ap3, List.append_assoc]; done) | (rw [ap3, hb0, List.append_nil]; done) | (simp only [List.length_append] at *; omega)))
       ·simp only [hz, ne_eq, not_true_eq_false, decide_false, Bool.false_eq_true, if_false, List.nil_append, List.append_nil] at hs
        simp only [hs] at e1 e2
        refine ⟨tellA k3i2_t5, tellA_ok (allTold'_iff.1 ?_), .inr ⟨3, k3i2_h5, _, _, by decide, k3i2_y5, dutiesTold_ok ?_, allTold'_iff.1 ?_, ?_⟩⟩
        all_goals (try simp only [k3i2_t5, k3i2_d5, k3, k3i0, k3i1, k3i2, k3i3, k3o3, k3i2_h5_a, gk, hX, hN, hB, hi, hs, a2, tl])
        all_goals (first | exact True.intro | omega | (and_intros <;> first | exact True.intro | omega | (rfl; done) | assumption | (rw [ap3, List.append_assoc]; done) | (rw [ap3, hb0, List.append_nil]; done) | (simp only [List.length_append] at *; omega)))
      ·simp only [ne_eq, hz, not_false_eq_true, decide_true, if_true, List.nil_append, List.append_nil] at hs
       simp only [hs] at e1 e2
       refine ⟨tellA k3i2_t1, tellA_ok (allTold'_iff.1 ?_), .inr ⟨2, k3i2_h1, _, _, by decide, k3i2_y1, dutiesTold_ok ?_, allTold'_iff.1 ?_, ?_⟩⟩
       all_goals (try simp only [k3i2_t1, k3i2_d1, k3, k3i0, k3i1, k3i2, k3i3, k3o3, k3i2_h1_a, gk, hX, hN, hB, hi, hs, a2, tl])
       all_goals (first | exact True.intro | omega | (and_intros <;> first | exact True.intro | omega | (rfl; done) | assumption | (rw [ap3, List.append_assoc]; done) | (rw [ap3, hb0, List.append_nil]; done) | (simp only [List.length_append] at *; omega)))
 | 3, _ =>
   have hp := allTold'_iff.2 hp
   simp only [k3, k3i3, tl] at hp hR hA
   simp only [gk, tl] at hp
   obtain ⟨p1, p2, p3, p4, i1, i2, s1, s2, u1, u2, a1, a2, e1, e2⟩ := hp
   have g0 : (d 0).ints.length = (d 0).toList.length := (len_ints _).symm
   have g6 : (d 6).ints.length = (d 6).toList.length := (len_ints _).symm
   have g8 : (d 8).ints.length = (d 8).toList.length := (len_ints _).symm
   by_cases h : ((d 0).toList.length : Int) ≤ (d 1).toInt
   ·have he := goK_end (f := (d 2).toInt) h ((d 6).ints, (d 8).ints)
    simp only [he] at e1 e2
    refine ⟨tellA k3i3_t0, tellA_ok (allTold'_iff.1 ?_), .inl ⟨_, _, _, k3i3_y0, dutiesTold_ok ?_⟩⟩
    all_goals (try simp only [k3i3_t0, k3i3_d0, gk, he, a2, tl])
    all_goals (first | exact True.intro | omega | (and_intros <;> first | exact True.intro | omega | (rfl; done) | assumption | (rw [ap3, List.append_assoc]; done) | (rw [ap3, hb0, List.append_nil]; done) | (simp only [List.length_append] at *; omega)))
   ·have hl := lenP_step (l := (d 0).toList) (i := (d 1).toInt.toNat) (by omega) (by omega)
    have hn := lenP_nn (((d 0).toList.take 61).drop ((d 1).toInt.toNat + 1))
    have hi : ((d 1).toInt + 1).toNat = (d 1).toInt.toNat + 1 := by omega
    have hst := goK_step (f := (d 2).toInt) (l := (d 0).toList) (i := (d 1).toInt) p1 (by omega)
    simp only [hi] at hst
    generalize hX : (d 0).toList[(d 1).toInt.toNat]?.getD (D.int 0) = X at *
    generalize hB : bytP X = B at *
    generalize hN : X.ints[1]?.getD 0 = N at *
    unfold bytP at hB
    have g1 : B.ints.length = B.toList.length := (len_ints _).symm
    have hsy : synP X = decide (N ≠ 0) := by unfold synP; rw [hN]
    by_cases ho : (d 2).toInt = (d 1).toInt
    ·have hq := goK_out (f := (d 2).toInt) (i := (d 1).toInt) (by omega) (by omega) ((d 0).toList.drop (d 1).toInt.toNat) ((d 6).ints, (d 8).ints)
     simp only [hq] at e1 e2
     have hq2 := goK_out (f := (d 2).toInt) (i := (d 1).toInt + 1) (by omega) (by omega) ((d 0).toList.drop ((d 1).toInt + 1).toNat) ((d 6).ints, (d 8).ints)
     rw [hi] at hq2
     by_cases hs : N = 0
     ·refine ⟨tellA k3i3_t2, tellA_ok (allTold'_iff.1 ?_), .inr ⟨4, k3i3_h2, _, _, by decide, k3i3_y2, dutiesTold_ok ?_, allTold'_iff.1 ?_, ?_⟩⟩
      all_goals (try simp only [k3i3_t2, k3i3_d2, k3, k3i0, k3i1, k3i2, k3i3, k3o3, k3i3_h2_a, gk, hX, hN, hB, hi, hq, hq2, a2, tl])
      all_goals (first | exact True.intro | omega | (and_intros <;> first | exact True.intro | omega | (rfl; done) | assumption | (rw [ap3, List.append_assoc]; done) | (rw [ap3, hb0, List.append_nil]; done) | (simp only [List.length_append] at *; omega)))
     ·refine ⟨tellA k3i3_t1, tellA_ok (allTold'_iff.1 ?_), .inr ⟨4, k3i3_h1, _, _, by decide, k3i3_y1, dutiesTold_ok ?_, allTold'_iff.1 ?_, ?_⟩⟩
      all_goals (try simp only [k3i3_t1, k3i3_d1, k3, k3i0, k3i1, k3i2, k3i3, k3o3, k3i3_h1_a, gk, hX, hN, hB, hi, hq, hq2, a2, tl])
      all_goals (first | exact True.intro | omega | (and_intros <;> first | exact True.intro | omega | (rfl; done) | assumption | (rw [ap3, List.append_assoc]; done) | (rw [ap3, hb0, List.append_nil]; done) | (simp only [List.length_append] at *; omega)))
    ·by_cases hu : (d 2).toInt < 0
     ·have hs := hst (.inl hu) ((d 6).ints, (d 8).ints)
      rw [hsy] at hs
      by_cases hz : N = 0
      ·by_cases hb : B.toList.length = 0
       ·have hb0 : B.ints = [] := List.eq_nil_of_length_eq_zero (by omega)
        simp only [hz, hb0, ne_eq, not_true_eq_false, decide_false, Bool.false_eq_true, if_false, List.nil_append, List.append_nil] at hs
        simp only [hs] at e1 e2
        refine ⟨tellA k3i3_t5, tellA_ok (allTold'_iff.1 ?_), .inr ⟨3, k3i3_h5, _, _, by decide, k3i3_y5, dutiesTold_ok ?_, allTold'_iff.1 ?_, ?_⟩⟩
        all_goals (try simp only [k3i3_t5, k3i3_d5, k3, k3i0, k3i1, k3i2, k3i3, k3o3, k3i3_h5_a, gk, hX, hN, hB, hi, hs, hb0, a2, tl])
        all_goals (first | exact True.intro | omega | (and_intros <;> first | exact True.intro | omega | (rfl; done) | assumption | (rw [ap3, List.append_assoc]; done) | (rw [ap3, hb0, List.append_nil]; done) | (simp only [List.length_append] at *; omega)))
       ·simp only [hz, ne_eq, not_true_eq_false, decide_false, Bool.false_eq_true, if_false, List.nil_append, List.append_nil] at hs
        simp only [hs] at e1 e2
        refine ⟨tellA k3i3_t7, tellA_ok (allTold'_iff.1 ?_), .inr ⟨3, k3i3_h7, _, _, by decide, k3i3_y7, dutiesTold_ok ?_, allTold'_iff.1 ?_, ?_⟩⟩
        all_goals (try simp only [k3i3_t7, k3i3_d7, k3, k3i0, k3i1, k3i2, k3i3, k3o3, k3i3_h7_a, gk, hX, hN, hB, hi, hs, a2, tl])
        all_goals (first | exact True.intro | omega | (and_intros <;> first | exact True.intro | omega | (rfl; done) | assumption | (rw [ap3, List.append_assoc]; done) | (rw [ap3, hb0, List.append_nil]; done) | (simp only [List.length_append] at *; omega)))
      ·simp only [ne_eq, hz, not_false_eq_true, decide_true, if_true, List.nil_append, List.append_nil] at hs
       simp only [hs] at e1 e2
       refine ⟨tellA k3i3_t3, tellA_ok (allTold'_iff.1 ?_), .inr ⟨2, k3i3_h3, _, _, by decide, k3i3_y3, dutiesTold_ok ?_, allTold'_iff.1 ?_, ?_⟩⟩
       all_goals (try simp only [k3i3_t3, k3i3_d3, k3, k3i0, k3i1, k3i2, k3i3, k3o3, k3i3_h3_a, gk, hX, hN, hB, hi, hs, a2, tl])
       all_goals (first | exact True.intro | omega | (and_intros <;> first | exact True.intro | omega | (rfl; done) | assumption | (rw [ap3, List.append_assoc]; done) | (rw [ap3, hb0, List.append_nil]; done) | (simp only [List.length_append] at *; omega)))
     ·have hf : (d 1).toInt < (d 2).toInt := by omega
      have hs := hst (.inr hf) ((d 6).ints, (d 8).ints)
      rw [hsy] at hs
      by_cases hz : N = 0
      ·by_cases hb : B.toList.length = 0
       ·have hb0 : B.ints = [] := List.eq_nil_of_length_eq_zero (by omega)
        simp only [hz, hb0, ne_eq, not_true_eq_false, decide_false, Bool.false_eq_true, if_false, List.nil_append, List.append_nil] at hs
        simp only [hs] at e1 e2
        refine ⟨tellA k3i3_t6, tellA_ok (allTold'_iff.1 ?_), .inr ⟨3, k3i3_h6, _, _, by decide, k3i3_y6, dutiesTold_ok ?_, allTold'_iff.1 ?_, ?_⟩⟩
        all_goals (try simp only [k3i3_t6, k3i3_d6, k3, k3i0, k3i1, k3i2, k3i3, k3o3, k3i3_h6_a, gk, hX, hN, hB, hi, hs, hb0, a2, tl])
        all_goals (first | exact True.intro | omega | (and_intros <;> first | exact True.intro | omega | (rfl; done) | assumption | (rw [ap3, List.append_assoc]; done) | (rw [ap3, hb0, List.append_nil]; done) | (simp only [List.length_append] at *; omega)))
       ·simp only [hz, ne_eq, not_true_eq_false, decide_false, Bool.false_eq_true, if_false, List.nil_append, List.append_nil] at hs
        simp only [hs] at e1 e2
        refine ⟨tellA k3i3_t8, tellA_ok (allTold'_iff.1 ?_), .inr ⟨3, k3i3_h8, _, _, by decide, k3i3_y8, dutiesTold_ok ?_, allTold'_iff.1 ?_, ?_⟩⟩
        all_goals (try simp only [k3i3_t8, k3i3_d8, k3, k3i0, k3i1, k3i2, k3i3, k3o3, k3i3_h8_a, gk, hX, hN, hB, hi, hs, a2, tl])
        all_goals (first | exact True.intro | omega | (and_intros <;> first | exact True.intro | omega | (rfl; done) | assumption | (rw [ap3, List.append_assoc]; done) | (rw [ap3, hb0, List.append_nil]; done) | (simp only [List.length_append] at *; omega)))
      ·simp only [ne_eq, hz, not_false_eq_true, decide_true, if_true, List.nil_append, List.append_nil] at hs
       simp only [hs] at e1 e2
       refine ⟨tellA k3i3_t4, tellA_ok (allTold'_iff.1 ?_), .inr ⟨2, k3i3_h4, _, _, by decide, k3i3_y4, dutiesTold_ok ?_, allTold'_iff.1 ?_, ?_⟩⟩
       all_goals (try simp only [k3i3_t4, k3i3_d4, k3, k3i0, k3i1, k3i2, k3i3, k3o3, k3i3_h4_a, gk, hX, hN, hB, hi, hs, a2, tl])
       all_goals (first | exact True.intro | omega | (and_intros <;> first | exact True.intro | omega | (rfl; done) | assumption | (rw [ap3, List.append_assoc]; done) | (rw [ap3, hb0, List.append_nil]; done) | (simp only [List.length_append] at *; omega)))
 | 4, _ =>
   have hp := allTold'_iff.2 hp
   simp only [k3, k3o3, tl] at hp hR hA
   simp only [gk, tl] at hp
   obtain ⟨p1, p2, p3, p4, o1, o2, o3, s1, s2, u1, u2, a1, a2, e1, e2⟩ := hp
   have g0 : (d 0).ints.length = (d 0).toList.length := (len_ints _).symm
   have g6 : (d 6).ints.length = (d 6).toList.length := (len_ints _).symm
   have g8 : (d 8).ints.length = (d 8).toList.length := (len_ints _).symm
   by_cases h : ((d 0).toList.length : Int) ≤ (d 1).toInt
   ·have he := goK_end (f := (d 2).toInt) h ((d 6).ints, (d 8).ints)
    simp only [he] at e1 e2
    refine ⟨tellA k3o3_t0, tellA_ok (allTold'_iff.1 ?_), .inl ⟨_, _, _, k3o3_y0, dutiesTold_ok ?_⟩⟩
    all_goals (try simp only [k3o3_t0, k3o3_d0, gk, he, a2, tl])
    all_goals (first | exact True.intro | omega | (and_intros <;> first | exact True.intro | omega | (rfl; done) | assumption | (rw [ap3, List.append_assoc]; done) | (rw [ap3, hb0, List.append_nil]; done) | (simp only [List.length_append] at *; omega)))
   ·have hl := lenP_step (l := (d 0).toList) (i := (d 1).toInt.toNat) (by omega) (by omega)
    have hn := lenP_nn (((d 0).toList.take 61).drop ((d 1).toInt.toNat + 1))
    have hi : ((d 1).toInt + 1).toNat = (d 1).toInt.toNat + 1 := by omega
    have hq := goK_out (i := (d 1).toInt) o1 (by omega) ((d 0).toList.drop (d 1).toInt.toNat) ((d 6).ints, (d 8).ints)
    have hq2 := goK_out (i := (d 1).toInt + 1) o1 (by omega) ((d 0).toList.drop ((d 1).toInt + 1).toNat) ((d 6).ints, (d 8).ints)
    rw [hi] at hq2
    simp only [hq] at e1 e2
    generalize hX : (d 0).toList[(d 1).toInt.toNat]?.getD (D.int 0) = X at *
    generalize hB : bytP X = B at *
    generalize hN : X.ints[1]?.getD 0 = N at *
    unfold bytP at hB
    have g1 : B.ints.length = B.toList.length := (len_ints _).symm
    have hsy : synP X = decide (N ≠ 0) := by unfold synP; rw [hN]
    by_cases hs : N = 0
    ·refine ⟨tellA k3o3_t2, tellA_ok (allTold'_iff.1 ?_), .inr ⟨4, k3o3_h2, _, _, by decide, k3o3_y2, dutiesTold_ok ?_, allTold'_iff.1 ?_, ?_⟩⟩
     all_goals (try simp only [k3o3_t2, k3o3_d2, k3, k3i0, k3i1, k3i2, k3i3, k3o3, k3o3_h2_a, gk, hX, hN, hB, hi, hq, hq2, a2, tl])
     all_goals (first | exact True.intro | omega | (and_intros <;> first | exact True.intro | omega | (rfl; done) | assumption | (rw [ap3, List.append_assoc]; done) | (rw [ap3, hb0, List.append_nil]; done) | (simp only [List.length_append] at *; omega)))
    ·refine ⟨tellA k3o3_t1, tellA_ok (allTold'_iff.1 ?_), .inr ⟨4, k3o3_h1, _, _, by decide, k3o3_y1, dutiesTold_ok ?_, allTold'_iff.1 ?_, ?_⟩⟩
     all_goals (try simp only [k3o3_t1, k3o3_d1, k3, k3i0, k3i1, k3i2, k3i3, k3o3, k3o3_h1_a, gk, hX, hN, hB, hi, hq, hq2, a2, tl])
     all_goals (first | exact True.intro | omega | (and_intros <;> first | exact True.intro | omega | (rfl; done) | assumption | (rw [ap3, List.append_assoc]; done) | (rw [ap3, hb0, List.append_nil]; done) | (simp only [List.length_append] at *; omega)))
theorem k3i0_holds : LHolds Try.prog (loopAt Try.prog 5 [4, 1, 0, 1, 1, 1, 1, 1, 1, 1, 1]) k3i0 F := k3_holds 0 (by decide)
theorem k3i1_holds : LHolds Try.prog (loopAt Try.prog 5 [4, 1, 0, 1, 1, 1, 1, 1, 1, 1, 1]) k3i1 F := k3_holds 1 (by decide)
theorem k3i2_holds : LHolds Try.prog (loopAt Try.prog 5 [4, 1, 0, 1, 1, 1, 1, 1, 1, 1, 1]) k3i2 F := k3_holds 2 (by decide)
theorem k3i3_holds : LHolds Try.prog (loopAt Try.prog 5 [4, 1, 0, 1, 1, 1, 1, 1, 1, 1, 1]) k3i3 F := k3_holds 3 (by decide)
theorem k3o3_holds : LHolds Try.prog (loopAt Try.prog 5 [4, 1, 0, 1, 1, 1, 1, 1, 1, 1, 1]) k3o3 F := k3_holds 4 (by decide)

end Go.Proofs.Ytmlocknojpmfpaa.K3
