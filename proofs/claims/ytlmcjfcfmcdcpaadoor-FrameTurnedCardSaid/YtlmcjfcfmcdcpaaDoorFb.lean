/-
  Contracts of this seat: what loops and calls leave, for all inputs. No condition.
-/
import Derived.Test.YtlmcjfcfmcdcpaaDoorSycp
import Derived.Test.YtlmcjfcfmcdcpaaDoorCo
import Derived.Test.YtlmcjfcfmcdcpaaDoorGa
import Derived.Test.YtlmcjfcfmcdcpaaDoorGm
import Derived.Test.YtlmcjfcfmcdcpaaDoorFl
set_option linter.unusedSimpArgs false
set_option linter.unusedVariables false
namespace Go.Proofs.YtlmcjfcfmcdcpaaDoor.Fb
open Go.RowKit Go.Ev Go.Proofs.YtlmcjfcfmcdcpaaDoor.Co

open Go.Proofs.YtlmcjfcfmcdcpaaDoor.Ga
open Go.Proofs.YtlmcjfcfmcdcpaaDoor.Gm
open Go.Proofs.YtlmcjfcfmcdcpaaDoor.Fl

def takenCO : CSpec := { args := [.sslice 3 (.var 1) (.var 2) (.var 3) true], next := 2, rows := [(3, .eseq ⟨.u8, .var 4, .var 5⟩)], pre := [(.le (.bi .add (.var 1) (.var 2)) (.var 4), true), (.le (.int 22) (.var 2), true), (.le (.var 2) (.int 1000000), true)], res := .agg [.sint .i64 (.fn 15 (argsE [.var 5, .var 1, .bi .add (.var 1) (.int 2)])), .sint .i64 (.fn 15 (argsE [.var 5, .bi .add (.var 1) (.int 2), .bi .add (.var 1) (.int 3)])), .sint .i64 (.fn 15 (argsE [.var 5, .bi .add (.var 1) (.int 20), .bi .add (.var 1) (.int 22)])), .sint .i64 (.fn 15 (argsE [.var 5, .bi .add (.var 1) (.int 3), .bi .add (.var 1) (.int 4)])), .sint .i64 (.fn 15 (argsE [.var 5, .bi .add (.var 1) (.int 4), .bi .add (.var 1) (.int 8)])), .sint .i64 (.fn 15 (argsE [.var 5, .bi .add (.var 1) (.int 8), .bi .add (.var 1) (.int 12)])), .sint .i64 (.fn 15 (argsE [.var 5, .bi .add (.var 1) (.int 12), .bi .add (.var 1) (.int 16)])), .sint .i64 (.fn 15 (argsE [.var 5, .bi .add (.var 1) (.int 16), .bi .add (.var 1) (.int 20)])), .sslice 3 (.bi .add (.var 1) (.int 22)) (.bi .add (.var 2) (.int (-22))) (.bi .add (.var 3) (.int (-22))) true], frows := [], same := [3] }
abbrev asFb0 : Q × Bool := ((.le (.int 2) (.var 3)), true)
abbrev asFb1 : Q × Bool := ((.le (.int 0) (.var 1)), true)
abbrev asFb2 : Q × Bool := ((.le (.var 4) (.var 1)), false)
abbrev asFb3 : Q × Bool := ((.le (.int 0) (.bi .add (.var 1) (.int 1))), true)
abbrev asFb4 : Q × Bool := ((.le (.var 4) (.bi .add (.var 1) (.int 1))), false)
abbrev asFb5 : Q × Bool := ((.le (.int 2) (.var 2)), true)
abbrev asFb6 : Q × Bool := ((.le (.var 2) (.var 3)), true)
abbrev asFb7 : Q × Bool := ((.le (.int 1) (.bi .add (.var 3) (.int (-2)))), true)
abbrev asFb8 : Q × Bool := ((.le (.int 0) (.bi .add (.var 1) (.int 2))), true)
abbrev asFb9 : Q × Bool := ((.le (.var 4) (.bi .add (.var 1) (.int 2))), false)
abbrev asFb10 : Q × Bool := ((.le (.int 1) (.bi .add (.var 2) (.int (-2)))), true)
abbrev asFb11 : Q × Bool := ((.le (.bi .add (.var 2) (.int (-2))) (.bi .add (.var 3) (.int (-2)))), true)
abbrev asFb12 : Q × Bool := ((.le (.int 1) (.bi .add (.var 3) (.int (-3)))), true)
abbrev asFb13 : Q × Bool := ((.le (.int 0) (.bi .add (.var 1) (.int 3))), true)
abbrev asFb14 : Q × Bool := ((.le (.var 4) (.bi .add (.var 1) (.int 3))), false)
abbrev asFb15 : Q × Bool := ((.le (.int 1) (.bi .add (.var 2) (.int (-3)))), true)
abbrev asFb16 : Q × Bool := ((.le (.bi .add (.var 2) (.int (-3))) (.bi .add (.var 3) (.int (-3)))), true)
abbrev asFb17 : Q × Bool := ((.le (.int 4) (.bi .add (.var 3) (.int (-4)))), true)
abbrev asFb18 : Q × Bool := ((.le (.int 0) (.bi .add (.var 1) (.int 4))), true)
abbrev asFb19 : Q × Bool := ((.le (.var 4) (.bi .add (.var 1) (.int 4))), false)
abbrev asFb20 : Q × Bool := ((.le (.int 0) (.bi .add (.var 1) (.int 5))), true)
abbrev asFb21 : Q × Bool := ((.le (.var 4) (.bi .add (.var 1) (.int 5))), false)
abbrev asFb22 : Q × Bool := ((.le (.int 0) (.bi .add (.var 1) (.int 6))), true)
abbrev asFb23 : Q × Bool := ((.le (.var 4) (.bi .add (.var 1) (.int 6))), false)
abbrev asFb24 : Q × Bool := ((.le (.int 0) (.bi .add (.var 1) (.int 7))), true)
abbrev asFb25 : Q × Bool := ((.le (.var 4) (.bi .add (.var 1) (.int 7))), false)
abbrev asFb26 : Q × Bool := ((.le (.int 4) (.bi .add (.var 2) (.int (-4)))), true)
abbrev asFb27 : Q × Bool := ((.le (.bi .add (.var 2) (.int (-4))) (.bi .add (.var 3) (.int (-4)))), true)
abbrev asFb28 : Q × Bool := ((.le (.int 4) (.bi .add (.var 3) (.int (-8)))), true)
abbrev asFb29 : Q × Bool := ((.le (.int 0) (.bi .add (.var 1) (.int 8))), true)
abbrev asFb30 : Q × Bool := ((.le (.var 4) (.bi .add (.var 1) (.int 8))), false)
abbrev asFb31 : Q × Bool := ((.le (.int 0) (.bi .add (.var 1) (.int 9))), true)
abbrev asFb32 : Q × Bool := ((.le (.var 4) (.bi .add (.var 1) (.int 9))), false)
abbrev asFb33 : Q × Bool := ((.le (.int 0) (.bi .add (.var 1) (.int 10))), true)
abbrev asFb34 : Q × Bool := ((.le (.var 4) (.bi .add (.var 1) (.int 10))), false)
abbrev asFb35 : Q × Bool := ((.le (.int 0) (.bi .add (.var 1) (.int 11))), true)
abbrev asFb36 : Q × Bool := ((.le (.var 4) (.bi .add (.var 1) (.int 11))), false)
abbrev asFb37 : Q × Bool := ((.le (.int 4) (.bi .add (.var 2) (.int (-8)))), true)
abbrev asFb38 : Q × Bool := ((.le (.bi .add (.var 2) (.int (-8))) (.bi .add (.var 3) (.int (-8)))), true)
abbrev asFb39 : Q × Bool := ((.le (.int 4) (.bi .add (.var 3) (.int (-12)))), true)
abbrev asFb40 : Q × Bool := ((.le (.int 0) (.bi .add (.var 1) (.int 12))), true)
abbrev asFb41 : Q × Bool := ((.le (.var 4) (.bi .add (.var 1) (.int 12))), false)
abbrev asFb42 : Q × Bool := ((.le (.int 0) (.bi .add (.var 1) (.int 13))), true)
abbrev asFb43 : Q × Bool := ((.le (.var 4) (.bi .add (.var 1) (.int 13))), false)
abbrev asFb44 : Q × Bool := ((.le (.int 0) (.bi .add (.var 1) (.int 14))), true)
abbrev asFb45 : Q × Bool := ((.le (.var 4) (.bi .add (.var 1) (.int 14))), false)
abbrev asFb46 : Q × Bool := ((.le (.int 0) (.bi .add (.var 1) (.int 15))), true)
abbrev asFb47 : Q × Bool := ((.le (.var 4) (.bi .add (.var 1) (.int 15))), false)
abbrev asFb48 : Q × Bool := ((.le (.int 4) (.bi .add (.var 2) (.int (-12)))), true)
abbrev asFb49 : Q × Bool := ((.le (.bi .add (.var 2) (.int (-12))) (.bi .add (.var 3) (.int (-12)))), true)
abbrev asFb50 : Q × Bool := ((.le (.int 4) (.bi .add (.var 3) (.int (-16)))), true)
abbrev asFb51 : Q × Bool := ((.le (.int 0) (.bi .add (.var 1) (.int 16))), true)
abbrev asFb52 : Q × Bool := ((.le (.var 4) (.bi .add (.var 1) (.int 16))), false)
abbrev asFb53 : Q × Bool := ((.le (.int 0) (.bi .add (.var 1) (.int 17))), true)
abbrev asFb54 : Q × Bool := ((.le (.var 4) (.bi .add (.var 1) (.int 17))), false)
abbrev asFb55 : Q × Bool := ((.le (.int 0) (.bi .add (.var 1) (.int 18))), true)
abbrev asFb56 : Q × Bool := ((.le (.var 4) (.bi .add (.var 1) (.int 18))), false)
abbrev asFb57 : Q × Bool := ((.le (.int 0) (.bi .add (.var 1) (.int 19))), true)
abbrev asFb58 : Q × Bool := ((.le (.var 4) (.bi .add (.var 1) (.int 19))), false)
abbrev asFb59 : Q × Bool := ((.le (.int 4) (.bi .add (.var 2) (.int (-16)))), true)
abbrev asFb60 : Q × Bool := ((.le (.bi .add (.var 2) (.int (-16))) (.bi .add (.var 3) (.int (-16)))), true)
abbrev asFb61 : Q × Bool := ((.le (.int 2) (.bi .add (.var 3) (.int (-20)))), true)
abbrev asFb62 : Q × Bool := ((.le (.int 0) (.bi .add (.var 1) (.int 20))), true)
abbrev asFb63 : Q × Bool := ((.le (.var 4) (.bi .add (.var 1) (.int 20))), false)
abbrev asFb64 : Q × Bool := ((.le (.int 0) (.bi .add (.var 1) (.int 21))), true)
abbrev asFb65 : Q × Bool := ((.le (.var 4) (.bi .add (.var 1) (.int 21))), false)
abbrev asFb66 : Q × Bool := ((.le (.int 2) (.bi .add (.var 2) (.int (-20)))), true)
abbrev asFb67 : Q × Bool := ((.le (.bi .add (.var 2) (.int (-20))) (.bi .add (.var 3) (.int (-20)))), true)
def takenCO_t0 : List (Q × Bool) := [asFb0, asFb1, asFb2, asFb3, asFb4, asFb5, asFb6, asFb7, asFb8, asFb9, asFb10, asFb11, asFb12, asFb13, asFb14, asFb15, asFb16, asFb17, asFb18, asFb19, asFb20, asFb21, asFb22, asFb23, asFb24, asFb25, asFb26, asFb27, asFb28, asFb29, asFb30, asFb31, asFb32, asFb33, asFb34, asFb35, asFb36, asFb37, asFb38, asFb39, asFb40, asFb41, asFb42, asFb43, asFb44, asFb45, asFb46, asFb47, asFb48, asFb49, asFb50, asFb51, asFb52, asFb53, asFb54, asFb55, asFb56, asFb57, asFb58, asFb59, asFb60, asFb61, asFb62, asFb63, asFb64, asFb65, asFb66, asFb67]
def takenCO_d0 : List Duty := [(true, (.bi (.iop .or .i64) (.bi (.iop .shl .i64) (.bi (.iop .or .i64) (.int 0) (.bi .sel (.var 5) (.var 1))) (.int 8)) (.bi .sel (.var 5) (.bi .add (.var 1) (.int 1)))), (.fn 15 (.bi .pair (.var 5) (.bi .pair (.var 1) (.bi .pair (.bi .add (.var 1) (.int 2)) (.int 0)))))), (true, (.bi (.iop .or .i64) (.int 0) (.bi .sel (.var 5) (.bi .add (.var 1) (.int 2)))), (.fn 15 (.bi .pair (.var 5) (.bi .pair (.bi .add (.var 1) (.int 2)) (.bi .pair (.bi .add (.var 1) (.int 3)) (.int 0)))))), (true, (.bi (.iop .or .i64) (.bi (.iop .shl .i64) (.bi (.iop .or .i64) (.int 0) (.bi .sel (.var 5) (.bi .add (.var 1) (.int 20)))) (.int 8)) (.bi .sel (.var 5) (.bi .add (.var 1) (.int 21)))), (.fn 15 (.bi .pair (.var 5) (.bi .pair (.bi .add (.var 1) (.int 20)) (.bi .pair (.bi .add (.var 1) (.int 22)) (.int 0)))))), (true, (.bi (.iop .or .i64) (.int 0) (.bi .sel (.var 5) (.bi .add (.var 1) (.int 3)))), (.fn 15 (.bi .pair (.var 5) (.bi .pair (.bi .add (.var 1) (.int 3)) (.bi .pair (.bi .add (.var 1) (.int 4)) (.int 0)))))), (true, (.bi (.iop .or .i64) (.bi (.iop .shl .i64) (.bi (.iop .or .i64) (.bi (.iop .shl .i64) (.bi (.iop .or .i64) (.bi (.iop .shl .i64) (.bi (.iop .or .i64) (.int 0) (.bi .sel (.var 5) (.bi .add (.var 1) (.int 4)))) (.int 8)) (.bi .sel (.var 5) (.bi .add (.var 1) (.int 5)))) (.int 8)) (.bi .sel (.var 5) (.bi .add (.var 1) (.int 6)))) (.int 8)) (.bi .sel (.var 5) (.bi .add (.var 1) (.int 7)))), (.fn 15 (.bi .pair (.var 5) (.bi .pair (.bi .add (.var 1) (.int 4)) (.bi .pair (.bi .add (.var 1) (.int 8)) (.int 0)))))), (true, (.bi (.iop .or .i64) (.bi (.iop .shl .i64) (.bi (.iop .or .i64) (.bi (.iop .shl .i64) (.bi (.iop .or .i64) (.bi (.iop .shl .i64) (.bi (.iop .or .i64) (.int 0) (.bi .sel (.var 5) (.bi .add (.var 1) (.int 8)))) (.int 8)) (.bi .sel (.var 5) (.bi .add (.var 1) (.int 9)))) (.int 8)) (.bi .sel (.var 5) (.bi .add (.var 1) (.int 10)))) (.int 8)) (.bi .sel (.var 5) (.bi .add (.var 1) (.int 11)))), (.fn 15 (.bi .pair (.var 5) (.bi .pair (.bi .add (.var 1) (.int 8)) (.bi .pair (.bi .add (.var 1) (.int 12)) (.int 0)))))), (true, (.bi (.iop .or .i64) (.bi (.iop .shl .i64) (.bi (.iop .or .i64) (.bi (.iop .shl .i64) (.bi (.iop .or .i64) (.bi (.iop .shl .i64) (.bi (.iop .or .i64) (.int 0) (.bi .sel (.var 5) (.bi .add (.var 1) (.int 12)))) (.int 8)) (.bi .sel (.var 5) (.bi .add (.var 1) (.int 13)))) (.int 8)) (.bi .sel (.var 5) (.bi .add (.var 1) (.int 14)))) (.int 8)) (.bi .sel (.var 5) (.bi .add (.var 1) (.int 15)))), (.fn 15 (.bi .pair (.var 5) (.bi .pair (.bi .add (.var 1) (.int 12)) (.bi .pair (.bi .add (.var 1) (.int 16)) (.int 0)))))), (true, (.bi (.iop .or .i64) (.bi (.iop .shl .i64) (.bi (.iop .or .i64) (.bi (.iop .shl .i64) (.bi (.iop .or .i64) (.bi (.iop .shl .i64) (.bi (.iop .or .i64) (.int 0) (.bi .sel (.var 5) (.bi .add (.var 1) (.int 16)))) (.int 8)) (.bi .sel (.var 5) (.bi .add (.var 1) (.int 17)))) (.int 8)) (.bi .sel (.var 5) (.bi .add (.var 1) (.int 18)))) (.int 8)) (.bi .sel (.var 5) (.bi .add (.var 1) (.int 19)))), (.fn 15 (.bi .pair (.var 5) (.bi .pair (.bi .add (.var 1) (.int 16)) (.bi .pair (.bi .add (.var 1) (.int 20)) (.int 0))))))]
theorem takenCO_y0 : endC takenCO [(3, 3)] 1000 (callC Tryd.prog (tellA takenCO_t0) [] [] [] 3000 40 37 takenCO) = some takenCO_d0 := by kernel_rfl
theorem takenCO_holds : CHolds Tryd.prog 37 takenCO F := by
  refine cholds_of sound (tableNil _ _) (specsNil _ _) (oversNil _ _) (fuel := 3000) (depth := 40) (by kernel_rfl) fun d hp hR hA => ?_
  have hp := allTold'_iff.2 hp
  simp only [takenCO, allTold', dutiesTold, factsA, factsC, factsP, factsR, AV.facts, RW.facts, inK, and_true, Q.holds', E.i, E.s, E.n, D.nat, E.den, BO.den, UO.den, TO.den, D.toInt_int, D.toList_list, D.ints_ofInts, i64min, i64max, u8min, u8max, u16min, u16max, u32min, u32max, u64min, u64max, i32min, i32max, Om.sub, selI, ints_app, ints_cut, ints_upd, ints_rep, ints_splice, ints_seg, len_ints] at hp hR hA
  refine ⟨tellA takenCO_t0, _, _, _, tellA_ok (allTold'_iff.1 ?_), takenCO_y0, dutiesTold_ok ?_⟩
  · simp only [takenCO_t0, allTold', dutiesTold, factsA, factsC, factsP, factsR, AV.facts, RW.facts, inK, and_true, Q.holds', E.i, E.s, E.n, D.nat, E.den, BO.den, UO.den, TO.den, D.toInt_int, D.toList_list, D.ints_ofInts, i64min, i64max, u8min, u8max, u16min, u16max, u32min, u32max, u64min, u64max, i32min, i32max, Om.sub, selI, ints_app, ints_cut, ints_upd, ints_rep, ints_splice, ints_seg, len_ints]
    omega
  · simp only [takenCO_d0, F15, allTold', dutiesTold, factsA, factsC, factsP, factsR, AV.facts, RW.facts, inK, and_true, Q.holds', E.i, E.s, E.n, D.nat, E.den, BO.den, UO.den, TO.den, D.toInt_int, D.toList_list, D.ints_ofInts, i64min, i64max, u8min, u8max, u16min, u16max, u32min, u32max, u64min, u64max, i32min, i32max, Om.sub, selI, ints_app, ints_cut, ints_upd, ints_rep, ints_splice, ints_seg, len_ints]
    obtain ⟨hl, hx⟩ := hR
    refine ⟨nx2 hx (by omega) (by omega) (by omega) (by omega), nx1 hx (by omega) (by omega) (by omega), nx2 hx (by omega) (by omega) (by omega) (by omega), nx1 hx (by omega) (by omega) (by omega), nx4 hx (by omega) (by omega) (by omega) (by omega) (by omega) (by omega), nx4 hx (by omega) (by omega) (by omega) (by omega) (by omega) (by omega), nx4 hx (by omega) (by omega) (by omega) (by omega) (by omega) (by omega), nx4 hx (by omega) (by omega) (by omega) (by omega) (by omega) (by omega)⟩

def gchkYO : CSpec := { args := [.sslice 3 (.var 1) (.var 2) (.var 3) true], next := 2, rows := [(3, .eseq ⟨.u8, .var 4, .var 5⟩)], pre := [(.le (.bi .add (.var 1) (.var 2)) (.var 4), true), (.le (.int 5) (.var 2), true), (.le (.var 2) (.int 1000000), true), (.eq (.fn 14 (argsE [.var 5, .var 1, .bi .add (.var 1) (.var 2)])) (.int 1), true)], res := .tuple [.sslice 5 (.int 0) (.bi .add (.var 2) (.int (-4))) (.bi .add (.var 2) (.int (-4))) true, .int .i64 0], frows := [(5, .seq ⟨5, .u8, .bi .add (.var 2) (.int (-4)), .tr .cut (.var 5) (.var 1) (.bi .add (.var 1) (.bi .add (.var 2) (.int (-4)))), true, false⟩)], same := [] }
abbrev asFb68 : Q × Bool := ((.fit .i64 (.var 2)), true)
abbrev asFb69 : Q × Bool := ((.fit .i64 (.bi .add (.var 2) (.int (-4)))), true)
abbrev asFb70 : Q × Bool := ((.le (.int 0) (.bi .add (.var 2) (.int (-4)))), true)
abbrev asFb71 : Q × Bool := ((.le (.bi .add (.var 2) (.int (-4))) (.var 3)), true)
abbrev asFb72 : Q × Bool := ((.le (.bi .add (.var 2) (.int (-4))) (.var 2)), true)
abbrev asFb73 : Q × Bool := ((.le (.int 4) (.bi .sub (.var 2) (.bi .add (.var 2) (.int (-4))))), true)
abbrev asFb74 : Q × Bool := ((.le (.int 0) (.bi .add (.var 1) (.bi .add (.var 2) (.int (-4))))), true)
abbrev asFb75 : Q × Bool := ((.le (.bi .add (.bi .add (.var 1) (.bi .add (.var 2) (.int (-4)))) (.int 4)) (.var 4)), true)
abbrev asFb76 : Q × Bool := ((.le (.bi .add (.var 1) (.bi .add (.var 2) (.int (-4)))) (.var 4)), true)
abbrev asFb77 : Q × Bool := ((.le (.bi .add (.var 2) (.int (-4))) (.int 1000000)), true)
abbrev asFb78 : Q × Bool := ((.eq (.un (.wrap .u8) (.fn 2 (.bi .pair (.int 0) (.bi .pair (.var 5) (.bi .pair (.var 1) (.bi .pair (.bi .add (.var 1) (.bi .add (.var 2) (.int (-4)))) (.int 0))))))) (.bi .sel (.var 5) (.bi .add (.var 1) (.bi .add (.var 2) (.int (-4)))))), true)
abbrev asFb79 : Q × Bool := ((.eq (.un (.wrap .u8) (.bi (.iop .shr .u32) (.fn 2 (.bi .pair (.int 0) (.bi .pair (.var 5) (.bi .pair (.var 1) (.bi .pair (.bi .add (.var 1) (.bi .add (.var 2) (.int (-4)))) (.int 0)))))) (.int 8))) (.bi .sel (.var 5) (.bi .add (.bi .add (.var 1) (.bi .add (.var 2) (.int (-4)))) (.int 1)))), true)
abbrev asFb80 : Q × Bool := ((.eq (.un (.wrap .u8) (.bi (.iop .shr .u32) (.fn 2 (.bi .pair (.int 0) (.bi .pair (.var 5) (.bi .pair (.var 1) (.bi .pair (.bi .add (.var 1) (.bi .add (.var 2) (.int (-4)))) (.int 0)))))) (.int 16))) (.bi .sel (.var 5) (.bi .add (.bi .add (.var 1) (.bi .add (.var 2) (.int (-4)))) (.int 2)))), true)
abbrev asFb81 : Q × Bool := ((.eq (.un (.wrap .u8) (.bi (.iop .shr .u32) (.fn 2 (.bi .pair (.int 0) (.bi .pair (.var 5) (.bi .pair (.var 1) (.bi .pair (.bi .add (.var 1) (.bi .add (.var 2) (.int (-4)))) (.int 0)))))) (.int 24))) (.bi .sel (.var 5) (.bi .add (.bi .add (.var 1) (.bi .add (.var 2) (.int (-4)))) (.int 3)))), true)
abbrev asFb82 : Q × Bool := ((.le (.bi .mul (.bi .add (.var 2) (.int (-4))) (.int 2)) (.int 281474976710656)), true)
def gchkYO_t0 : List (Q × Bool) := [asFb68, asFb69, asFb70, asFb71, asFb72, asFb6, asFb73, asFb74, asFb75, asFb76, asFb77, asFb78, asFb79, asFb80, asFb81, asFb82]
def gchkYO_d0 : List Duty := []
theorem gchkYO_y0 : endC gchkYO [(5, 9)] 1000 (callC Tryd.prog (tellA gchkYO_t0) [⟨50, [4, 1, 0, 1, 1, 1], moreL⟩, ⟨50, [4, 1, 0, 1, 1, 1], moreLO⟩] [(52, tableC), (50, moreC), (50, moreCO)] [] 3000 40 25 gchkYO) = some gchkYO_d0 := by kernel_rfl
theorem gchkYO_holds : CHolds Tryd.prog 25 gchkYO F := by
  refine cholds_of sound (tableCons moreL_holds (tableCons moreLO_holds (tableNil _ _))) (specsCons tableC_holds (specsCons moreC_holds (specsCons moreCO_holds (specsNil _ _)))) (oversNil _ _) (fuel := 3000) (depth := 40) (by kernel_rfl) fun d hp hR hA => ?_
  have hp := allTold'_iff.2 hp
  simp only [gchkYO, allTold', dutiesTold, factsA, factsC, factsP, factsR, AV.facts, RW.facts, inK, and_true, Q.holds', E.i, E.s, E.n, D.nat, E.den, BO.den, UO.den, TO.den, D.toInt_int, D.toList_list, D.ints_ofInts, i64min, i64max, u8min, u8max, u16min, u16max, u32min, u32max, u64min, u64max, i32min, i32max, Om.sub, selI, ints_app, ints_cut, ints_upd, ints_rep, ints_splice, ints_seg, len_ints] at hp hR hA
  simp only [F14, argsE, allTold', dutiesTold, factsA, factsC, factsP, factsR, AV.facts, RW.facts, inK, and_true, Q.holds', E.i, E.s, E.n, D.nat, E.den, BO.den, UO.den, TO.den, D.toInt_int, D.toList_list, D.ints_ofInts, i64min, i64max, u8min, u8max, u16min, u16max, u32min, u32max, u64min, u64max, i32min, i32max, Om.sub, selI, ints_app, ints_cut, ints_upd, ints_rep, ints_splice, ints_seg, len_ints] at hp
  obtain ⟨hl, hx⟩ := hR
  have g := good_iff (x := (d 5).ints) (o := (d 1).toInt) (l := (d 2).toInt) (by omega) (by omega) (by omega)
  obtain ⟨c0, c1, c2, c3⟩ := g.1 hp.2.2.2
  refine ⟨tellA gchkYO_t0, _, _, _, tellA_ok (allTold'_iff.1 ?_), gchkYO_y0, dutiesTold_ok ?_⟩
  · simp only [gchkYO_t0, F2, allTold', dutiesTold, factsA, factsC, factsP, factsR, AV.facts, RW.facts, inK, and_true, Q.holds', E.i, E.s, E.n, D.nat, E.den, BO.den, UO.den, TO.den, D.toInt_int, D.toList_list, D.ints_ofInts, i64min, i64max, u8min, u8max, u16min, u16max, u32min, u32max, u64min, u64max, i32min, i32max, Om.sub, selI, ints_app, ints_cut, ints_upd, ints_rep, ints_splice, ints_seg, len_ints]
    and_intros <;> first | omega | exact c0 | exact c1 | exact c2 | exact c3 | rfl
  · trivial

def gchkNO : CSpec := { args := [.sslice 3 (.var 1) (.var 2) (.var 3) true], next := 2, rows := [(3, .eseq ⟨.u8, .var 4, .var 5⟩)], pre := [(.le (.bi .add (.var 1) (.var 2)) (.var 4), true), (.le (.int 5) (.var 2), true), (.le (.var 2) (.int 1000000), true), (.eq (.fn 14 (argsE [.var 5, .var 1, .bi .add (.var 1) (.var 2)])) (.int 1), false)], res := .tuple [.nilslice, .int .i64 4], frows := [], same := [] }
abbrev asFb83 : Q × Bool := ((.eq (.un (.wrap .u8) (.fn 2 (.bi .pair (.int 0) (.bi .pair (.var 5) (.bi .pair (.var 1) (.bi .pair (.bi .add (.var 1) (.bi .add (.var 2) (.int (-4)))) (.int 0))))))) (.bi .sel (.var 5) (.bi .add (.var 1) (.bi .add (.var 2) (.int (-4)))))), false)
def gchkNO_t0 : List (Q × Bool) := [asFb68, asFb69, asFb70, asFb71, asFb72, asFb6, asFb73, asFb74, asFb75, asFb76, asFb77, asFb83]
def gchkNO_d0 : List Duty := []
theorem gchkNO_y0 : endC gchkNO [] 1000 (callC Tryd.prog (tellA gchkNO_t0) [⟨50, [4, 1, 0, 1, 1, 1], moreL⟩, ⟨50, [4, 1, 0, 1, 1, 1], moreLO⟩] [(52, tableC), (50, moreC), (50, moreCO)] [] 3000 40 25 gchkNO) = some gchkNO_d0 := by kernel_rfl
abbrev asFb84 : Q × Bool := ((.eq (.un (.wrap .u8) (.bi (.iop .shr .u32) (.fn 2 (.bi .pair (.int 0) (.bi .pair (.var 5) (.bi .pair (.var 1) (.bi .pair (.bi .add (.var 1) (.bi .add (.var 2) (.int (-4)))) (.int 0)))))) (.int 8))) (.bi .sel (.var 5) (.bi .add (.bi .add (.var 1) (.bi .add (.var 2) (.int (-4)))) (.int 1)))), false)
def gchkNO_t1 : List (Q × Bool) := [asFb68, asFb69, asFb70, asFb71, asFb72, asFb6, asFb73, asFb74, asFb75, asFb76, asFb77, asFb78, asFb84]
def gchkNO_d1 : List Duty := []
theorem gchkNO_y1 : endC gchkNO [] 1000 (callC Tryd.prog (tellA gchkNO_t1) [⟨50, [4, 1, 0, 1, 1, 1], moreL⟩, ⟨50, [4, 1, 0, 1, 1, 1], moreLO⟩] [(52, tableC), (50, moreC), (50, moreCO)] [] 3000 40 25 gchkNO) = some gchkNO_d1 := by kernel_rfl
abbrev asFb85 : Q × Bool := ((.eq (.un (.wrap .u8) (.bi (.iop .shr .u32) (.fn 2 (.bi .pair (.int 0) (.bi .pair (.var 5) (.bi .pair (.var 1) (.bi .pair (.bi .add (.var 1) (.bi .add (.var 2) (.int (-4)))) (.int 0)))))) (.int 16))) (.bi .sel (.var 5) (.bi .add (.bi .add (.var 1) (.bi .add (.var 2) (.int (-4)))) (.int 2)))), false)
def gchkNO_t2 : List (Q × Bool) := [asFb68, asFb69, asFb70, asFb71, asFb72, asFb6, asFb73, asFb74, asFb75, asFb76, asFb77, asFb78, asFb79, asFb85]
def gchkNO_d2 : List Duty := []
theorem gchkNO_y2 : endC gchkNO [] 1000 (callC Tryd.prog (tellA gchkNO_t2) [⟨50, [4, 1, 0, 1, 1, 1], moreL⟩, ⟨50, [4, 1, 0, 1, 1, 1], moreLO⟩] [(52, tableC), (50, moreC), (50, moreCO)] [] 3000 40 25 gchkNO) = some gchkNO_d2 := by kernel_rfl
abbrev asFb86 : Q × Bool := ((.eq (.un (.wrap .u8) (.bi (.iop .shr .u32) (.fn 2 (.bi .pair (.int 0) (.bi .pair (.var 5) (.bi .pair (.var 1) (.bi .pair (.bi .add (.var 1) (.bi .add (.var 2) (.int (-4)))) (.int 0)))))) (.int 24))) (.bi .sel (.var 5) (.bi .add (.bi .add (.var 1) (.bi .add (.var 2) (.int (-4)))) (.int 3)))), false)
def gchkNO_t3 : List (Q × Bool) := [asFb68, asFb69, asFb70, asFb71, asFb72, asFb6, asFb73, asFb74, asFb75, asFb76, asFb77, asFb78, asFb79, asFb80, asFb86]
def gchkNO_d3 : List Duty := []
theorem gchkNO_y3 : endC gchkNO [] 1000 (callC Tryd.prog (tellA gchkNO_t3) [⟨50, [4, 1, 0, 1, 1, 1], moreL⟩, ⟨50, [4, 1, 0, 1, 1, 1], moreLO⟩] [(52, tableC), (50, moreC), (50, moreCO)] [] 3000 40 25 gchkNO) = some gchkNO_d3 := by kernel_rfl
theorem gchkNO_holds : CHolds Tryd.prog 25 gchkNO F := by
  refine cholds_of sound (tableCons moreL_holds (tableCons moreLO_holds (tableNil _ _))) (specsCons tableC_holds (specsCons moreC_holds (specsCons moreCO_holds (specsNil _ _)))) (oversNil _ _) (fuel := 3000) (depth := 40) (by kernel_rfl) fun d hp hR hA => ?_
  have hp := allTold'_iff.2 hp
  simp only [gchkNO, allTold', dutiesTold, factsA, factsC, factsP, factsR, AV.facts, RW.facts, inK, and_true, Q.holds', E.i, E.s, E.n, D.nat, E.den, BO.den, UO.den, TO.den, D.toInt_int, D.toList_list, D.ints_ofInts, i64min, i64max, u8min, u8max, u16min, u16max, u32min, u32max, u64min, u64max, i32min, i32max, Om.sub, selI, ints_app, ints_cut, ints_upd, ints_rep, ints_splice, ints_seg, len_ints] at hp hR hA
  simp only [F14, argsE, allTold', dutiesTold, factsA, factsC, factsP, factsR, AV.facts, RW.facts, inK, and_true, Q.holds', E.i, E.s, E.n, D.nat, E.den, BO.den, UO.den, TO.den, D.toInt_int, D.toList_list, D.ints_ofInts, i64min, i64max, u8min, u8max, u16min, u16max, u32min, u32max, u64min, u64max, i32min, i32max, Om.sub, selI, ints_app, ints_cut, ints_upd, ints_rep, ints_splice, ints_seg, len_ints] at hp
  obtain ⟨hl, hx⟩ := hR
  have g := good_iff (x := (d 5).ints) (o := (d 1).toInt) (l := (d 2).toInt) (by omega) (by omega) (by omega)
  by_cases c0 : IntKind.u8.wrap (notI (moreI (notI 0) (prt (d 5).ints (d 1).toInt ((d 1).toInt + ((d 2).toInt + -4))))) = ((d 5).ints[((d 1).toInt + ((d 2).toInt + -4)).toNat]?).getD 0
  · by_cases c1 : IntKind.u8.wrap (iopI .shr .u32 (notI (moreI (notI 0) (prt (d 5).ints (d 1).toInt ((d 1).toInt + ((d 2).toInt + -4))))) 8) = ((d 5).ints[((d 1).toInt + ((d 2).toInt + -4) + 1).toNat]?).getD 0
    · by_cases c2 : IntKind.u8.wrap (iopI .shr .u32 (notI (moreI (notI 0) (prt (d 5).ints (d 1).toInt ((d 1).toInt + ((d 2).toInt + -4))))) 16) = ((d 5).ints[((d 1).toInt + ((d 2).toInt + -4) + 2).toNat]?).getD 0
      · by_cases c3 : IntKind.u8.wrap (iopI .shr .u32 (notI (moreI (notI 0) (prt (d 5).ints (d 1).toInt ((d 1).toInt + ((d 2).toInt + -4))))) 24) = ((d 5).ints[((d 1).toInt + ((d 2).toInt + -4) + 3).toNat]?).getD 0
        · exact (hp.2.2.2 (g.2 ⟨c0, c1, c2, c3⟩)).elim
        · refine ⟨tellA gchkNO_t3, _, _, _, tellA_ok (allTold'_iff.1 ?_), gchkNO_y3, dutiesTold_ok ?_⟩
          · simp only [gchkNO_t3, F2, allTold', dutiesTold, factsA, factsC, factsP, factsR, AV.facts, RW.facts, inK, and_true, Q.holds', E.i, E.s, E.n, D.nat, E.den, BO.den, UO.den, TO.den, D.toInt_int, D.toList_list, D.ints_ofInts, i64min, i64max, u8min, u8max, u16min, u16max, u32min, u32max, u64min, u64max, i32min, i32max, Om.sub, selI, ints_app, ints_cut, ints_upd, ints_rep, ints_splice, ints_seg, len_ints]
            and_intros <;> first | omega | exact c0 | exact c1 | exact c2 | exact c3 | rfl
          · trivial
      · refine ⟨tellA gchkNO_t2, _, _, _, tellA_ok (allTold'_iff.1 ?_), gchkNO_y2, dutiesTold_ok ?_⟩
        · simp only [gchkNO_t2, F2, allTold', dutiesTold, factsA, factsC, factsP, factsR, AV.facts, RW.facts, inK, and_true, Q.holds', E.i, E.s, E.n, D.nat, E.den, BO.den, UO.den, TO.den, D.toInt_int, D.toList_list, D.ints_ofInts, i64min, i64max, u8min, u8max, u16min, u16max, u32min, u32max, u64min, u64max, i32min, i32max, Om.sub, selI, ints_app, ints_cut, ints_upd, ints_rep, ints_splice, ints_seg, len_ints]
          and_intros <;> first | omega | exact c0 | exact c1 | exact c2 | exact c3 | rfl
        · trivial
    · refine ⟨tellA gchkNO_t1, _, _, _, tellA_ok (allTold'_iff.1 ?_), gchkNO_y1, dutiesTold_ok ?_⟩
      · simp only [gchkNO_t1, F2, allTold', dutiesTold, factsA, factsC, factsP, factsR, AV.facts, RW.facts, inK, and_true, Q.holds', E.i, E.s, E.n, D.nat, E.den, BO.den, UO.den, TO.den, D.toInt_int, D.toList_list, D.ints_ofInts, i64min, i64max, u8min, u8max, u16min, u16max, u32min, u32max, u64min, u64max, i32min, i32max, Om.sub, selI, ints_app, ints_cut, ints_upd, ints_rep, ints_splice, ints_seg, len_ints]
        and_intros <;> first | omega | exact c0 | exact c1 | exact c2 | exact c3 | rfl
      · trivial
  · refine ⟨tellA gchkNO_t0, _, _, _, tellA_ok (allTold'_iff.1 ?_), gchkNO_y0, dutiesTold_ok ?_⟩
    · simp only [gchkNO_t0, F2, allTold', dutiesTold, factsA, factsC, factsP, factsR, AV.facts, RW.facts, inK, and_true, Q.holds', E.i, E.s, E.n, D.nat, E.den, BO.den, UO.den, TO.den, D.toInt_int, D.toList_list, D.ints_ofInts, i64min, i64max, u8min, u8max, u16min, u16max, u32min, u32max, u64min, u64max, i32min, i32max, Om.sub, selI, ints_app, ints_cut, ints_upd, ints_rep, ints_splice, ints_seg, len_ints]
      and_intros <;> first | omega | exact c0 | exact c1 | exact c2 | exact c3 | rfl
    · trivial

end Go.Proofs.YtlmcjfcfmcdcpaaDoor.Fb
