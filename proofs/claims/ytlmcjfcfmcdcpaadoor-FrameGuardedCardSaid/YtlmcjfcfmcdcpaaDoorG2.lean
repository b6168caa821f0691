/-
  Contracts of this seat: what loops and calls leave, for all inputs. No condition.
-/
import Derived.Test.YtlmcjfcfmcdcpaaDoorSycp
import Derived.Test.YtlmcjfcfmcdcpaaDoorCo
import Derived.Test.YtlmcjfcfmcdcpaaDoorGa
set_option linter.unusedSimpArgs false
set_option linter.unusedVariables false
namespace Go.Proofs.YtlmcjfcfmcdcpaaDoor.G2
open Go.RowKit Go.Ev Go.Proofs.YtlmcjfcfmcdcpaaDoor.Co

open Go.Proofs.YtlmcjfcfmcdcpaaDoor.Ga

def bitL : LSpec := { n := 35, next := 2, pat := [(5, .sint .i64 (.var 0)), (3, .sint .u32 (.var 1)), (4, .sint .i64 (.var 4)), (0, .sslice 3 (.var 5) (.var 6) (.var 7) false)], rows := [(3, .eseq ⟨.u8, .var 3, .var 2⟩)], pre := [(.le (.int 0) (.var 0), true), (.le (.var 0) (.int 8), true), (.le (.int 0) (.var 4), true), (.le (.var 6) (.var 4), false), (.le (.bi .add (.var 5) (.var 6)) (.var 3), true)], x := 2, fin := [(3, .sint .u32 (.fn 3 (argsE [.var 0, .var 1, .bi .sel (.var 2) (.bi .add (.var 5) (.var 4))]))), (4, .sint .i64 (.var 4)), (0, .sslice 3 (.var 5) (.var 6) (.var 7) false)], frows := [], same := [3], chg := [0, 3, 4, 5, 6, 13, 14, 15, 16, 17, 18, 19, 20, 21, 22, 23, 24, 25, 26, 27, 28, 29, 30, 31, 32] }
abbrev asG20 : Q × Bool := ((.le (.int 8) (.var 0)), false)
abbrev asG21 : Q × Bool := ((.le (.int 0) (.var 4)), true)
abbrev asG22 : Q × Bool := ((.le (.var 6) (.var 4)), false)
abbrev asG23 : Q × Bool := ((.le (.int 0) (.bi .add (.var 5) (.var 4))), true)
abbrev asG24 : Q × Bool := ((.le (.var 3) (.bi .add (.var 5) (.var 4))), false)
abbrev asG25 : Q × Bool := ((.le (.int 0) (.var 0)), true)
abbrev asG26 : Q × Bool := ((.eq (.bi (.iop .rem .u32) (.var 1) (.int 2)) (.bi (.iop .rem .u32) (.bi (.iop .shr .u8) (.bi .sel (.var 2) (.bi .add (.var 5) (.var 4))) (.var 0)) (.int 2))), false)
abbrev asG27 : Q × Bool := ((.fit .i64 (.bi .add (.var 0) (.int 1))), true)
def bitL_t0 : List (Q × Bool) := [asG20, asG21, asG22, asG23, asG24, asG25, asG26, asG27]
def bitL_d0 : List Duty := [(true, (.fn 3 (.bi .pair (.bi .add (.var 0) (.int 1)) (.bi .pair (.bi (.iop .xor .u32) (.bi (.iop .shr .u32) (.var 1) (.int 1)) (.int 3988292384)) (.bi .pair (.bi .sel (.var 2) (.bi .add (.var 5) (.var 4))) (.int 0))))), (.fn 3 (.bi .pair (.var 0) (.bi .pair (.var 1) (.bi .pair (.bi .sel (.var 2) (.bi .add (.var 5) (.var 4))) (.int 0))))))]
def bitL_h0 : List (Nat × E) := [(3, (.var 3)), (2, (.var 2)), (5, (.var 5)), (6, (.var 6)), (7, (.var 7)), (4, (.var 4)), (1, (.bi (.iop .xor .u32) (.bi (.iop .shr .u32) (.var 1) (.int 1)) (.int 3988292384))), (0, (.bi .add (.var 0) (.int 1)))]
theorem bitL_h0_0 : lookE bitL_h0 0 = (.bi .add (.var 0) (.int 1)) := rfl
theorem bitL_h0_1 : lookE bitL_h0 1 = (.bi (.iop .xor .u32) (.bi (.iop .shr .u32) (.var 1) (.int 1)) (.int 3988292384)) := rfl
theorem bitL_h0_2 : lookE bitL_h0 2 = (.var 2) := rfl
theorem bitL_h0_3 : lookE bitL_h0 3 = (.var 3) := rfl
theorem bitL_h0_4 : lookE bitL_h0 4 = (.var 4) := rfl
theorem bitL_h0_5 : lookE bitL_h0 5 = (.var 5) := rfl
theorem bitL_h0_6 : lookE bitL_h0 6 = (.var 6) := rfl
theorem bitL_h0_7 : lookE bitL_h0 7 = (.var 7) := rfl
theorem bitL_y0 : nextD bitL bitL_h0 [(3, 3)] (roundC Tryd.prog [⟨50, [4, 1, 0, 1, 1, 1], moreL⟩, ⟨50, [4, 1, 0, 1, 1, 1], moreLO⟩] [(52, tableC), (50, moreC), (50, moreCO), (23, pickC), (29, putC), (29, putCO)] [] 3000 40 49 [4, 1, 4, 0, 1, 5, 4, 1, 0, 1, 1] (tellA bitL_t0) bitL) = some bitL_d0 := by kernel_rfl
abbrev asG28 : Q × Bool := ((.eq (.bi (.iop .rem .u32) (.var 1) (.int 2)) (.bi (.iop .rem .u32) (.bi (.iop .shr .u8) (.bi .sel (.var 2) (.bi .add (.var 5) (.var 4))) (.var 0)) (.int 2))), true)
def bitL_t1 : List (Q × Bool) := [asG20, asG21, asG22, asG23, asG24, asG25, asG28, asG27]
def bitL_d1 : List Duty := [(true, (.fn 3 (.bi .pair (.bi .add (.var 0) (.int 1)) (.bi .pair (.bi (.iop .shr .u32) (.var 1) (.int 1)) (.bi .pair (.bi .sel (.var 2) (.bi .add (.var 5) (.var 4))) (.int 0))))), (.fn 3 (.bi .pair (.var 0) (.bi .pair (.var 1) (.bi .pair (.bi .sel (.var 2) (.bi .add (.var 5) (.var 4))) (.int 0))))))]
def bitL_h1 : List (Nat × E) := [(3, (.var 3)), (2, (.var 2)), (5, (.var 5)), (6, (.var 6)), (7, (.var 7)), (4, (.var 4)), (1, (.bi (.iop .shr .u32) (.var 1) (.int 1))), (0, (.bi .add (.var 0) (.int 1)))]
theorem bitL_h1_0 : lookE bitL_h1 0 = (.bi .add (.var 0) (.int 1)) := rfl
theorem bitL_h1_1 : lookE bitL_h1 1 = (.bi (.iop .shr .u32) (.var 1) (.int 1)) := rfl
theorem bitL_h1_2 : lookE bitL_h1 2 = (.var 2) := rfl
theorem bitL_h1_3 : lookE bitL_h1 3 = (.var 3) := rfl
theorem bitL_h1_4 : lookE bitL_h1 4 = (.var 4) := rfl
theorem bitL_h1_5 : lookE bitL_h1 5 = (.var 5) := rfl
theorem bitL_h1_6 : lookE bitL_h1 6 = (.var 6) := rfl
theorem bitL_h1_7 : lookE bitL_h1 7 = (.var 7) := rfl
theorem bitL_y1 : nextD bitL bitL_h1 [(3, 3)] (roundC Tryd.prog [⟨50, [4, 1, 0, 1, 1, 1], moreL⟩, ⟨50, [4, 1, 0, 1, 1, 1], moreLO⟩] [(52, tableC), (50, moreC), (50, moreCO), (23, pickC), (29, putC), (29, putCO)] [] 3000 40 49 [4, 1, 4, 0, 1, 5, 4, 1, 0, 1, 1] (tellA bitL_t1) bitL) = some bitL_d1 := by kernel_rfl
abbrev asG29 : Q × Bool := ((.le (.int 8) (.var 0)), true)
def bitL_t2 : List (Q × Bool) := [asG29]
def bitL_d2 : List Duty := [(true, (.var 1), (.fn 3 (.bi .pair (.var 0) (.bi .pair (.var 1) (.bi .pair (.bi .sel (.var 2) (.bi .add (.var 5) (.var 4))) (.int 0))))))]
theorem bitL_y2 : endD bitL [(3, 3)] 1000 (roundC Tryd.prog [⟨50, [4, 1, 0, 1, 1, 1], moreL⟩, ⟨50, [4, 1, 0, 1, 1, 1], moreLO⟩] [(52, tableC), (50, moreC), (50, moreCO), (23, pickC), (29, putC), (29, putCO)] [] 3000 40 49 [4, 1, 4, 0, 1, 5, 4, 1, 0, 1, 1] (tellA bitL_t2) bitL) = some bitL_d2 := by kernel_rfl
theorem bitL_holds : LHolds Tryd.prog (loopAt Tryd.prog 49 [4, 1, 4, 0, 1, 5, 4, 1, 0, 1, 1]) bitL F := by
  refine loop_roundsC sound (tableCons moreL_holds (tableCons moreLO_holds (tableNil _ _))) (specsCons tableC_holds (specsCons moreC_holds (specsCons moreCO_holds (specsCons pickC_holds (specsCons putC_holds (specsCons putCO_holds (specsNil _ _))))))) (oversNil _ _) (fuel := 3000) (depth := 40) (by kernel_rfl) (by kernel_rfl) (by kernel_rfl) (fun d => (8 - (d 0).toInt).toNat) fun d hp hR hA => ?_
  have hp := allTold'_iff.2 hp
  simp only [bitL, allTold', dutiesTold, factsA, factsC, factsP, factsR, AV.facts, RW.facts, inK, and_true, Q.holds', E.i, E.s, E.n, D.nat, E.den, BO.den, UO.den, TO.den, D.toInt_int, D.toList_list, D.ints_ofInts, i64min, i64max, u8min, u8max, u16min, u16max, u32min, u32max, u64min, u64max, i32min, i32max, Om.sub, selI, ints_app, ints_cut, ints_upd, ints_rep, ints_splice, ints_seg, len_ints] at hp hR hA
  by_cases h : 8 ≤ (d 0).toInt
  · refine ⟨tellA bitL_t2, tellA_ok (allTold'_iff.1 ?_), .inl ⟨_, _, _, bitL_y2, dutiesTold_ok ?_⟩⟩
    · simp only [bitL_t2, allTold', dutiesTold, factsA, factsC, factsP, factsR, AV.facts, RW.facts, inK, and_true, Q.holds', E.i, E.s, E.n, D.nat, E.den, BO.den, UO.den, TO.den, D.toInt_int, D.toList_list, D.ints_ofInts, i64min, i64max, u8min, u8max, u16min, u16max, u32min, u32max, u64min, u64max, i32min, i32max, Om.sub, selI, ints_app, ints_cut, ints_upd, ints_rep, ints_splice, ints_seg, len_ints]
      omega
    · simp only [bitL_d2, F3, allTold', dutiesTold, factsA, factsC, factsP, factsR, AV.facts, RW.facts, inK, and_true, Q.holds', E.i, E.s, E.n, D.nat, E.den, BO.den, UO.den, TO.den, D.toInt_int, D.toList_list, D.ints_ofInts, i64min, i64max, u8min, u8max, u16min, u16max, u32min, u32max, u64min, u64max, i32min, i32max, Om.sub, selI, ints_app, ints_cut, ints_upd, ints_rep, ints_splice, ints_seg, len_ints]
      rw [show (8 - (d 0).toInt).toNat = 0 by omega]
      rfl
  · by_cases g : iopI .rem .u32 (d 1).toInt 2 = iopI .rem .u32 (iopI .shr .u8 (((d 2).ints[((d 5).toInt + (d 4).toInt).toNat]?).getD 0) (d 0).toInt) 2
    · refine ⟨tellA bitL_t1, tellA_ok (allTold'_iff.1 ?_), .inr ⟨bitL_h1, _, _, bitL_y1, dutiesTold_ok ?_, allTold'_iff.1 ?_, ?_⟩⟩
      · simp only [bitL_t1, allTold', dutiesTold, factsA, factsC, factsP, factsR, AV.facts, RW.facts, inK, and_true, Q.holds', E.i, E.s, E.n, D.nat, E.den, BO.den, UO.den, TO.den, D.toInt_int, D.toList_list, D.ints_ofInts, i64min, i64max, u8min, u8max, u16min, u16max, u32min, u32max, u64min, u64max, i32min, i32max, Om.sub, selI, ints_app, ints_cut, ints_upd, ints_rep, ints_splice, ints_seg, len_ints]
        omega
      · simp only [bitL_d1, F3, allTold', dutiesTold, factsA, factsC, factsP, factsR, AV.facts, RW.facts, inK, and_true, Q.holds', E.i, E.s, E.n, D.nat, E.den, BO.den, UO.den, TO.den, D.toInt_int, D.toList_list, D.ints_ofInts, i64min, i64max, u8min, u8max, u16min, u16max, u32min, u32max, u64min, u64max, i32min, i32max, Om.sub, selI, ints_app, ints_cut, ints_upd, ints_rep, ints_splice, ints_seg, len_ints]
        rw [bits_step _ (d 1).toInt _ (by omega)]
        unfold bitI
        rw [if_pos g]
      · simp only [bitL, bitL_h1_0, bitL_h1_1, bitL_h1_2, bitL_h1_3, bitL_h1_4, bitL_h1_5, bitL_h1_6, bitL_h1_7, allTold', dutiesTold, factsA, factsC, factsP, factsR, AV.facts, RW.facts, inK, and_true, Q.holds', E.i, E.s, E.n, D.nat, E.den, BO.den, UO.den, TO.den, D.toInt_int, D.toList_list, D.ints_ofInts, i64min, i64max, u8min, u8max, u16min, u16max, u32min, u32max, u64min, u64max, i32min, i32max, Om.sub, selI, ints_app, ints_cut, ints_upd, ints_rep, ints_splice, ints_seg, len_ints]
        omega
      · simp only [bitL_h1_0, bitL_h1_1, bitL_h1_2, bitL_h1_3, bitL_h1_4, bitL_h1_5, bitL_h1_6, bitL_h1_7, allTold', dutiesTold, factsA, factsC, factsP, factsR, AV.facts, RW.facts, inK, and_true, Q.holds', E.i, E.s, E.n, D.nat, E.den, BO.den, UO.den, TO.den, D.toInt_int, D.toList_list, D.ints_ofInts, i64min, i64max, u8min, u8max, u16min, u16max, u32min, u32max, u64min, u64max, i32min, i32max, Om.sub, selI, ints_app, ints_cut, ints_upd, ints_rep, ints_splice, ints_seg, len_ints]
        omega
    · refine ⟨tellA bitL_t0, tellA_ok (allTold'_iff.1 ?_), .inr ⟨bitL_h0, _, _, bitL_y0, dutiesTold_ok ?_, allTold'_iff.1 ?_, ?_⟩⟩
      · simp only [bitL_t0, allTold', dutiesTold, factsA, factsC, factsP, factsR, AV.facts, RW.facts, inK, and_true, Q.holds', E.i, E.s, E.n, D.nat, E.den, BO.den, UO.den, TO.den, D.toInt_int, D.toList_list, D.ints_ofInts, i64min, i64max, u8min, u8max, u16min, u16max, u32min, u32max, u64min, u64max, i32min, i32max, Om.sub, selI, ints_app, ints_cut, ints_upd, ints_rep, ints_splice, ints_seg, len_ints]
        omega
      · simp only [bitL_d0, F3, allTold', dutiesTold, factsA, factsC, factsP, factsR, AV.facts, RW.facts, inK, and_true, Q.holds', E.i, E.s, E.n, D.nat, E.den, BO.den, UO.den, TO.den, D.toInt_int, D.toList_list, D.ints_ofInts, i64min, i64max, u8min, u8max, u16min, u16max, u32min, u32max, u64min, u64max, i32min, i32max, Om.sub, selI, ints_app, ints_cut, ints_upd, ints_rep, ints_splice, ints_seg, len_ints]
        rw [bits_step _ (d 1).toInt _ (by omega)]
        unfold bitI
        rw [if_neg g]
      · simp only [bitL, bitL_h0_0, bitL_h0_1, bitL_h0_2, bitL_h0_3, bitL_h0_4, bitL_h0_5, bitL_h0_6, bitL_h0_7, allTold', dutiesTold, factsA, factsC, factsP, factsR, AV.facts, RW.facts, inK, and_true, Q.holds', E.i, E.s, E.n, D.nat, E.den, BO.den, UO.den, TO.den, D.toInt_int, D.toList_list, D.ints_ofInts, i64min, i64max, u8min, u8max, u16min, u16max, u32min, u32max, u64min, u64max, i32min, i32max, Om.sub, selI, ints_app, ints_cut, ints_upd, ints_rep, ints_splice, ints_seg, len_ints]
        omega
      · simp only [bitL_h0_0, bitL_h0_1, bitL_h0_2, bitL_h0_3, bitL_h0_4, bitL_h0_5, bitL_h0_6, bitL_h0_7, allTold', dutiesTold, factsA, factsC, factsP, factsR, AV.facts, RW.facts, inK, and_true, Q.holds', E.i, E.s, E.n, D.nat, E.den, BO.den, UO.den, TO.den, D.toInt_int, D.toList_list, D.ints_ofInts, i64min, i64max, u8min, u8max, u16min, u16max, u32min, u32max, u64min, u64max, i32min, i32max, Om.sub, selI, ints_app, ints_cut, ints_upd, ints_rep, ints_splice, ints_seg, len_ints]
        omega

def bitLO : LSpec := { n := 35, next := 2, pat := [(5, .sint .i64 (.var 0)), (3, .sint .u32 (.var 1)), (4, .sint .i64 (.var 4)), (0, .sslice 3 (.var 5) (.var 6) (.var 7) true)], rows := [(3, .eseq ⟨.u8, .var 3, .var 2⟩)], pre := [(.le (.int 0) (.var 0), true), (.le (.var 0) (.int 8), true), (.le (.int 0) (.var 4), true), (.le (.var 6) (.var 4), false), (.le (.bi .add (.var 5) (.var 6)) (.var 3), true)], x := 2, fin := [(3, .sint .u32 (.fn 3 (argsE [.var 0, .var 1, .bi .sel (.var 2) (.bi .add (.var 5) (.var 4))]))), (4, .sint .i64 (.var 4)), (0, .sslice 3 (.var 5) (.var 6) (.var 7) true)], frows := [], same := [3], chg := [0, 3, 4, 5, 6, 13, 14, 15, 16, 17, 18, 19, 20, 21, 22, 23, 24, 25, 26, 27, 28, 29, 30, 31, 32] }
def bitLO_t0 : List (Q × Bool) := [asG20, asG21, asG22, asG23, asG24, asG25, asG26, asG27]
def bitLO_d0 : List Duty := [(true, (.fn 3 (.bi .pair (.bi .add (.var 0) (.int 1)) (.bi .pair (.bi (.iop .xor .u32) (.bi (.iop .shr .u32) (.var 1) (.int 1)) (.int 3988292384)) (.bi .pair (.bi .sel (.var 2) (.bi .add (.var 5) (.var 4))) (.int 0))))), (.fn 3 (.bi .pair (.var 0) (.bi .pair (.var 1) (.bi .pair (.bi .sel (.var 2) (.bi .add (.var 5) (.var 4))) (.int 0))))))]
def bitLO_h0 : List (Nat × E) := [(3, (.var 3)), (2, (.var 2)), (5, (.var 5)), (6, (.var 6)), (7, (.var 7)), (4, (.var 4)), (1, (.bi (.iop .xor .u32) (.bi (.iop .shr .u32) (.var 1) (.int 1)) (.int 3988292384))), (0, (.bi .add (.var 0) (.int 1)))]
theorem bitLO_h0_0 : lookE bitLO_h0 0 = (.bi .add (.var 0) (.int 1)) := rfl
theorem bitLO_h0_1 : lookE bitLO_h0 1 = (.bi (.iop .xor .u32) (.bi (.iop .shr .u32) (.var 1) (.int 1)) (.int 3988292384)) := rfl
theorem bitLO_h0_2 : lookE bitLO_h0 2 = (.var 2) := rfl
theorem bitLO_h0_3 : lookE bitLO_h0 3 = (.var 3) := rfl
theorem bitLO_h0_4 : lookE bitLO_h0 4 = (.var 4) := rfl
theorem bitLO_h0_5 : lookE bitLO_h0 5 = (.var 5) := rfl
theorem bitLO_h0_6 : lookE bitLO_h0 6 = (.var 6) := rfl
theorem bitLO_h0_7 : lookE bitLO_h0 7 = (.var 7) := rfl
theorem bitLO_y0 : nextD bitLO bitLO_h0 [(3, 3)] (roundC Tryd.prog [⟨50, [4, 1, 0, 1, 1, 1], moreL⟩, ⟨50, [4, 1, 0, 1, 1, 1], moreLO⟩, ⟨49, [4, 1, 4, 0, 1, 5, 4, 1, 0, 1, 1], bitL⟩] [(52, tableC), (50, moreC), (50, moreCO), (23, pickC), (29, putC), (29, putCO)] [] 3000 40 49 [4, 1, 4, 0, 1, 5, 4, 1, 0, 1, 1] (tellA bitLO_t0) bitLO) = some bitLO_d0 := by kernel_rfl
def bitLO_t1 : List (Q × Bool) := [asG20, asG21, asG22, asG23, asG24, asG25, asG28, asG27]
def bitLO_d1 : List Duty := [(true, (.fn 3 (.bi .pair (.bi .add (.var 0) (.int 1)) (.bi .pair (.bi (.iop .shr .u32) (.var 1) (.int 1)) (.bi .pair (.bi .sel (.var 2) (.bi .add (.var 5) (.var 4))) (.int 0))))), (.fn 3 (.bi .pair (.var 0) (.bi .pair (.var 1) (.bi .pair (.bi .sel (.var 2) (.bi .add (.var 5) (.var 4))) (.int 0))))))]
def bitLO_h1 : List (Nat × E) := [(3, (.var 3)), (2, (.var 2)), (5, (.var 5)), (6, (.var 6)), (7, (.var 7)), (4, (.var 4)), (1, (.bi (.iop .shr .u32) (.var 1) (.int 1))), (0, (.bi .add (.var 0) (.int 1)))]
theorem bitLO_h1_0 : lookE bitLO_h1 0 = (.bi .add (.var 0) (.int 1)) := rfl
theorem bitLO_h1_1 : lookE bitLO_h1 1 = (.bi (.iop .shr .u32) (.var 1) (.int 1)) := rfl
theorem bitLO_h1_2 : lookE bitLO_h1 2 = (.var 2) := rfl
theorem bitLO_h1_3 : lookE bitLO_h1 3 = (.var 3) := rfl
theorem bitLO_h1_4 : lookE bitLO_h1 4 = (.var 4) := rfl
theorem bitLO_h1_5 : lookE bitLO_h1 5 = (.var 5) := rfl
theorem bitLO_h1_6 : lookE bitLO_h1 6 = (.var 6) := rfl
theorem bitLO_h1_7 : lookE bitLO_h1 7 = (.var 7) := rfl
theorem bitLO_y1 : nextD bitLO bitLO_h1 [(3, 3)] (roundC Tryd.prog [⟨50, [4, 1, 0, 1, 1, 1], moreL⟩, ⟨50, [4, 1, 0, 1, 1, 1], moreLO⟩, ⟨49, [4, 1, 4, 0, 1, 5, 4, 1, 0, 1, 1], bitL⟩] [(52, tableC), (50, moreC), (50, moreCO), (23, pickC), (29, putC), (29, putCO)] [] 3000 40 49 [4, 1, 4, 0, 1, 5, 4, 1, 0, 1, 1] (tellA bitLO_t1) bitLO) = some bitLO_d1 := by kernel_rfl
def bitLO_t2 : List (Q × Bool) := [asG29]
def bitLO_d2 : List Duty := [(true, (.var 1), (.fn 3 (.bi .pair (.var 0) (.bi .pair (.var 1) (.bi .pair (.bi .sel (.var 2) (.bi .add (.var 5) (.var 4))) (.int 0))))))]
theorem bitLO_y2 : endD bitLO [(3, 3)] 1000 (roundC Tryd.prog [⟨50, [4, 1, 0, 1, 1, 1], moreL⟩, ⟨50, [4, 1, 0, 1, 1, 1], moreLO⟩, ⟨49, [4, 1, 4, 0, 1, 5, 4, 1, 0, 1, 1], bitL⟩] [(52, tableC), (50, moreC), (50, moreCO), (23, pickC), (29, putC), (29, putCO)] [] 3000 40 49 [4, 1, 4, 0, 1, 5, 4, 1, 0, 1, 1] (tellA bitLO_t2) bitLO) = some bitLO_d2 := by kernel_rfl
theorem bitLO_holds : LHolds Tryd.prog (loopAt Tryd.prog 49 [4, 1, 4, 0, 1, 5, 4, 1, 0, 1, 1]) bitLO F := by
  refine loop_roundsC sound (tableCons moreL_holds (tableCons moreLO_holds (tableCons bitL_holds (tableNil _ _)))) (specsCons tableC_holds (specsCons moreC_holds (specsCons moreCO_holds (specsCons pickC_holds (specsCons putC_holds (specsCons putCO_holds (specsNil _ _))))))) (oversNil _ _) (fuel := 3000) (depth := 40) (by kernel_rfl) (by kernel_rfl) (by kernel_rfl) (fun d => (8 - (d 0).toInt).toNat) fun d hp hR hA => ?_
  have hp := allTold'_iff.2 hp
  simp only [bitLO, allTold', dutiesTold, factsA, factsC, factsP, factsR, AV.facts, RW.facts, inK, and_true, Q.holds', E.i, E.s, E.n, D.nat, E.den, BO.den, UO.den, TO.den, D.toInt_int, D.toList_list, D.ints_ofInts, i64min, i64max, u8min, u8max, u16min, u16max, u32min, u32max, u64min, u64max, i32min, i32max, Om.sub, selI, ints_app, ints_cut, ints_upd, ints_rep, ints_splice, ints_seg, len_ints] at hp hR hA
  by_cases h : 8 ≤ (d 0).toInt
  · refine ⟨tellA bitLO_t2, tellA_ok (allTold'_iff.1 ?_), .inl ⟨_, _, _, bitLO_y2, dutiesTold_ok ?_⟩⟩
    · simp only [bitLO_t2, allTold', dutiesTold, factsA, factsC, factsP, factsR, AV.facts, RW.facts, inK, and_true, Q.holds', E.i, E.s, E.n, D.nat, E.den, BO.den, UO.den, TO.den, D.toInt_int, D.toList_list, D.ints_ofInts, i64min, i64max, u8min, u8max, u16min, u16max, u32min, u32max, u64min, u64max, i32min, i32max, Om.sub, selI, ints_app, ints_cut, ints_upd, ints_rep, ints_splice, ints_seg, len_ints]
      omega
    · simp only [bitLO_d2, F3, allTold', dutiesTold, factsA, factsC, factsP, factsR, AV.facts, RW.facts, inK, and_true, Q.holds', E.i, E.s, E.n, D.nat, E.den, BO.den, UO.den, TO.den, D.toInt_int, D.toList_list, D.ints_ofInts, i64min, i64max, u8min, u8max, u16min, u16max, u32min, u32max, u64min, u64max, i32min, i32max, Om.sub, selI, ints_app, ints_cut, ints_upd, ints_rep, ints_splice, ints_seg, len_ints]
      rw [show (8 - (d 0).toInt).toNat = 0 by omega]
      rfl
  · by_cases g : iopI .rem .u32 (d 1).toInt 2 = iopI .rem .u32 (iopI .shr .u8 (((d 2).ints[((d 5).toInt + (d 4).toInt).toNat]?).getD 0) (d 0).toInt) 2
    · refine ⟨tellA bitLO_t1, tellA_ok (allTold'_iff.1 ?_), .inr ⟨bitLO_h1, _, _, bitLO_y1, dutiesTold_ok ?_, allTold'_iff.1 ?_, ?_⟩⟩
      · simp only [bitLO_t1, allTold', dutiesTold, factsA, factsC, factsP, factsR, AV.facts, RW.facts, inK, and_true, Q.holds', E.i, E.s, E.n, D.nat, E.den, BO.den, UO.den, TO.den, D.toInt_int, D.toList_list, D.ints_ofInts, i64min, i64max, u8min, u8max, u16min, u16max, u32min, u32max, u64min, u64max, i32min, i32max, Om.sub, selI, ints_app, ints_cut, ints_upd, ints_rep, ints_splice, ints_seg, len_ints]
        omega
      · simp only [bitLO_d1, F3, allTold', dutiesTold, factsA, factsC, factsP, factsR, AV.facts, RW.facts, inK, and_true, Q.holds', E.i, E.s, E.n, D.nat, E.den, BO.den, UO.den, TO.den, D.toInt_int, D.toList_list, D.ints_ofInts, i64min, i64max, u8min, u8max, u16min, u16max, u32min, u32max, u64min, u64max, i32min, i32max, Om.sub, selI, ints_app, ints_cut, ints_upd, ints_rep, ints_splice, ints_seg, len_ints]
        rw [bits_step _ (d 1).toInt _ (by omega)]
        unfold bitI
        rw [if_pos g]
      · simp only [bitLO, bitLO_h1_0, bitLO_h1_1, bitLO_h1_2, bitLO_h1_3, bitLO_h1_4, bitLO_h1_5, bitLO_h1_6, bitLO_h1_7, allTold', dutiesTold, factsA, factsC, factsP, factsR, AV.facts, RW.facts, inK, and_true, Q.holds', E.i, E.s, E.n, D.nat, E.den, BO.den, UO.den, TO.den, D.toInt_int, D.toList_list, D.ints_ofInts, i64min, i64max, u8min, u8max, u16min, u16max, u32min, u32max, u64min, u64max, i32min, i32max, Om.sub, selI, ints_app, ints_cut, ints_upd, ints_rep, ints_splice, ints_seg, len_ints]
        omega
      · simp only [bitLO_h1_0, bitLO_h1_1, bitLO_h1_2, bitLO_h1_3, bitLO_h1_4, bitLO_h1_5, bitLO_h1_6, bitLO_h1_7, allTold', dutiesTold, factsA, factsC, factsP, factsR, AV.facts, RW.facts, inK, and_true, Q.holds', E.i, E.s, E.n, D.nat, E.den, BO.den, UO.den, TO.den, D.toInt_int, D.toList_list, D.ints_ofInts, i64min, i64max, u8min, u8max, u16min, u16max, u32min, u32max, u64min, u64max, i32min, i32max, Om.sub, selI, ints_app, ints_cut, ints_upd, ints_rep, ints_splice, ints_seg, len_ints]
        omega
    · refine ⟨tellA bitLO_t0, tellA_ok (allTold'_iff.1 ?_), .inr ⟨bitLO_h0, _, _, bitLO_y0, dutiesTold_ok ?_, allTold'_iff.1 ?_, ?_⟩⟩
      · simp only [bitLO_t0, allTold', dutiesTold, factsA, factsC, factsP, factsR, AV.facts, RW.facts, inK, and_true, Q.holds', E.i, E.s, E.n, D.nat, E.den, BO.den, UO.den, TO.den, D.toInt_int, D.toList_list, D.ints_ofInts, i64min, i64max, u8min, u8max, u16min, u16max, u32min, u32max, u64min, u64max, i32min, i32max, Om.sub, selI, ints_app, ints_cut, ints_upd, ints_rep, ints_splice, ints_seg, len_ints]
        omega
      · simp only [bitLO_d0, F3, allTold', dutiesTold, factsA, factsC, factsP, factsR, AV.facts, RW.facts, inK, and_true, Q.holds', E.i, E.s, E.n, D.nat, E.den, BO.den, UO.den, TO.den, D.toInt_int, D.toList_list, D.ints_ofInts, i64min, i64max, u8min, u8max, u16min, u16max, u32min, u32max, u64min, u64max, i32min, i32max, Om.sub, selI, ints_app, ints_cut, ints_upd, ints_rep, ints_splice, ints_seg, len_ints]
        rw [bits_step _ (d 1).toInt _ (by omega)]
        unfold bitI
        rw [if_neg g]
      · simp only [bitLO, bitLO_h0_0, bitLO_h0_1, bitLO_h0_2, bitLO_h0_3, bitLO_h0_4, bitLO_h0_5, bitLO_h0_6, bitLO_h0_7, allTold', dutiesTold, factsA, factsC, factsP, factsR, AV.facts, RW.facts, inK, and_true, Q.holds', E.i, E.s, E.n, D.nat, E.den, BO.den, UO.den, TO.den, D.toInt_int, D.toList_list, D.ints_ofInts, i64min, i64max, u8min, u8max, u16min, u16max, u32min, u32max, u64min, u64max, i32min, i32max, Om.sub, selI, ints_app, ints_cut, ints_upd, ints_rep, ints_splice, ints_seg, len_ints]
        omega
      · simp only [bitLO_h0_0, bitLO_h0_1, bitLO_h0_2, bitLO_h0_3, bitLO_h0_4, bitLO_h0_5, bitLO_h0_6, bitLO_h0_7, allTold', dutiesTold, factsA, factsC, factsP, factsR, AV.facts, RW.facts, inK, and_true, Q.holds', E.i, E.s, E.n, D.nat, E.den, BO.den, UO.den, TO.den, D.toInt_int, D.toList_list, D.ints_ofInts, i64min, i64max, u8min, u8max, u16min, u16max, u32min, u32max, u64min, u64max, i32min, i32max, Om.sub, selI, ints_app, ints_cut, ints_upd, ints_rep, ints_splice, ints_seg, len_ints]
        omega

def refL : LSpec := { n := 35, next := 2, pat := [(4, .sint .i64 (.var 0)), (3, .sint .u32 (.var 1)), (0, .sslice 3 (.var 5) (.var 6) (.var 7) false)], rows := [(3, .eseq ⟨.u8, .var 3, .var 2⟩)], pre := [(.le (.int 0) (.var 0), true), (.le (.var 0) (.var 6), true), (.le (.bi .add (.var 5) (.var 6)) (.var 3), true), (.le (.var 6) (.int 1000000), true)], x := 0, fin := [(3, .sint .u32 (.fn 4 (argsE [.var 1, .var 2, .bi .add (.var 5) (.var 0), .bi .add (.var 5) (.var 6)])))], frows := [], same := [3], chg := [0, 3, 4, 5, 6, 7, 8, 9, 10, 11, 12, 13, 14, 15, 16, 17, 18, 19, 20, 21, 22, 23, 24, 25, 26, 27, 28, 29, 30, 31, 32] }
abbrev asG210 : Q × Bool := ((.fit .i64 (.var 6)), true)
abbrev asG211 : Q × Bool := ((.le (.var 6) (.var 0)), false)
abbrev asG212 : Q × Bool := ((.le (.bi .add (.var 5) (.var 6)) (.var 3)), true)
def refL_t0 : List (Q × Bool) := [asG210, asG211, asG25, asG212, asG27]
def refL_d0 : List Duty := [(true, (.fn 4 (.bi .pair (.fn 3 (.bi .pair (.int 0) (.bi .pair (.var 1) (.bi .pair (.bi .sel (.var 2) (.bi .add (.var 5) (.var 0))) (.int 0))))) (.bi .pair (.var 2) (.bi .pair (.bi .add (.var 5) (.bi .add (.var 0) (.int 1))) (.bi .pair (.bi .add (.var 5) (.var 6)) (.int 0)))))), (.fn 4 (.bi .pair (.var 1) (.bi .pair (.var 2) (.bi .pair (.bi .add (.var 5) (.var 0)) (.bi .pair (.bi .add (.var 5) (.var 6)) (.int 0)))))))]
def refL_h0 : List (Nat × E) := [(3, (.var 3)), (2, (.var 2)), (5, (.var 5)), (6, (.var 6)), (7, (.var 7)), (1, (.fn 3 (.bi .pair (.int 0) (.bi .pair (.var 1) (.bi .pair (.bi .sel (.var 2) (.bi .add (.var 5) (.var 0))) (.int 0)))))), (0, (.bi .add (.var 0) (.int 1)))]
theorem refL_h0_0 : lookE refL_h0 0 = (.bi .add (.var 0) (.int 1)) := rfl
theorem refL_h0_1 : lookE refL_h0 1 = (.fn 3 (.bi .pair (.int 0) (.bi .pair (.var 1) (.bi .pair (.bi .sel (.var 2) (.bi .add (.var 5) (.var 0))) (.int 0))))) := rfl
theorem refL_h0_2 : lookE refL_h0 2 = (.var 2) := rfl
theorem refL_h0_3 : lookE refL_h0 3 = (.var 3) := rfl
theorem refL_h0_5 : lookE refL_h0 5 = (.var 5) := rfl
theorem refL_h0_6 : lookE refL_h0 6 = (.var 6) := rfl
theorem refL_h0_7 : lookE refL_h0 7 = (.var 7) := rfl
theorem refL_y0 : nextD refL refL_h0 [(3, 3)] (roundC Tryd.prog [⟨50, [4, 1, 0, 1, 1, 1], moreL⟩, ⟨50, [4, 1, 0, 1, 1, 1], moreLO⟩, ⟨49, [4, 1, 4, 0, 1, 5, 4, 1, 0, 1, 1], bitL⟩, ⟨49, [4, 1, 4, 0, 1, 5, 4, 1, 0, 1, 1], bitLO⟩] [(52, tableC), (50, moreC), (50, moreCO), (23, pickC), (29, putC), (29, putCO)] [] 3000 40 49 [4, 1, 0, 1, 1] (tellA refL_t0) refL) = some refL_d0 := by kernel_rfl
abbrev asG213 : Q × Bool := ((.le (.var 6) (.var 0)), true)
def refL_t1 : List (Q × Bool) := [asG210, asG213]
def refL_d1 : List Duty := [(true, (.var 1), (.fn 4 (.bi .pair (.var 1) (.bi .pair (.var 2) (.bi .pair (.bi .add (.var 5) (.var 0)) (.bi .pair (.bi .add (.var 5) (.var 6)) (.int 0)))))))]
theorem refL_y1 : endD refL [(3, 3)] 1000 (roundC Tryd.prog [⟨50, [4, 1, 0, 1, 1, 1], moreL⟩, ⟨50, [4, 1, 0, 1, 1, 1], moreLO⟩, ⟨49, [4, 1, 4, 0, 1, 5, 4, 1, 0, 1, 1], bitL⟩, ⟨49, [4, 1, 4, 0, 1, 5, 4, 1, 0, 1, 1], bitLO⟩] [(52, tableC), (50, moreC), (50, moreCO), (23, pickC), (29, putC), (29, putCO)] [] 3000 40 49 [4, 1, 0, 1, 1] (tellA refL_t1) refL) = some refL_d1 := by kernel_rfl
theorem refL_holds : LHolds Tryd.prog (loopAt Tryd.prog 49 [4, 1, 0, 1, 1]) refL F := by
  refine loop_roundsC sound (tableCons moreL_holds (tableCons moreLO_holds (tableCons bitL_holds (tableCons bitLO_holds (tableNil _ _))))) (specsCons tableC_holds (specsCons moreC_holds (specsCons moreCO_holds (specsCons pickC_holds (specsCons putC_holds (specsCons putCO_holds (specsNil _ _))))))) (oversNil _ _) (fuel := 3000) (depth := 40) (by kernel_rfl) (by kernel_rfl) (by kernel_rfl) (fun d => ((d 6).toInt - (d 0).toInt).toNat) fun d hp hR hA => ?_
  have hp := allTold'_iff.2 hp
  simp only [refL, allTold', dutiesTold, factsA, factsC, factsP, factsR, AV.facts, RW.facts, inK, and_true, Q.holds', E.i, E.s, E.n, D.nat, E.den, BO.den, UO.den, TO.den, D.toInt_int, D.toList_list, D.ints_ofInts, i64min, i64max, u8min, u8max, u16min, u16max, u32min, u32max, u64min, u64max, i32min, i32max, Om.sub, selI, ints_app, ints_cut, ints_upd, ints_rep, ints_splice, ints_seg, len_ints] at hp hR hA
  by_cases h : (d 6).toInt ≤ (d 0).toInt
  · refine ⟨tellA refL_t1, tellA_ok (allTold'_iff.1 ?_), .inl ⟨_, _, _, refL_y1, dutiesTold_ok ?_⟩⟩
    · simp only [refL_t1, allTold', dutiesTold, factsA, factsC, factsP, factsR, AV.facts, RW.facts, inK, and_true, Q.holds', E.i, E.s, E.n, D.nat, E.den, BO.den, UO.den, TO.den, D.toInt_int, D.toList_list, D.ints_ofInts, i64min, i64max, u8min, u8max, u16min, u16max, u32min, u32max, u64min, u64max, i32min, i32max, Om.sub, selI, ints_app, ints_cut, ints_upd, ints_rep, ints_splice, ints_seg, len_ints]
      omega
    · simp only [refL_d1, F4, allTold', dutiesTold, factsA, factsC, factsP, factsR, AV.facts, RW.facts, inK, and_true, Q.holds', E.i, E.s, E.n, D.nat, E.den, BO.den, UO.den, TO.den, D.toInt_int, D.toList_list, D.ints_ofInts, i64min, i64max, u8min, u8max, u16min, u16max, u32min, u32max, u64min, u64max, i32min, i32max, Om.sub, selI, ints_app, ints_cut, ints_upd, ints_rep, ints_splice, ints_seg, len_ints]
      rw [prt_nil (by omega) (by omega)]
      rfl
  · refine ⟨tellA refL_t0, tellA_ok (allTold'_iff.1 ?_), .inr ⟨refL_h0, _, _, refL_y0, dutiesTold_ok ?_, allTold'_iff.1 ?_, ?_⟩⟩
    · simp only [refL_t0, allTold', dutiesTold, factsA, factsC, factsP, factsR, AV.facts, RW.facts, inK, and_true, Q.holds', E.i, E.s, E.n, D.nat, E.den, BO.den, UO.den, TO.den, D.toInt_int, D.toList_list, D.ints_ofInts, i64min, i64max, u8min, u8max, u16min, u16max, u32min, u32max, u64min, u64max, i32min, i32max, Om.sub, selI, ints_app, ints_cut, ints_upd, ints_rep, ints_splice, ints_seg, len_ints]
      omega
    · simp only [refL_d0, F4, F3, allTold', dutiesTold, factsA, factsC, factsP, factsR, AV.facts, RW.facts, inK, and_true, Q.holds', E.i, E.s, E.n, D.nat, E.den, BO.den, UO.den, TO.den, D.toInt_int, D.toList_list, D.ints_ofInts, i64min, i64max, u8min, u8max, u16min, u16max, u32min, u32max, u64min, u64max, i32min, i32max, Om.sub, selI, ints_app, ints_cut, ints_upd, ints_rep, ints_splice, ints_seg, len_ints]
      rw [prt_step (x := (d 2).ints) (o := (d 5).toInt + (d 0).toInt) (by omega) (by omega) (by omega), Int.add_assoc]
      rfl
    · simp only [refL, refL_h0_0, refL_h0_1, refL_h0_2, refL_h0_3, refL_h0_5, refL_h0_6, refL_h0_7, allTold', dutiesTold, factsA, factsC, factsP, factsR, AV.facts, RW.facts, inK, and_true, Q.holds', E.i, E.s, E.n, D.nat, E.den, BO.den, UO.den, TO.den, D.toInt_int, D.toList_list, D.ints_ofInts, i64min, i64max, u8min, u8max, u16min, u16max, u32min, u32max, u64min, u64max, i32min, i32max, Om.sub, selI, ints_app, ints_cut, ints_upd, ints_rep, ints_splice, ints_seg, len_ints]
      omega
    · simp only [refL_h0_0, refL_h0_1, refL_h0_2, refL_h0_3, refL_h0_5, refL_h0_6, refL_h0_7, allTold', dutiesTold, factsA, factsC, factsP, factsR, AV.facts, RW.facts, inK, and_true, Q.holds', E.i, E.s, E.n, D.nat, E.den, BO.den, UO.den, TO.den, D.toInt_int, D.toList_list, D.ints_ofInts, i64min, i64max, u8min, u8max, u16min, u16max, u32min, u32max, u64min, u64max, i32min, i32max, Om.sub, selI, ints_app, ints_cut, ints_upd, ints_rep, ints_splice, ints_seg, len_ints]
      omega

def refLO : LSpec := { n := 35, next := 2, pat := [(4, .sint .i64 (.var 0)), (3, .sint .u32 (.var 1)), (0, .sslice 3 (.var 5) (.var 6) (.var 7) true)], rows := [(3, .eseq ⟨.u8, .var 3, .var 2⟩)], pre := [(.le (.int 0) (.var 0), true), (.le (.var 0) (.var 6), true), (.le (.bi .add (.var 5) (.var 6)) (.var 3), true), (.le (.var 6) (.int 1000000), true)], x := 0, fin := [(3, .sint .u32 (.fn 4 (argsE [.var 1, .var 2, .bi .add (.var 5) (.var 0), .bi .add (.var 5) (.var 6)])))], frows := [], same := [3], chg := [0, 3, 4, 5, 6, 7, 8, 9, 10, 11, 12, 13, 14, 15, 16, 17, 18, 19, 20, 21, 22, 23, 24, 25, 26, 27, 28, 29, 30, 31, 32] }
def refLO_t0 : List (Q × Bool) := [asG210, asG211, asG25, asG212, asG27]
def refLO_d0 : List Duty := [(true, (.fn 4 (.bi .pair (.fn 3 (.bi .pair (.int 0) (.bi .pair (.var 1) (.bi .pair (.bi .sel (.var 2) (.bi .add (.var 5) (.var 0))) (.int 0))))) (.bi .pair (.var 2) (.bi .pair (.bi .add (.var 5) (.bi .add (.var 0) (.int 1))) (.bi .pair (.bi .add (.var 5) (.var 6)) (.int 0)))))), (.fn 4 (.bi .pair (.var 1) (.bi .pair (.var 2) (.bi .pair (.bi .add (.var 5) (.var 0)) (.bi .pair (.bi .add (.var 5) (.var 6)) (.int 0)))))))]
def refLO_h0 : List (Nat × E) := [(3, (.var 3)), (2, (.var 2)), (5, (.var 5)), (6, (.var 6)), (7, (.var 7)), (1, (.fn 3 (.bi .pair (.int 0) (.bi .pair (.var 1) (.bi .pair (.bi .sel (.var 2) (.bi .add (.var 5) (.var 0))) (.int 0)))))), (0, (.bi .add (.var 0) (.int 1)))]
theorem refLO_h0_0 : lookE refLO_h0 0 = (.bi .add (.var 0) (.int 1)) := rfl
theorem refLO_h0_1 : lookE refLO_h0 1 = (.fn 3 (.bi .pair (.int 0) (.bi .pair (.var 1) (.bi .pair (.bi .sel (.var 2) (.bi .add (.var 5) (.var 0))) (.int 0))))) := rfl
theorem refLO_h0_2 : lookE refLO_h0 2 = (.var 2) := rfl
theorem refLO_h0_3 : lookE refLO_h0 3 = (.var 3) := rfl
theorem refLO_h0_5 : lookE refLO_h0 5 = (.var 5) := rfl
theorem refLO_h0_6 : lookE refLO_h0 6 = (.var 6) := rfl
theorem refLO_h0_7 : lookE refLO_h0 7 = (.var 7) := rfl
theorem refLO_y0 : nextD refLO refLO_h0 [(3, 3)] (roundC Tryd.prog [⟨50, [4, 1, 0, 1, 1, 1], moreL⟩, ⟨50, [4, 1, 0, 1, 1, 1], moreLO⟩, ⟨49, [4, 1, 4, 0, 1, 5, 4, 1, 0, 1, 1], bitL⟩, ⟨49, [4, 1, 4, 0, 1, 5, 4, 1, 0, 1, 1], bitLO⟩, ⟨49, [4, 1, 0, 1, 1], refL⟩] [(52, tableC), (50, moreC), (50, moreCO), (23, pickC), (29, putC), (29, putCO)] [] 3000 40 49 [4, 1, 0, 1, 1] (tellA refLO_t0) refLO) = some refLO_d0 := by kernel_rfl
def refLO_t1 : List (Q × Bool) := [asG210, asG213]
def refLO_d1 : List Duty := [(true, (.var 1), (.fn 4 (.bi .pair (.var 1) (.bi .pair (.var 2) (.bi .pair (.bi .add (.var 5) (.var 0)) (.bi .pair (.bi .add (.var 5) (.var 6)) (.int 0)))))))]
theorem refLO_y1 : endD refLO [(3, 3)] 1000 (roundC Tryd.prog [⟨50, [4, 1, 0, 1, 1, 1], moreL⟩, ⟨50, [4, 1, 0, 1, 1, 1], moreLO⟩, ⟨49, [4, 1, 4, 0, 1, 5, 4, 1, 0, 1, 1], bitL⟩, ⟨49, [4, 1, 4, 0, 1, 5, 4, 1, 0, 1, 1], bitLO⟩, ⟨49, [4, 1, 0, 1, 1], refL⟩] [(52, tableC), (50, moreC), (50, moreCO), (23, pickC), (29, putC), (29, putCO)] [] 3000 40 49 [4, 1, 0, 1, 1] (tellA refLO_t1) refLO) = some refLO_d1 := by kernel_rfl
theorem refLO_holds : LHolds Tryd.prog (loopAt Tryd.prog 49 [4, 1, 0, 1, 1]) refLO F := by
  refine loop_roundsC sound (tableCons moreL_holds (tableCons moreLO_holds (tableCons bitL_holds (tableCons bitLO_holds (tableCons refL_holds (tableNil _ _)))))) (specsCons tableC_holds (specsCons moreC_holds (specsCons moreCO_holds (specsCons pickC_holds (specsCons putC_holds (specsCons putCO_holds (specsNil _ _))))))) (oversNil _ _) (fuel := 3000) (depth := 40) (by kernel_rfl) (by kernel_rfl) (by kernel_rfl) (fun d => ((d 6).toInt - (d 0).toInt).toNat) fun d hp hR hA => ?_
  have hp := allTold'_iff.2 hp
  simp only [refLO, allTold', dutiesTold, factsA, factsC, factsP, factsR, AV.facts, RW.facts, inK, and_true, Q.holds', E.i, E.s, E.n, D.nat, E.den, BO.den, UO.den, TO.den, D.toInt_int, D.toList_list, D.ints_ofInts, i64min, i64max, u8min, u8max, u16min, u16max, u32min, u32max, u64min, u64max, i32min, i32max, Om.sub, selI, ints_app, ints_cut, ints_upd, ints_rep, ints_splice, ints_seg, len_ints] at hp hR hA
  by_cases h : (d 6).toInt ≤ (d 0).toInt
  · refine ⟨tellA refLO_t1, tellA_ok (allTold'_iff.1 ?_), .inl ⟨_, _, _, refLO_y1, dutiesTold_ok ?_⟩⟩
    · simp only [refLO_t1, allTold', dutiesTold, factsA, factsC, factsP, factsR, AV.facts, RW.facts, inK, and_true, Q.holds', E.i, E.s, E.n, D.nat, E.den, BO.den, UO.den, TO.den, D.toInt_int, D.toList_list, D.ints_ofInts, i64min, i64max, u8min, u8max, u16min, u16max, u32min, u32max, u64min, u64max, i32min, i32max, Om.sub, selI, ints_app, ints_cut, ints_upd, ints_rep, ints_splice, ints_seg, len_ints]
      omega
    · simp only [refLO_d1, F4, allTold', dutiesTold, factsA, factsC, factsP, factsR, AV.facts, RW.facts, inK, and_true, Q.holds', E.i, E.s, E.n, D.nat, E.den, BO.den, UO.den, TO.den, D.toInt_int, D.toList_list, D.ints_ofInts, i64min, i64max, u8min, u8max, u16min, u16max, u32min, u32max, u64min, u64max, i32min, i32max, Om.sub, selI, ints_app, ints_cut, ints_upd, ints_rep, ints_splice, ints_seg, len_ints]
      rw [prt_nil (by omega) (by omega)]
      rfl
  · refine ⟨tellA refLO_t0, tellA_ok (allTold'_iff.1 ?_), .inr ⟨refLO_h0, _, _, refLO_y0, dutiesTold_ok ?_, allTold'_iff.1 ?_, ?_⟩⟩
    · simp only [refLO_t0, allTold', dutiesTold, factsA, factsC, factsP, factsR, AV.facts, RW.facts, inK, and_true, Q.holds', E.i, E.s, E.n, D.nat, E.den, BO.den, UO.den, TO.den, D.toInt_int, D.toList_list, D.ints_ofInts, i64min, i64max, u8min, u8max, u16min, u16max, u32min, u32max, u64min, u64max, i32min, i32max, Om.sub, selI, ints_app, ints_cut, ints_upd, ints_rep, ints_splice, ints_seg, len_ints]
      omega
    · simp only [refLO_d0, F4, F3, allTold', dutiesTold, factsA, factsC, factsP, factsR, AV.facts, RW.facts, inK, and_true, Q.holds', E.i, E.s, E.n, D.nat, E.den, BO.den, UO.den, TO.den, D.toInt_int, D.toList_list, D.ints_ofInts, i64min, i64max, u8min, u8max, u16min, u16max, u32min, u32max, u64min, u64max, i32min, i32max, Om.sub, selI, ints_app, ints_cut, ints_upd, ints_rep, ints_splice, ints_seg, len_ints]
      rw [prt_step (x := (d 2).ints) (o := (d 5).toInt + (d 0).toInt) (by omega) (by omega) (by omega), Int.add_assoc]
      rfl
    · simp only [refLO, refLO_h0_0, refLO_h0_1, refLO_h0_2, refLO_h0_3, refLO_h0_5, refLO_h0_6, refLO_h0_7, allTold', dutiesTold, factsA, factsC, factsP, factsR, AV.facts, RW.facts, inK, and_true, Q.holds', E.i, E.s, E.n, D.nat, E.den, BO.den, UO.den, TO.den, D.toInt_int, D.toList_list, D.ints_ofInts, i64min, i64max, u8min, u8max, u16min, u16max, u32min, u32max, u64min, u64max, i32min, i32max, Om.sub, selI, ints_app, ints_cut, ints_upd, ints_rep, ints_splice, ints_seg, len_ints]
      omega
    · simp only [refLO_h0_0, refLO_h0_1, refLO_h0_2, refLO_h0_3, refLO_h0_5, refLO_h0_6, refLO_h0_7, allTold', dutiesTold, factsA, factsC, factsP, factsR, AV.facts, RW.facts, inK, and_true, Q.holds', E.i, E.s, E.n, D.nat, E.den, BO.den, UO.den, TO.den, D.toInt_int, D.toList_list, D.ints_ofInts, i64min, i64max, u8min, u8max, u16min, u16max, u32min, u32max, u64min, u64max, i32min, i32max, Om.sub, selI, ints_app, ints_cut, ints_upd, ints_rep, ints_splice, ints_seg, len_ints]
      omega

def refC : CSpec := { args := [.sslice 3 (.var 1) (.var 2) (.var 3) false], next := 2, rows := [(3, .eseq ⟨.u8, .var 4, .var 5⟩)], pre := [(.le (.bi .add (.var 1) (.var 2)) (.var 4), true), (.le (.var 2) (.int 1000000), true)], res := .sint .u32 (.fn 5 (argsE [.var 5, .var 1, .bi .add (.var 1) (.var 2)])), frows := [], same := [] }
abbrev asG214 : Q × Bool := ((.le (.int 0) (.var 2)), true)
abbrev asG215 : Q × Bool := ((.le (.bi .add (.var 1) (.var 2)) (.var 4)), true)
abbrev asG216 : Q × Bool := ((.le (.var 2) (.int 1000000)), true)
def refC_t0 : List (Q × Bool) := [asG214, asG215, asG216]
def refC_d0 : List Duty := [(true, (.bi (.iop .xor .u32) (.int 4294967295) (.fn 4 (.bi .pair (.int 4294967295) (.bi .pair (.var 5) (.bi .pair (.bi .add (.var 1) (.int 0)) (.bi .pair (.bi .add (.var 1) (.var 2)) (.int 0))))))), (.fn 5 (.bi .pair (.var 5) (.bi .pair (.var 1) (.bi .pair (.bi .add (.var 1) (.var 2)) (.int 0))))))]
theorem refC_y0 : endC refC [] 1000 (callC Tryd.prog (tellA refC_t0) [⟨50, [4, 1, 0, 1, 1, 1], moreL⟩, ⟨50, [4, 1, 0, 1, 1, 1], moreLO⟩, ⟨49, [4, 1, 4, 0, 1, 5, 4, 1, 0, 1, 1], bitL⟩, ⟨49, [4, 1, 4, 0, 1, 5, 4, 1, 0, 1, 1], bitLO⟩, ⟨49, [4, 1, 0, 1, 1], refL⟩, ⟨49, [4, 1, 0, 1, 1], refLO⟩] [(52, tableC), (50, moreC), (50, moreCO), (23, pickC), (29, putC), (29, putCO)] [] 3000 40 49 refC) = some refC_d0 := by kernel_rfl
theorem refC_holds : CHolds Tryd.prog 49 refC F := by
  refine cholds_of sound (tableCons moreL_holds (tableCons moreLO_holds (tableCons bitL_holds (tableCons bitLO_holds (tableCons refL_holds (tableCons refLO_holds (tableNil _ _))))))) (specsCons tableC_holds (specsCons moreC_holds (specsCons moreCO_holds (specsCons pickC_holds (specsCons putC_holds (specsCons putCO_holds (specsNil _ _))))))) (oversNil _ _) (fuel := 3000) (depth := 40) (by kernel_rfl) fun d hp hR hA => ?_
  have hp := allTold'_iff.2 hp
  simp only [refC, allTold', dutiesTold, factsA, factsC, factsP, factsR, AV.facts, RW.facts, inK, and_true, Q.holds', E.i, E.s, E.n, D.nat, E.den, BO.den, UO.den, TO.den, D.toInt_int, D.toList_list, D.ints_ofInts, i64min, i64max, u8min, u8max, u16min, u16max, u32min, u32max, u64min, u64max, i32min, i32max, Om.sub, selI, ints_app, ints_cut, ints_upd, ints_rep, ints_splice, ints_seg, len_ints] at hp hR hA
  refine ⟨tellA refC_t0, _, _, _, tellA_ok (allTold'_iff.1 ?_), refC_y0, dutiesTold_ok ?_⟩
  · simp only [refC_t0, allTold', dutiesTold, factsA, factsC, factsP, factsR, AV.facts, RW.facts, inK, and_true, Q.holds', E.i, E.s, E.n, D.nat, E.den, BO.den, UO.den, TO.den, D.toInt_int, D.toList_list, D.ints_ofInts, i64min, i64max, u8min, u8max, u16min, u16max, u32min, u32max, u64min, u64max, i32min, i32max, Om.sub, selI, ints_app, ints_cut, ints_upd, ints_rep, ints_splice, ints_seg, len_ints]
    omega
  · simp only [refC_d0, F4, F5, Int.add_zero, allTold', dutiesTold, factsA, factsC, factsP, factsR, AV.facts, RW.facts, inK, and_true, Q.holds', E.i, E.s, E.n, D.nat, E.den, BO.den, UO.den, TO.den, D.toInt_int, D.toList_list, D.ints_ofInts, i64min, i64max, u8min, u8max, u16min, u16max, u32min, u32max, u64min, u64max, i32min, i32max, Om.sub, selI, ints_app, ints_cut, ints_upd, ints_rep, ints_splice, ints_seg, len_ints]
    rfl

def refCO : CSpec := { args := [.sslice 3 (.var 1) (.var 2) (.var 3) true], next := 2, rows := [(3, .eseq ⟨.u8, .var 4, .var 5⟩)], pre := [(.le (.bi .add (.var 1) (.var 2)) (.var 4), true), (.le (.var 2) (.int 1000000), true)], res := .sint .u32 (.fn 5 (argsE [.var 5, .var 1, .bi .add (.var 1) (.var 2)])), frows := [], same := [] }
def refCO_t0 : List (Q × Bool) := [asG214, asG215, asG216]
def refCO_d0 : List Duty := [(true, (.bi (.iop .xor .u32) (.int 4294967295) (.fn 4 (.bi .pair (.int 4294967295) (.bi .pair (.var 5) (.bi .pair (.bi .add (.var 1) (.int 0)) (.bi .pair (.bi .add (.var 1) (.var 2)) (.int 0))))))), (.fn 5 (.bi .pair (.var 5) (.bi .pair (.var 1) (.bi .pair (.bi .add (.var 1) (.var 2)) (.int 0))))))]
theorem refCO_y0 : endC refCO [] 1000 (callC Tryd.prog (tellA refCO_t0) [⟨50, [4, 1, 0, 1, 1, 1], moreL⟩, ⟨50, [4, 1, 0, 1, 1, 1], moreLO⟩, ⟨49, [4, 1, 4, 0, 1, 5, 4, 1, 0, 1, 1], bitL⟩, ⟨49, [4, 1, 4, 0, 1, 5, 4, 1, 0, 1, 1], bitLO⟩, ⟨49, [4, 1, 0, 1, 1], refL⟩, ⟨49, [4, 1, 0, 1, 1], refLO⟩] [(52, tableC), (50, moreC), (50, moreCO), (23, pickC), (29, putC), (29, putCO), (49, refC)] [] 3000 40 49 refCO) = some refCO_d0 := by kernel_rfl
theorem refCO_holds : CHolds Tryd.prog 49 refCO F := by
  refine cholds_of sound (tableCons moreL_holds (tableCons moreLO_holds (tableCons bitL_holds (tableCons bitLO_holds (tableCons refL_holds (tableCons refLO_holds (tableNil _ _))))))) (specsCons tableC_holds (specsCons moreC_holds (specsCons moreCO_holds (specsCons pickC_holds (specsCons putC_holds (specsCons putCO_holds (specsCons refC_holds (specsNil _ _)))))))) (oversNil _ _) (fuel := 3000) (depth := 40) (by kernel_rfl) fun d hp hR hA => ?_
  have hp := allTold'_iff.2 hp
  simp only [refCO, allTold', dutiesTold, factsA, factsC, factsP, factsR, AV.facts, RW.facts, inK, and_true, Q.holds', E.i, E.s, E.n, D.nat, E.den, BO.den, UO.den, TO.den, D.toInt_int, D.toList_list, D.ints_ofInts, i64min, i64max, u8min, u8max, u16min, u16max, u32min, u32max, u64min, u64max, i32min, i32max, Om.sub, selI, ints_app, ints_cut, ints_upd, ints_rep, ints_splice, ints_seg, len_ints] at hp hR hA
  refine ⟨tellA refCO_t0, _, _, _, tellA_ok (allTold'_iff.1 ?_), refCO_y0, dutiesTold_ok ?_⟩
  · simp only [refCO_t0, allTold', dutiesTold, factsA, factsC, factsP, factsR, AV.facts, RW.facts, inK, and_true, Q.holds', E.i, E.s, E.n, D.nat, E.den, BO.den, UO.den, TO.den, D.toInt_int, D.toList_list, D.ints_ofInts, i64min, i64max, u8min, u8max, u16min, u16max, u32min, u32max, u64min, u64max, i32min, i32max, Om.sub, selI, ints_app, ints_cut, ints_upd, ints_rep, ints_splice, ints_seg, len_ints]
    omega
  · simp only [refCO_d0, F4, F5, Int.add_zero, allTold', dutiesTold, factsA, factsC, factsP, factsR, AV.facts, RW.facts, inK, and_true, Q.holds', E.i, E.s, E.n, D.nat, E.den, BO.den, UO.den, TO.den, D.toInt_int, D.toList_list, D.ints_ofInts, i64min, i64max, u8min, u8max, u16min, u16max, u32min, u32max, u64min, u64max, i32min, i32max, Om.sub, selI, ints_app, ints_cut, ints_upd, ints_rep, ints_splice, ints_seg, len_ints]
    rfl

def overL : LSpec := { n := 22, next := 1, pat := [(3, .sint .i64 (.var 2)), (2, .sslice 1 (.int 0) (.var 0) (.var 0) false)], rows := [(1, .seq ⟨5, .u8, .var 0, .var 1, false, false⟩)], pre := [(.le (.int 0) (.var 2), true), (.le (.var 2) (.var 0), true), (.le (.var 0) (.int 9223372036854775807), true)], x := 0, fin := [], frows := [], same := [], chg := [2, 3, 8, 9, 10, 11, 12, 13, 14, 15, 16, 17, 18, 19, 20, 21] }
abbrev asG217 : Q × Bool := ((.fit .i64 (.var 0)), true)
abbrev asG218 : Q × Bool := ((.le (.var 0) (.var 2)), false)
abbrev asG219 : Q × Bool := ((.fit .i64 (.bi .add (.var 2) (.int 1))), true)
def overL_t0 : List (Q × Bool) := [asG217, asG218, asG214, asG219]
def overL_d0 : List Duty := []
def overL_h0 : List (Nat × E) := [(1, (.tr .upd (.var 1) (.var 2) (.bi (.iop .xor .u8) (.bi .sel (.var 1) (.var 2)) (.int 90)))), (0, (.var 0)), (2, (.bi .add (.var 2) (.int 1)))]
theorem overL_h0_0 : lookE overL_h0 0 = (.var 0) := rfl
theorem overL_h0_1 : lookE overL_h0 1 = (.tr .upd (.var 1) (.var 2) (.bi (.iop .xor .u8) (.bi .sel (.var 1) (.var 2)) (.int 90))) := rfl
theorem overL_h0_2 : lookE overL_h0 2 = (.bi .add (.var 2) (.int 1)) := rfl
theorem overL_y0 : nextD overL overL_h0 [(1, 1)] (roundC Tryd.prog [⟨50, [4, 1, 0, 1, 1, 1], moreL⟩, ⟨50, [4, 1, 0, 1, 1, 1], moreLO⟩, ⟨49, [4, 1, 4, 0, 1, 5, 4, 1, 0, 1, 1], bitL⟩, ⟨49, [4, 1, 4, 0, 1, 5, 4, 1, 0, 1, 1], bitLO⟩, ⟨49, [4, 1, 0, 1, 1], refL⟩, ⟨49, [4, 1, 0, 1, 1], refLO⟩] [(52, tableC), (50, moreC), (50, moreCO), (23, pickC), (29, putC), (29, putCO), (49, refC), (49, refCO)] [] 3000 40 16 [4, 1, 1] (tellA overL_t0) overL) = some overL_d0 := by kernel_rfl
abbrev asG220 : Q × Bool := ((.le (.var 0) (.var 2)), true)
def overL_t1 : List (Q × Bool) := [asG217, asG220]
def overL_d1 : List Duty := []
theorem overL_y1 : endD overL [(1, 1)] 1000 (roundC Tryd.prog [⟨50, [4, 1, 0, 1, 1, 1], moreL⟩, ⟨50, [4, 1, 0, 1, 1, 1], moreLO⟩, ⟨49, [4, 1, 4, 0, 1, 5, 4, 1, 0, 1, 1], bitL⟩, ⟨49, [4, 1, 4, 0, 1, 5, 4, 1, 0, 1, 1], bitLO⟩, ⟨49, [4, 1, 0, 1, 1], refL⟩, ⟨49, [4, 1, 0, 1, 1], refLO⟩] [(52, tableC), (50, moreC), (50, moreCO), (23, pickC), (29, putC), (29, putCO), (49, refC), (49, refCO)] [] 3000 40 16 [4, 1, 1] (tellA overL_t1) overL) = some overL_d1 := by kernel_rfl
theorem overL_holds : LHolds Tryd.prog (loopAt Tryd.prog 16 [4, 1, 1]) overL F := by
  refine loop_roundsC sound (tableCons moreL_holds (tableCons moreLO_holds (tableCons bitL_holds (tableCons bitLO_holds (tableCons refL_holds (tableCons refLO_holds (tableNil _ _))))))) (specsCons tableC_holds (specsCons moreC_holds (specsCons moreCO_holds (specsCons pickC_holds (specsCons putC_holds (specsCons putCO_holds (specsCons refC_holds (specsCons refCO_holds (specsNil _ _))))))))) (oversNil _ _) (fuel := 3000) (depth := 40) (by kernel_rfl) (by kernel_rfl) (by kernel_rfl) (fun d => ((d 0).toInt - (d 2).toInt).toNat) fun d hp hR hA => ?_
  have hp := allTold'_iff.2 hp
  simp only [overL, allTold', dutiesTold, factsA, factsC, factsP, factsR, AV.facts, RW.facts, inK, and_true, Q.holds', E.i, E.s, E.n, D.nat, E.den, BO.den, UO.den, TO.den, D.toInt_int, D.toList_list, D.ints_ofInts, i64min, i64max, u8min, u8max, u16min, u16max, u32min, u32max, u64min, u64max, i32min, i32max, Om.sub, selI, ints_app, ints_cut, ints_upd, ints_rep, ints_splice, ints_seg, len_ints] at hp hR hA
  by_cases h : (d 0).toInt ≤ (d 2).toInt
  · refine ⟨tellA overL_t1, tellA_ok (allTold'_iff.1 ?_), .inl ⟨_, _, _, overL_y1, dutiesTold_ok ?_⟩⟩
    · simp only [overL_t1, allTold', dutiesTold, factsA, factsC, factsP, factsR, AV.facts, RW.facts, inK, and_true, Q.holds', E.i, E.s, E.n, D.nat, E.den, BO.den, UO.den, TO.den, D.toInt_int, D.toList_list, D.ints_ofInts, i64min, i64max, u8min, u8max, u16min, u16max, u32min, u32max, u64min, u64max, i32min, i32max, Om.sub, selI, ints_app, ints_cut, ints_upd, ints_rep, ints_splice, ints_seg, len_ints]
      omega
    · simp only [overL_d1, allTold', dutiesTold, factsA, factsC, factsP, factsR, AV.facts, RW.facts, inK, and_true, Q.holds', E.i, E.s, E.n, D.nat, E.den, BO.den, UO.den, TO.den, D.toInt_int, D.toList_list, D.ints_ofInts, i64min, i64max, u8min, u8max, u16min, u16max, u32min, u32max, u64min, u64max, i32min, i32max, Om.sub, selI, ints_app, ints_cut, ints_upd, ints_rep, ints_splice, ints_seg, len_ints]
  · refine ⟨tellA overL_t0, tellA_ok (allTold'_iff.1 ?_), .inr ⟨overL_h0, _, _, overL_y0, dutiesTold_ok ?_, allTold'_iff.1 ?_, ?_⟩⟩
    · simp only [overL_t0, allTold', dutiesTold, factsA, factsC, factsP, factsR, AV.facts, RW.facts, inK, and_true, Q.holds', E.i, E.s, E.n, D.nat, E.den, BO.den, UO.den, TO.den, D.toInt_int, D.toList_list, D.ints_ofInts, i64min, i64max, u8min, u8max, u16min, u16max, u32min, u32max, u64min, u64max, i32min, i32max, Om.sub, selI, ints_app, ints_cut, ints_upd, ints_rep, ints_splice, ints_seg, len_ints]
      omega
    · simp only [overL_d0, allTold', dutiesTold, factsA, factsC, factsP, factsR, AV.facts, RW.facts, inK, and_true, Q.holds', E.i, E.s, E.n, D.nat, E.den, BO.den, UO.den, TO.den, D.toInt_int, D.toList_list, D.ints_ofInts, i64min, i64max, u8min, u8max, u16min, u16max, u32min, u32max, u64min, u64max, i32min, i32max, Om.sub, selI, ints_app, ints_cut, ints_upd, ints_rep, ints_splice, ints_seg, len_ints]
    · simp only [overL, overL_h0_0, overL_h0_1, overL_h0_2, allTold', dutiesTold, factsA, factsC, factsP, factsR, AV.facts, RW.facts, inK, and_true, Q.holds', E.i, E.s, E.n, D.nat, E.den, BO.den, UO.den, TO.den, D.toInt_int, D.toList_list, D.ints_ofInts, i64min, i64max, u8min, u8max, u16min, u16max, u32min, u32max, u64min, u64max, i32min, i32max, Om.sub, selI, ints_app, ints_cut, ints_upd, ints_rep, ints_splice, ints_seg, len_ints]
      omega
    · simp only [overL_h0_0, overL_h0_1, overL_h0_2, allTold', dutiesTold, factsA, factsC, factsP, factsR, AV.facts, RW.facts, inK, and_true, Q.holds', E.i, E.s, E.n, D.nat, E.den, BO.den, UO.den, TO.den, D.toInt_int, D.toList_list, D.ints_ofInts, i64min, i64max, u8min, u8max, u16min, u16max, u32min, u32max, u64min, u64max, i32min, i32max, Om.sub, selI, ints_app, ints_cut, ints_upd, ints_rep, ints_splice, ints_seg, len_ints]
      omega

def overV : CSpec := overC 5 .u8
abbrev asG221 : Q × Bool := ((.le (.var 0) (.int 9223372036854775807)), true)
def overV_t0 : List (Q × Bool) := [asG217, asG25, asG221]
def overV_d0 : List Duty := []
theorem overV_y0 : endC overV [] 1000 (callC Tryd.prog (tellA overV_t0) [⟨50, [4, 1, 0, 1, 1, 1], moreL⟩, ⟨50, [4, 1, 0, 1, 1, 1], moreLO⟩, ⟨49, [4, 1, 4, 0, 1, 5, 4, 1, 0, 1, 1], bitL⟩, ⟨49, [4, 1, 4, 0, 1, 5, 4, 1, 0, 1, 1], bitLO⟩, ⟨49, [4, 1, 0, 1, 1], refL⟩, ⟨49, [4, 1, 0, 1, 1], refLO⟩, ⟨16, [4, 1, 1], overL⟩] [(52, tableC), (50, moreC), (50, moreCO), (23, pickC), (29, putC), (29, putCO), (49, refC), (49, refCO)] [] 3000 40 16 overV) = some overV_d0 := by kernel_rfl
theorem overV_holds : CHolds Tryd.prog 16 (overC 5 .u8) F := by
  refine cholds_of sound (tableCons moreL_holds (tableCons moreLO_holds (tableCons bitL_holds (tableCons bitLO_holds (tableCons refL_holds (tableCons refLO_holds (tableCons overL_holds (tableNil _ _)))))))) (specsCons tableC_holds (specsCons moreC_holds (specsCons moreCO_holds (specsCons pickC_holds (specsCons putC_holds (specsCons putCO_holds (specsCons refC_holds (specsCons refCO_holds (specsNil _ _))))))))) (oversNil _ _) (fuel := 3000) (depth := 40) (by kernel_rfl) fun d hp hR hA => ?_
  have hp := allTold'_iff.2 hp
  simp only [overC, allTold', dutiesTold, factsA, factsC, factsP, factsR, AV.facts, RW.facts, inK, and_true, Q.holds', E.i, E.s, E.n, D.nat, E.den, BO.den, UO.den, TO.den, D.toInt_int, D.toList_list, D.ints_ofInts, i64min, i64max, u8min, u8max, u16min, u16max, u32min, u32max, u64min, u64max, i32min, i32max, Om.sub, selI, ints_app, ints_cut, ints_upd, ints_rep, ints_splice, ints_seg, len_ints] at hp hR hA
  refine ⟨tellA overV_t0, _, _, _, tellA_ok (allTold'_iff.1 ?_), overV_y0, dutiesTold_ok ?_⟩
  · simp only [overV_t0, allTold', dutiesTold, factsA, factsC, factsP, factsR, AV.facts, RW.facts, inK, and_true, Q.holds', E.i, E.s, E.n, D.nat, E.den, BO.den, UO.den, TO.den, D.toInt_int, D.toList_list, D.ints_ofInts, i64min, i64max, u8min, u8max, u16min, u16max, u32min, u32max, u64min, u64max, i32min, i32max, Om.sub, selI, ints_app, ints_cut, ints_upd, ints_rep, ints_splice, ints_seg, len_ints]
    omega
  · simp only [overV_d0, allTold', dutiesTold, factsA, factsC, factsP, factsR, AV.facts, RW.facts, inK, and_true, Q.holds', E.i, E.s, E.n, D.nat, E.den, BO.den, UO.den, TO.den, D.toInt_int, D.toList_list, D.ints_ofInts, i64min, i64max, u8min, u8max, u16min, u16max, u32min, u32max, u64min, u64max, i32min, i32max, Om.sub, selI, ints_app, ints_cut, ints_upd, ints_rep, ints_splice, ints_seg, len_ints]

def lentC : CSpec := { args := [.sslice 3 (.var 1) (.var 2) (.var 3) false], next := 2, rows := [(3, .eseq ⟨.u8, .var 4, .var 5⟩)], pre := [(.le (.bi .add (.var 1) (.var 2)) (.var 4), true), (.le (.var 2) (.int 1000000), true)], res := .sslice 5 (.int 0) (.var 2) (.bi .add (.var 2) (.int 3)) false, frows := [(5, .seq ⟨5, .u8, .bi .add (.var 2) (.int 3), .fn 6 (argsE [.var 5, .var 1, .bi .add (.var 1) (.var 2)]), false, false⟩)], same := [] }
abbrev asG222 : Q × Bool := ((.fit .i64 (.var 2)), true)
abbrev asG223 : Q × Bool := ((.fit .i64 (.bi .add (.var 2) (.int 3))), true)
abbrev asG224 : Q × Bool := ((.le (.int 0) (.bi .add (.var 2) (.int 3))), true)
abbrev asG225 : Q × Bool := ((.le (.bi .add (.var 2) (.int 3)) (.int 281474976710656)), true)
abbrev asG226 : Q × Bool := ((.le (.bi .add (.var 2) (.int 3)) (.int 9223372036854775807)), true)
abbrev asG227 : Q × Bool := ((.le (.var 2) (.bi .add (.var 2) (.int 3))), true)
abbrev asG228 : Q × Bool := ((.le (.bi .add (.var 2) (.int 3)) (.var 2)), false)
abbrev asG229 : Q × Bool := ((.fit .i64 (.bi .add (.bi (.iop .rem .i64) (.var 2) (.int 90)) (.int 160))), true)
abbrev asG230 : Q × Bool := ((.le (.bi .add (.var 2) (.int 3)) (.bi .add (.var 2) (.int 1))), false)
abbrev asG231 : Q × Bool := ((.fit .i64 (.bi .add (.bi (.iop .rem .i64) (.bi .add (.var 2) (.int 1)) (.int 90)) (.int 160))), true)
abbrev asG232 : Q × Bool := ((.le (.int 0) (.bi .add (.var 2) (.int 1))), true)
abbrev asG233 : Q × Bool := ((.fit .i64 (.bi .add (.var 2) (.int 2))), true)
abbrev asG234 : Q × Bool := ((.le (.bi .add (.var 2) (.int 3)) (.bi .add (.var 2) (.int 2))), false)
abbrev asG235 : Q × Bool := ((.fit .i64 (.bi .add (.bi (.iop .rem .i64) (.bi .add (.var 2) (.int 2)) (.int 90)) (.int 160))), true)
abbrev asG236 : Q × Bool := ((.le (.int 0) (.bi .add (.var 2) (.int 2))), true)
def lentC_t0 : List (Q × Bool) := [asG222, asG223, asG224, asG225, asG226, asG215, asG227, asG228, asG229, asG214, asG219, asG230, asG231, asG232, asG233, asG234, asG235, asG236]
def lentC_d0 : List Duty := [(false, (.tr .upd (.tr .upd (.tr .upd (.tr .splice (.bi .rep (.bi .add (.var 2) (.int 3)) (.int 0)) (.int 0) (.tr .cut (.var 5) (.var 1) (.bi .add (.var 1) (.var 2)))) (.var 2) (.un (.wrap .u8) (.bi .add (.bi (.iop .rem .i64) (.var 2) (.int 90)) (.int 160)))) (.bi .add (.var 2) (.int 1)) (.un (.wrap .u8) (.bi .add (.bi (.iop .rem .i64) (.bi .add (.var 2) (.int 1)) (.int 90)) (.int 160)))) (.bi .add (.var 2) (.int 2)) (.un (.wrap .u8) (.bi .add (.bi (.iop .rem .i64) (.bi .add (.var 2) (.int 2)) (.int 90)) (.int 160)))), (.fn 6 (.bi .pair (.var 5) (.bi .pair (.var 1) (.bi .pair (.bi .add (.var 1) (.var 2)) (.int 0))))))]
theorem lentC_y0 : endC lentC [(5, 5)] 1000 (callC Tryd.prog (tellA lentC_t0) [⟨50, [4, 1, 0, 1, 1, 1], moreL⟩, ⟨50, [4, 1, 0, 1, 1, 1], moreLO⟩, ⟨49, [4, 1, 4, 0, 1, 5, 4, 1, 0, 1, 1], bitL⟩, ⟨49, [4, 1, 4, 0, 1, 5, 4, 1, 0, 1, 1], bitLO⟩, ⟨49, [4, 1, 0, 1, 1], refL⟩, ⟨49, [4, 1, 0, 1, 1], refLO⟩, ⟨16, [4, 1, 1], overL⟩] [(52, tableC), (50, moreC), (50, moreCO), (23, pickC), (29, putC), (29, putCO), (49, refC), (49, refCO)] [(16, 5, .u8)] 3000 40 10 lentC) = some lentC_d0 := by kernel_rfl
theorem lentC_holds : CHolds Tryd.prog 10 lentC F := by
  refine cholds_of sound (tableCons moreL_holds (tableCons moreLO_holds (tableCons bitL_holds (tableCons bitLO_holds (tableCons refL_holds (tableCons refLO_holds (tableCons overL_holds (tableNil _ _)))))))) (specsCons tableC_holds (specsCons moreC_holds (specsCons moreCO_holds (specsCons pickC_holds (specsCons putC_holds (specsCons putCO_holds (specsCons refC_holds (specsCons refCO_holds (specsNil _ _))))))))) (oversCons overV_holds (oversNil _ _)) (fuel := 3000) (depth := 40) (by kernel_rfl) fun d hp hR hA => ?_
  have hp := allTold'_iff.2 hp
  simp only [lentC, allTold', dutiesTold, factsA, factsC, factsP, factsR, AV.facts, RW.facts, inK, and_true, Q.holds', E.i, E.s, E.n, D.nat, E.den, BO.den, UO.den, TO.den, D.toInt_int, D.toList_list, D.ints_ofInts, i64min, i64max, u8min, u8max, u16min, u16max, u32min, u32max, u64min, u64max, i32min, i32max, Om.sub, selI, ints_app, ints_cut, ints_upd, ints_rep, ints_splice, ints_seg, len_ints] at hp hR hA
  refine ⟨tellA lentC_t0, _, _, _, tellA_ok (allTold'_iff.1 ?_), lentC_y0, dutiesTold_ok ?_⟩
  · simp only [lentC_t0, allTold', dutiesTold, factsA, factsC, factsP, factsR, AV.facts, RW.facts, inK, and_true, Q.holds', E.i, E.s, E.n, D.nat, E.den, BO.den, UO.den, TO.den, D.toInt_int, D.toList_list, D.ints_ofInts, i64min, i64max, u8min, u8max, u16min, u16max, u32min, u32max, u64min, u64max, i32min, i32max, Om.sub, selI, ints_app, ints_cut, ints_upd, ints_rep, ints_splice, ints_seg, len_ints]
    rw [rem_emod _ (by omega), rem_emod _ (by omega), rem_emod _ (by omega)]
    omega
  · simp only [lentC_d0, F6, ints_list, List.map_set, List.map_append, List.map_drop, List.map_take, List.map_replicate, List.length_drop, map_ints, allTold', dutiesTold, factsA, factsC, factsP, factsR, AV.facts, RW.facts, inK, and_true, Q.holds', E.i, E.s, E.n, D.nat, E.den, BO.den, UO.den, TO.den, D.toInt_int, D.toList_list, D.ints_ofInts, i64min, i64max, u8min, u8max, u16min, u16max, u32min, u32max, u64min, u64max, i32min, i32max, Om.sub, selI, ints_app, ints_cut, ints_upd, ints_rep, ints_splice, ints_seg, len_ints]
    rw [rem_emod _ (by omega), rem_emod _ (by omega), rem_emod _ (by omega)]
    obtain ⟨n, hn⟩ := Int.eq_ofNat_of_zero_le hA.1
    rw [hn] at hp hA ⊢
    have hl := prt_length (x := (d 5).ints) (o := (d 1).toInt) (t := (d 1).toInt + n) (by omega) (by omega) (by omega)
    have e1 : (List.drop (d 1).toInt.toNat (List.take ((d 1).toInt + n).toNat (d 5).ints)) = prt (d 5).ints (d 1).toInt ((d 1).toInt + n) := rfl
    have e2 : (List.take ((d 1).toInt + n).toNat (d 5).toList).length - (d 1).toInt.toNat = (prt (d 5).ints (d 1).toInt ((d 1).toInt + n)).length := by
      rw [← e1]; simp [D.ints]
    have h3 := lent_set (List.replicate (n + 3) 0) (prt (d 5).ints (d 1).toInt ((d 1).toInt + n)) n (by omega)
    rw [show ((n : Int) + 3).toNat = n + 3 by omega, show ((n : Int) + 2).toNat = n + 2 by omega, show ((n : Int) + 1).toNat = n + 1 by omega, show ((n : Int)).toNat = n by omega, show Int.toNat 0 = 0 from rfl, e1, e2, h3]
    unfold lentI markI
    rw [wrap_fit (by simp only [u8min, u8max]; omega), wrap_fit (by simp only [u8min, u8max]; omega), wrap_fit (by simp only [u8min, u8max]; omega)]
    rw [show ((prt (d 5).ints (d 1).toInt ((d 1).toInt + n)).length : Int) = n by omega]
    simp only [Int.add_comm]

def rputC : CSpec := { args := [.sslice 3 (.var 1) (.var 2) (.var 3) false], next := 2, rows := [(3, .eseq ⟨.u8, .var 4, .var 5⟩)], pre := [(.le (.bi .add (.var 1) (.var 2)) (.var 4), true), (.le (.var 2) (.int 1000000), true)], res := .sslice 5 (.int 0) (.bi .add (.var 2) (.int 4)) (.bi .add (.var 2) (.int 4)) true, frows := [(5, .seq ⟨5, .u8, .bi .add (.var 2) (.int 4), .fn 9 (argsE [.var 5, .var 1, .bi .add (.var 1) (.var 2)]), true, false⟩)], same := [] }
abbrev asG237 : Q × Bool := ((.le (.bi .mul (.var 2) (.int 2)) (.int 281474976710656)), true)
abbrev asG238 : Q × Bool := ((.le (.bi .mul (.bi .add (.var 2) (.int 4)) (.int 2)) (.int 281474976710656)), true)
def rputC_t0 : List (Q × Bool) := [asG215, asG216, asG237, asG238]
abbrev teG20 : E := (.bi .pair (.var 5) (.bi .pair (.var 1) (.bi .pair (.bi .add (.var 1) (.var 2)) (.int 0))))
def rputC_d0 : List Duty := [(false, (.bi .app (.tr .cut (.var 5) (.var 1) (.bi .add (.var 1) (.var 2))) (.bi .app (.un .one (.un (.wrap .u8) (.fn 5 teG20))) (.bi .app (.un .one (.un (.wrap .u8) (.bi (.iop .shr .u32) (.fn 5 teG20) (.int 8)))) (.bi .app (.un .one (.un (.wrap .u8) (.bi (.iop .shr .u32) (.fn 5 teG20) (.int 16)))) (.bi .app (.un .one (.un (.wrap .u8) (.bi (.iop .shr .u32) (.fn 5 teG20) (.int 24)))) (.lits [])))))), (.fn 9 teG20))]
theorem rputC_y0 : endC rputC [(5, 11)] 1000 (callC Tryd.prog (tellA rputC_t0) [⟨50, [4, 1, 0, 1, 1, 1], moreL⟩, ⟨50, [4, 1, 0, 1, 1, 1], moreLO⟩, ⟨49, [4, 1, 4, 0, 1, 5, 4, 1, 0, 1, 1], bitL⟩, ⟨49, [4, 1, 4, 0, 1, 5, 4, 1, 0, 1, 1], bitLO⟩, ⟨49, [4, 1, 0, 1, 1], refL⟩, ⟨49, [4, 1, 0, 1, 1], refLO⟩, ⟨16, [4, 1, 1], overL⟩] [(52, tableC), (50, moreC), (50, moreCO), (23, pickC), (29, putC), (29, putCO), (49, refC), (49, refCO), (10, lentC)] [(16, 5, .u8)] 3000 40 42 rputC) = some rputC_d0 := by kernel_rfl
theorem rputC_holds : CHolds Tryd.prog 42 rputC F := by
  refine cholds_of sound (tableCons moreL_holds (tableCons moreLO_holds (tableCons bitL_holds (tableCons bitLO_holds (tableCons refL_holds (tableCons refLO_holds (tableCons overL_holds (tableNil _ _)))))))) (specsCons tableC_holds (specsCons moreC_holds (specsCons moreCO_holds (specsCons pickC_holds (specsCons putC_holds (specsCons putCO_holds (specsCons refC_holds (specsCons refCO_holds (specsCons lentC_holds (specsNil _ _)))))))))) (oversCons overV_holds (oversNil _ _)) (fuel := 3000) (depth := 40) (by kernel_rfl) fun d hp hR hA => ?_
  have hp := allTold'_iff.2 hp
  simp only [rputC, allTold', dutiesTold, factsA, factsC, factsP, factsR, AV.facts, RW.facts, inK, and_true, Q.holds', E.i, E.s, E.n, D.nat, E.den, BO.den, UO.den, TO.den, D.toInt_int, D.toList_list, D.ints_ofInts, i64min, i64max, u8min, u8max, u16min, u16max, u32min, u32max, u64min, u64max, i32min, i32max, Om.sub, selI, ints_app, ints_cut, ints_upd, ints_rep, ints_splice, ints_seg, len_ints] at hp hR hA
  refine ⟨tellA rputC_t0, _, _, _, tellA_ok (allTold'_iff.1 ?_), rputC_y0, dutiesTold_ok ?_⟩
  · simp only [rputC_t0, allTold', dutiesTold, factsA, factsC, factsP, factsR, AV.facts, RW.facts, inK, and_true, Q.holds', E.i, E.s, E.n, D.nat, E.den, BO.den, UO.den, TO.den, D.toInt_int, D.toList_list, D.ints_ofInts, i64min, i64max, u8min, u8max, u16min, u16max, u32min, u32max, u64min, u64max, i32min, i32max, Om.sub, selI, ints_app, ints_cut, ints_upd, ints_rep, ints_splice, ints_seg, len_ints]
    omega
  · simp only [rputC_d0, F9, F5, ints_list, List.map_append, List.map_drop, List.map_take, List.map_replicate, List.map_cons, List.map_nil, map_ints, allTold', dutiesTold, factsA, factsC, factsP, factsR, AV.facts, RW.facts, inK, and_true, Q.holds', E.i, E.s, E.n, D.nat, E.den, BO.den, UO.den, TO.den, D.toInt_int, D.toList_list, D.ints_ofInts, i64min, i64max, u8min, u8max, u16min, u16max, u32min, u32max, u64min, u64max, i32min, i32max, Om.sub, selI, ints_app, ints_cut, ints_upd, ints_rep, ints_splice, ints_seg, len_ints]
    simp [rputI, le4, rsumI, prt]

def rputCO : CSpec := { args := [.sslice 3 (.var 1) (.var 2) (.var 3) true], next := 2, rows := [(3, .eseq ⟨.u8, .var 4, .var 5⟩)], pre := [(.le (.bi .add (.var 1) (.var 2)) (.var 4), true), (.le (.var 2) (.int 1000000), true)], res := .sslice 5 (.int 0) (.bi .add (.var 2) (.int 4)) (.bi .add (.var 2) (.int 4)) true, frows := [(5, .seq ⟨5, .u8, .bi .add (.var 2) (.int 4), .fn 9 (argsE [.var 5, .var 1, .bi .add (.var 1) (.var 2)]), true, false⟩)], same := [] }
def rputCO_t0 : List (Q × Bool) := [asG215, asG216, asG237, asG238]
def rputCO_d0 : List Duty := [(false, (.bi .app (.tr .cut (.var 5) (.var 1) (.bi .add (.var 1) (.var 2))) (.bi .app (.un .one (.un (.wrap .u8) (.fn 5 teG20))) (.bi .app (.un .one (.un (.wrap .u8) (.bi (.iop .shr .u32) (.fn 5 teG20) (.int 8)))) (.bi .app (.un .one (.un (.wrap .u8) (.bi (.iop .shr .u32) (.fn 5 teG20) (.int 16)))) (.bi .app (.un .one (.un (.wrap .u8) (.bi (.iop .shr .u32) (.fn 5 teG20) (.int 24)))) (.lits [])))))), (.fn 9 teG20))]
theorem rputCO_y0 : endC rputCO [(5, 11)] 1000 (callC Tryd.prog (tellA rputCO_t0) [⟨50, [4, 1, 0, 1, 1, 1], moreL⟩, ⟨50, [4, 1, 0, 1, 1, 1], moreLO⟩, ⟨49, [4, 1, 4, 0, 1, 5, 4, 1, 0, 1, 1], bitL⟩, ⟨49, [4, 1, 4, 0, 1, 5, 4, 1, 0, 1, 1], bitLO⟩, ⟨49, [4, 1, 0, 1, 1], refL⟩, ⟨49, [4, 1, 0, 1, 1], refLO⟩, ⟨16, [4, 1, 1], overL⟩] [(52, tableC), (50, moreC), (50, moreCO), (23, pickC), (29, putC), (29, putCO), (49, refC), (49, refCO), (10, lentC), (42, rputC)] [(16, 5, .u8)] 3000 40 42 rputCO) = some rputCO_d0 := by kernel_rfl
theorem rputCO_holds : CHolds Tryd.prog 42 rputCO F := by
  refine cholds_of sound (tableCons moreL_holds (tableCons moreLO_holds (tableCons bitL_holds (tableCons bitLO_holds (tableCons refL_holds (tableCons refLO_holds (tableCons overL_holds (tableNil _ _)))))))) (specsCons tableC_holds (specsCons moreC_holds (specsCons moreCO_holds (specsCons pickC_holds (specsCons putC_holds (specsCons putCO_holds (specsCons refC_holds (specsCons refCO_holds (specsCons lentC_holds (specsCons rputC_holds (specsNil _ _))))))))))) (oversCons overV_holds (oversNil _ _)) (fuel := 3000) (depth := 40) (by kernel_rfl) fun d hp hR hA => ?_
  have hp := allTold'_iff.2 hp
  simp only [rputCO, allTold', dutiesTold, factsA, factsC, factsP, factsR, AV.facts, RW.facts, inK, and_true, Q.holds', E.i, E.s, E.n, D.nat, E.den, BO.den, UO.den, TO.den, D.toInt_int, D.toList_list, D.ints_ofInts, i64min, i64max, u8min, u8max, u16min, u16max, u32min, u32max, u64min, u64max, i32min, i32max, Om.sub, selI, ints_app, ints_cut, ints_upd, ints_rep, ints_splice, ints_seg, len_ints] at hp hR hA
  refine ⟨tellA rputCO_t0, _, _, _, tellA_ok (allTold'_iff.1 ?_), rputCO_y0, dutiesTold_ok ?_⟩
  · simp only [rputCO_t0, allTold', dutiesTold, factsA, factsC, factsP, factsR, AV.facts, RW.facts, inK, and_true, Q.holds', E.i, E.s, E.n, D.nat, E.den, BO.den, UO.den, TO.den, D.toInt_int, D.toList_list, D.ints_ofInts, i64min, i64max, u8min, u8max, u16min, u16max, u32min, u32max, u64min, u64max, i32min, i32max, Om.sub, selI, ints_app, ints_cut, ints_upd, ints_rep, ints_splice, ints_seg, len_ints]
    omega
  · simp only [rputCO_d0, F9, F5, ints_list, List.map_append, List.map_drop, List.map_take, List.map_replicate, List.map_cons, List.map_nil, map_ints, allTold', dutiesTold, factsA, factsC, factsP, factsR, AV.facts, RW.facts, inK, and_true, Q.holds', E.i, E.s, E.n, D.nat, E.den, BO.den, UO.den, TO.den, D.toInt_int, D.toList_list, D.ints_ofInts, i64min, i64max, u8min, u8max, u16min, u16max, u32min, u32max, u64min, u64max, i32min, i32max, Om.sub, selI, ints_app, ints_cut, ints_upd, ints_rep, ints_splice, ints_seg, len_ints]
    simp [rputI, le4, rsumI, prt]

def keptC : CSpec := { args := [.sslice 5 (.int 0) (.var 2) (.bi .add (.var 2) (.int 3)) false, .sslice 3 (.var 1) (.var 2) (.var 3) false], next := 3, rows := [(3, .eseq ⟨.u8, .var 4, .var 5⟩), (5, .eseq ⟨.u8, .bi .add (.var 2) (.int 3), .fn 6 (argsE [.var 5, .var 1, .bi .add (.var 1) (.var 2)])⟩)], pre := [(.le (.bi .add (.var 1) (.var 2)) (.var 4), true), (.le (.var 2) (.int 1000000), true)], res := .bool true, frows := [], same := [] }
def keptC_t0 : List (Q × Bool) := [asG222, asG223, asG224, asG215, asG216]
def keptC_d0 : List Duty := []
theorem keptC_y0 : endC keptC [] 1000 (callC Tryd.prog (tellA keptC_t0) [⟨50, [4, 1, 0, 1, 1, 1], moreL⟩, ⟨50, [4, 1, 0, 1, 1, 1], moreLO⟩, ⟨49, [4, 1, 4, 0, 1, 5, 4, 1, 0, 1, 1], bitL⟩, ⟨49, [4, 1, 4, 0, 1, 5, 4, 1, 0, 1, 1], bitLO⟩, ⟨49, [4, 1, 0, 1, 1], refL⟩, ⟨49, [4, 1, 0, 1, 1], refLO⟩, ⟨16, [4, 1, 1], overL⟩] [(52, tableC), (50, moreC), (50, moreCO), (23, pickC), (29, putC), (29, putCO), (49, refC), (49, refCO), (10, lentC), (42, rputC), (42, rputCO)] [(16, 5, .u8)] 3000 40 17 keptC) = some keptC_d0 := by kernel_rfl
theorem keptC_holds : CHolds Tryd.prog 17 keptC F := by
  refine cholds_of sound (tableCons moreL_holds (tableCons moreLO_holds (tableCons bitL_holds (tableCons bitLO_holds (tableCons refL_holds (tableCons refLO_holds (tableCons overL_holds (tableNil _ _)))))))) (specsCons tableC_holds (specsCons moreC_holds (specsCons moreCO_holds (specsCons pickC_holds (specsCons putC_holds (specsCons putCO_holds (specsCons refC_holds (specsCons refCO_holds (specsCons lentC_holds (specsCons rputC_holds (specsCons rputCO_holds (specsNil _ _)))))))))))) (oversCons overV_holds (oversNil _ _)) (fuel := 3000) (depth := 40) (by kernel_rfl) fun d hp hR hA => ?_
  have hp := allTold'_iff.2 hp
  simp only [keptC, allTold', dutiesTold, factsA, factsC, factsP, factsR, AV.facts, RW.facts, inK, and_true, Q.holds', E.i, E.s, E.n, D.nat, E.den, BO.den, UO.den, TO.den, D.toInt_int, D.toList_list, D.ints_ofInts, i64min, i64max, u8min, u8max, u16min, u16max, u32min, u32max, u64min, u64max, i32min, i32max, Om.sub, selI, ints_app, ints_cut, ints_upd, ints_rep, ints_splice, ints_seg, len_ints] at hp hR hA
  refine ⟨tellA keptC_t0, _, _, _, tellA_ok (allTold'_iff.1 ?_), keptC_y0, dutiesTold_ok ?_⟩
  · simp only [keptC_t0, allTold', dutiesTold, factsA, factsC, factsP, factsR, AV.facts, RW.facts, inK, and_true, Q.holds', E.i, E.s, E.n, D.nat, E.den, BO.den, UO.den, TO.den, D.toInt_int, D.toList_list, D.ints_ofInts, i64min, i64max, u8min, u8max, u16min, u16max, u32min, u32max, u64min, u64max, i32min, i32max, Om.sub, selI, ints_app, ints_cut, ints_upd, ints_rep, ints_splice, ints_seg, len_ints]
    omega
  · simp only [keptC_d0, allTold', dutiesTold, factsA, factsC, factsP, factsR, AV.facts, RW.facts, inK, and_true, Q.holds', E.i, E.s, E.n, D.nat, E.den, BO.den, UO.den, TO.den, D.toInt_int, D.toList_list, D.ints_ofInts, i64min, i64max, u8min, u8max, u16min, u16max, u32min, u32max, u64min, u64max, i32min, i32max, Om.sub, selI, ints_app, ints_cut, ints_upd, ints_rep, ints_splice, ints_seg, len_ints]

end Go.Proofs.YtlmcjfcfmcdcpaaDoor.G2
