/-
  Contracts of this seat: what loops and calls leave, for all inputs. No condition.
-/
import Derived.Test.YtfphohneafeleaaDoorSycp
import Derived.Test.YtfphohneafeleaaDoorCo
import Derived.Test.YtfphohneafeleaaDoorDp
import Derived.Test.YtfphohneafeleaaDoorDu
import Derived.Test.YtfphohneafeleaaDoorDq
import Derived.Test.YtfphohneafeleaaDoorDr
import Derived.Test.YtfphohneafeleaaDoorDs
set_option linter.unusedSimpArgs false
set_option linter.unusedVariables false
namespace Go.Proofs.YtfphohneafeleaaDoor.Dx
open Go.RowKit Go.Ev Go.Proofs.YtfphohneafeleaaDoor.Co

open Go.Proofs.YtfphohneafeleaaDoor.Dp
open Go.Proofs.YtfphohneafeleaaDoor.Du
open Go.Proofs.YtfphohneafeleaaDoor.Dq
open Go.Proofs.YtfphohneafeleaaDoor.Dr
open Go.Proofs.YtfphohneafeleaaDoor.Ds

abbrev txDx0 : E := (.bi .pair (.bi .add (.var 2) (.int 1)) (.int 0))
abbrev txDx1 : E := (.bi .pair (.var 1) (.bi .pair (.var 2) (.int 0)))
abbrev txDx2 : E := (.bi .add (.var 2) (.fn 17 (.bi .pair (.var 2) (.int 0))))
abbrev txDx3 : E := (.fn 4 (argsE [.var 0, .var 1, .var 2, .var 7, .var 3, .var 4]))
abbrev txDx4 : E := (.fn 5 (argsE [.var 0, .var 1, .var 2, .var 7, .var 3, .var 4]))
abbrev txDx5 : E := (.bi .add (.bi .add (.var 2) (.int 1)) (.fn 18 txDx0))
abbrev txDx6 : E := (.bi .pair (.int 0) (.bi .pair txDx2 (.int 0)))
abbrev txDx7 : E := (.bi .pair (.fn 19 (.bi .pair (.var 5) txDx1)) txDx6)
abbrev txDx8 : E := (.bi .pair (.lits [1779033703, 3144134277, 1013904242, 2773480762, 1359893119, 2600822924, 528734635, 1541459225]) txDx7)
abbrev vu32Dx (a : E) (j : Int) : AV := .sint .u32 (.bi .sel a (.int j))
abbrev vu8Dx (a : E) (j : Int) : AV := .sint .u8 (.bi .sel a (.int j))
def overL : LSpec := { n := 22, next := 1, pat := [(3, .sint .i64 (.var 2)), (2, .sslice 1 (.int 0) (.var 0) (.var 0) false)], rows := [(1, .seq ⟨5, .u8, .var 0, .var 1, false, false⟩)], pre := [(.le (.int 0) (.var 2), true), (.le (.var 2) (.var 0), true), (.le (.var 0) (.int 9223372036854775807), true)], x := 0, fin := [], frows := [], same := [], chg := [2, 3, 8, 9, 10, 11, 12, 13, 14, 15, 16, 17, 18, 19, 20, 21] }
abbrev asDx0 : Q × Bool := ((.fit .i64 (.var 0)), true)
abbrev asDx1 : Q × Bool := ((.le (.var 0) (.var 2)), false)
abbrev asDx2 : Q × Bool := ((.le (.int 0) (.var 2)), true)
abbrev asDx3 : Q × Bool := ((.fit .i64 (.bi .add (.var 2) (.int 1))), true)
def overL_t0 : List (Q × Bool) := [asDx0, asDx1, asDx2, asDx3]
def overL_d0 : List Duty := []
def overL_h0 : List (Nat × E) := [(1, (.tr .upd (.var 1) (.var 2) (.bi (.iop .xor .u8) (.bi .sel (.var 1) (.var 2)) (.int 90)))), (0, (.var 0)), (2, (.bi .add (.var 2) (.int 1)))]
theorem overL_h0_0 : lookE overL_h0 0 = (.var 0) := rfl
theorem overL_h0_1 : lookE overL_h0 1 = (.tr .upd (.var 1) (.var 2) (.bi (.iop .xor .u8) (.bi .sel (.var 1) (.var 2)) (.int 90))) := rfl
theorem overL_h0_2 : lookE overL_h0 2 = (.bi .add (.var 2) (.int 1)) := rfl
theorem overL_y0 : nextD overL overL_h0 [(1, 1)] (roundC Tryd.prog [] [] [] 3000 40 9 [4, 1, 1] (tellA overL_t0) overL) = some overL_d0 := by kernel_rfl
abbrev asDx4 : Q × Bool := ((.le (.var 0) (.var 2)), true)
def overL_t1 : List (Q × Bool) := [asDx0, asDx4]
def overL_d1 : List Duty := []
theorem overL_y1 : endD overL [(1, 1)] 1000 (roundC Tryd.prog [] [] [] 3000 40 9 [4, 1, 1] (tellA overL_t1) overL) = some overL_d1 := by kernel_rfl
theorem overL_holds : LHolds Tryd.prog (loopAt Tryd.prog 9 [4, 1, 1]) overL F := by
  refine loop_roundsC sound (tableNil _ _) (specsNil _ _) (oversNil _ _) (fuel := 3000) (depth := 40) (by kernel_rfl) (by kernel_rfl) (by kernel_rfl) (fun d => ((d 0).toInt - (d 2).toInt).toNat) fun d hp hR hA => ?_
  have hp := allTold'_iff.2 hp
  simp only [overL, allTold', dutiesTold, factsA, factsC, factsP, factsR, AV.facts, RW.facts, inK, and_true, Q.holds', E.i, E.s, E.n, D.nat, E.den, BO.den, UO.den, TO.den, D.toInt_int, D.toList_list, D.ints_ofInts, i64min, i64max, u8min, u8max, u16min, u16max, u32min, u32max, u64min, u64max, i32min, i32max, Om.sub, selI, ints_app, ints_cut, ints_upd, ints_rep, ints_splice, ints_seg, len_ints] at hp hR hA
  by_cases h : (d 0).toInt ≤ (d 2).toInt
  · refine ⟨tellA overL_t1, tellA_ok (allTold'_iff.1 ?_), .inl ⟨_, _, _, overL_y1, dutiesTold_ok ?_⟩⟩
    · simp only [overL_t1, allTold', dutiesTold, factsA, factsC, factsP, factsR, AV.facts, RW.facts, inK, and_true, Q.holds', E.i, E.s, E.n, D.nat, E.den, BO.den, UO.den, TO.den, D.toInt_int, D.toList_list, D.ints_ofInts, i64min, i64max, u8min, u8max, u16min, u16max, u32min, u32max, u64min, u64max, i32min, i32max, Om.sub, selI, ints_app, ints_cut, ints_upd, ints_rep, ints_splice, ints_seg, len_ints]
      omega
    · simp only [overL_d1, allTold', dutiesTold, factsA, factsC, factsP, factsR, AV.facts, RW.facts, inK, and_true, Q.holds', E.i, E.s, E.n, D.nat, E.den, BO.den, UO.den, TO.den, D.toInt_int, D.toList_list, D.ints_ofInts, i64min, i64max, u8min, u8max, u16min, u16max, u32min, u32max, u64min, u64max, i32min, i32max, Om.sub, selI, ints_app, ints_cut, ints_upd, ints_rep, ints_splice, ints_seg, len_ints]
  · refine ⟨tellA overL_t0, tellA_ok (allTold'_iff.1 ?_), .inr ⟨overL_h0, _, _, overL_y0, dutiesTold_ok ?_, allTold'_iff.1 ?_, ?_⟩⟩
    · simp only [overL_t0, allTold', dutiesTold, factsA, factsC, factsP, factsR, AV.facts, RW.facts, inK, and_true, Q.holds', E.i, E.s, E.n, D.nat, E.den, BO.den, UO.den, TO.den, D.toInt_int, D.toList_list, D.ints_ofInts, i64min, i64max, u8min, u8max, u16min, u16max, u32min, u32max, u64min, u64max, i32min, i32max, Om.sub, selI, ints_app, ints_cut, ints_upd, ints_rep, ints_splice, ints_seg, len_ints]
      omega
    · simp only [overL_d0, allTold', dutiesTold, factsA, factsC, factsP, factsR, AV.facts, RW.facts, inK, and_true, Q.holds', E.i, E.s, E.n, D.nat, E.den, BO.den, UO.den, TO.den, D.toInt_int, D.toList_list, D.ints_ofInts, i64min, i64max, u8min, u8max, u16min, u16max, u32min, u32max, u64min, u64max, i32min, i32max, Om.sub, selI, ints_app, ints_cut, ints_upd, ints_rep, ints_splice, ints_seg, len_ints]
    · simp only [overL, overL_h0_0, overL_h0_1, overL_h0_2, allTold', dutiesTold, factsA, factsC, factsP, factsR, AV.facts, RW.facts, inK, and_true, Q.holds', E.i, E.s, E.n, D.nat, E.den, BO.den, UO.den, TO.den, D.toInt_int, D.toList_list, D.ints_ofInts, i64min, i64max, u8min, u8max, u16min, u16max, u32min, u32max, u64min, u64max, i32min, i32max, Om.sub, selI, ints_app, ints_cut, ints_upd, ints_rep, ints_splice, ints_seg, len_ints]
      omega
    · simp only [overL_h0_0, overL_h0_1, overL_h0_2, allTold', dutiesTold, factsA, factsC, factsP, factsR, AV.facts, RW.facts, inK, and_true, Q.holds', E.i, E.s, E.n, D.nat, E.den, BO.den, UO.den, TO.den, D.toInt_int, D.toList_list, D.ints_ofInts, i64min, i64max, u8min, u8max, u16min, u16max, u32min, u32max, u64min, u64max, i32min, i32max, Om.sub, selI, ints_app, ints_cut, ints_upd, ints_rep, ints_splice, ints_seg, len_ints]
      omega

def overV : CSpec := overC 5 .u8
abbrev asDx5 : Q × Bool := ((.le (.int 0) (.var 0)), true)
abbrev asDx6 : Q × Bool := ((.le (.var 0) (.int 9223372036854775807)), true)
def overV_t0 : List (Q × Bool) := [asDx0, asDx5, asDx6]
def overV_d0 : List Duty := []
theorem overV_y0 : endC overV [] 1000 (callC Tryd.prog (tellA overV_t0) [⟨9, [4, 1, 1], overL⟩] [] [] 3000 40 9 overV) = some overV_d0 := by kernel_rfl
theorem overV_holds : CHolds Tryd.prog 9 (overC 5 .u8) F := by
  refine cholds_of sound (tableCons overL_holds (tableNil _ _)) (specsNil _ _) (oversNil _ _) (fuel := 3000) (depth := 40) (by kernel_rfl) fun d hp hR hA => ?_
  have hp := allTold'_iff.2 hp
  simp only [overC, allTold', dutiesTold, factsA, factsC, factsP, factsR, AV.facts, RW.facts, inK, and_true, Q.holds', E.i, E.s, E.n, D.nat, E.den, BO.den, UO.den, TO.den, D.toInt_int, D.toList_list, D.ints_ofInts, i64min, i64max, u8min, u8max, u16min, u16max, u32min, u32max, u64min, u64max, i32min, i32max, Om.sub, selI, ints_app, ints_cut, ints_upd, ints_rep, ints_splice, ints_seg, len_ints] at hp hR hA
  refine ⟨tellA overV_t0, _, _, _, tellA_ok (allTold'_iff.1 ?_), overV_y0, dutiesTold_ok ?_⟩
  · simp only [overV_t0, allTold', dutiesTold, factsA, factsC, factsP, factsR, AV.facts, RW.facts, inK, and_true, Q.holds', E.i, E.s, E.n, D.nat, E.den, BO.den, UO.den, TO.den, D.toInt_int, D.toList_list, D.ints_ofInts, i64min, i64max, u8min, u8max, u16min, u16max, u32min, u32max, u64min, u64max, i32min, i32max, Om.sub, selI, ints_app, ints_cut, ints_upd, ints_rep, ints_splice, ints_seg, len_ints]
    omega
  · simp only [overV_d0, allTold', dutiesTold, factsA, factsC, factsP, factsR, AV.facts, RW.facts, inK, and_true, Q.holds', E.i, E.s, E.n, D.nat, E.den, BO.den, UO.den, TO.den, D.toInt_int, D.toList_list, D.ints_ofInts, i64min, i64max, u8min, u8max, u16min, u16max, u32min, u32max, u64min, u64max, i32min, i32max, Om.sub, selI, ints_app, ints_cut, ints_upd, ints_rep, ints_splice, ints_seg, len_ints]

def lentV : CSpec := { args := [.pv (.int .u8) (.var 5)], next := 0, rows := [], pre := [(.le (.un .len (.var 5)) (.int 1000000), true)], res := .sslice 1 (.int 0) (.un .len (.var 5)) (.bi .add (.un .len (.var 5)) (.int 3)) false, frows := [(1, .seq ⟨5, .u8, .bi .add (.un .len (.var 5)) (.int 3), .fn 6 (argsE [.var 5, .int 0, .un .len (.var 5)]), false, false⟩)], same := [] }
abbrev asDx7 : Q × Bool := ((.fit .i64 (.un .len (.var 5))), true)
abbrev asDx8 : Q × Bool := ((.fit .i64 (.bi .add (.un .len (.var 5)) (.int 3))), true)
abbrev asDx9 : Q × Bool := ((.le (.int 0) (.bi .add (.un .len (.var 5)) (.int 3))), true)
abbrev asDx10 : Q × Bool := ((.le (.bi .add (.un .len (.var 5)) (.int 3)) (.int 281474976710656)), true)
abbrev asDx11 : Q × Bool := ((.le (.bi .add (.un .len (.var 5)) (.int 3)) (.int 9223372036854775807)), true)
abbrev asDx12 : Q × Bool := ((.le (.un .len (.var 5)) (.bi .add (.un .len (.var 5)) (.int 3))), true)
abbrev asDx13 : Q × Bool := ((.le (.bi .add (.un .len (.var 5)) (.int 3)) (.un .len (.var 5))), false)
abbrev asDx14 : Q × Bool := ((.fit .i64 (.bi .add (.bi (.iop .rem .i64) (.un .len (.var 5)) (.int 90)) (.int 160))), true)
abbrev asDx15 : Q × Bool := ((.le (.int 0) (.un .len (.var 5))), true)
abbrev asDx16 : Q × Bool := ((.fit .i64 (.bi .add (.un .len (.var 5)) (.int 1))), true)
abbrev asDx17 : Q × Bool := ((.le (.bi .add (.un .len (.var 5)) (.int 3)) (.bi .add (.un .len (.var 5)) (.int 1))), false)
abbrev asDx18 : Q × Bool := ((.fit .i64 (.bi .add (.bi (.iop .rem .i64) (.bi .add (.un .len (.var 5)) (.int 1)) (.int 90)) (.int 160))), true)
abbrev asDx19 : Q × Bool := ((.le (.int 0) (.bi .add (.un .len (.var 5)) (.int 1))), true)
abbrev asDx20 : Q × Bool := ((.fit .i64 (.bi .add (.un .len (.var 5)) (.int 2))), true)
abbrev asDx21 : Q × Bool := ((.le (.bi .add (.un .len (.var 5)) (.int 3)) (.bi .add (.un .len (.var 5)) (.int 2))), false)
abbrev asDx22 : Q × Bool := ((.fit .i64 (.bi .add (.bi (.iop .rem .i64) (.bi .add (.un .len (.var 5)) (.int 2)) (.int 90)) (.int 160))), true)
abbrev asDx23 : Q × Bool := ((.le (.int 0) (.bi .add (.un .len (.var 5)) (.int 2))), true)
def lentV_t0 : List (Q × Bool) := [asDx7, asDx8, asDx9, asDx10, asDx11, asDx12, asDx13, asDx14, asDx15, asDx16, asDx17, asDx18, asDx19, asDx20, asDx21, asDx22, asDx23]
def lentV_d0 : List Duty := [(false, (.tr .upd (.tr .upd (.tr .upd (.tr .splice (.bi .rep (.bi .add (.un .len (.var 5)) (.int 3)) (.int 0)) (.int 0) (.var 5)) (.un .len (.var 5)) (.un (.wrap .u8) (.bi .add (.bi (.iop .rem .i64) (.un .len (.var 5)) (.int 90)) (.int 160)))) (.bi .add (.un .len (.var 5)) (.int 1)) (.un (.wrap .u8) (.bi .add (.bi (.iop .rem .i64) (.bi .add (.un .len (.var 5)) (.int 1)) (.int 90)) (.int 160)))) (.bi .add (.un .len (.var 5)) (.int 2)) (.un (.wrap .u8) (.bi .add (.bi (.iop .rem .i64) (.bi .add (.un .len (.var 5)) (.int 2)) (.int 90)) (.int 160)))), (.fn 6 (.bi .pair (.var 5) (.bi .pair (.int 0) (.bi .pair (.un .len (.var 5)) (.int 0))))))]
theorem lentV_y0 : endC lentV [(1, 1)] 1000 (callC Tryd.prog (tellA lentV_t0) [] [] [] 3000 40 6 lentV) = some lentV_d0 := by kernel_rfl
theorem lentV_holds : CHolds Tryd.prog 6 lentV F := by
  refine cholds_of sound (tableNil _ _) (specsNil _ _) (oversNil _ _) (fuel := 3000) (depth := 40) (by kernel_rfl) fun d hp hR hA => ?_
  have hp := allTold'_iff.2 hp
  simp only [lentV, allTold', dutiesTold, factsA, factsC, factsP, factsR, AV.facts, RW.facts, inK, and_true, Q.holds', E.i, E.s, E.n, D.nat, E.den, BO.den, UO.den, TO.den, D.toInt_int, D.toList_list, D.ints_ofInts, i64min, i64max, u8min, u8max, u16min, u16max, u32min, u32max, u64min, u64max, i32min, i32max, Om.sub, selI, ints_app, ints_cut, ints_upd, ints_rep, ints_splice, ints_seg, len_ints] at hp hR hA
  refine ⟨tellA lentV_t0, _, _, _, tellA_ok (allTold'_iff.1 ?_), lentV_y0, dutiesTold_ok ?_⟩
  · simp only [lentV_t0, allTold', dutiesTold, factsA, factsC, factsP, factsR, AV.facts, RW.facts, inK, and_true, Q.holds', E.i, E.s, E.n, D.nat, E.den, BO.den, UO.den, TO.den, D.toInt_int, D.toList_list, D.ints_ofInts, i64min, i64max, u8min, u8max, u16min, u16max, u32min, u32max, u64min, u64max, i32min, i32max, Om.sub, selI, ints_app, ints_cut, ints_upd, ints_rep, ints_splice, ints_seg, len_ints]
    rw [rem_emod _ (by omega), rem_emod _ (by omega), rem_emod _ (by omega)]
    omega
  · simp only [lentV_d0, F6, ints_list, List.map_set, List.map_append, List.map_drop, List.map_take, List.map_replicate, map_ints, allTold', dutiesTold, factsA, factsC, factsP, factsR, AV.facts, RW.facts, inK, and_true, Q.holds', E.i, E.s, E.n, D.nat, E.den, BO.den, UO.den, TO.den, D.toInt_int, D.toList_list, D.ints_ofInts, i64min, i64max, u8min, u8max, u16min, u16max, u32min, u32max, u64min, u64max, i32min, i32max, Om.sub, selI, ints_app, ints_cut, ints_upd, ints_rep, ints_splice, ints_seg, len_ints]
    rw [rem_emod _ (by omega), rem_emod _ (by omega), rem_emod _ (by omega)]
    have e1 : prt (d 5).ints 0 ((d 5).ints.length : Int) = (d 5).ints := by
      unfold prt
      rw [List.take_of_length_le (by omega)]
      rfl
    generalize (d 5).ints = X at *
    have h3 := lent_set (List.replicate (X.length + 3) 0) X X.length (by simp)
    rw [e1]
    rw [show ((X.length : Int) + 3).toNat = X.length + 3 by omega, show ((X.length : Int) + 2).toNat = X.length + 2 by omega, show ((X.length : Int) + 1).toNat = X.length + 1 by omega, show ((X.length : Int)).toNat = X.length by omega, show Int.toNat 0 = 0 from rfl, h3]
    unfold lentI markI
    rw [wrap_fit (by simp only [u8min, u8max]; omega), wrap_fit (by simp only [u8min, u8max]; omega), wrap_fit (by simp only [u8min, u8max]; omega)]
    simp only [Int.add_comm]

def keptV : CSpec := { args := [.sslice 1 (.int 0) (.un .len (.var 5)) (.bi .add (.un .len (.var 5)) (.int 3)) false, .pv (.int .u8) (.var 5)], next := 1, rows := [(1, .eseq ⟨.u8, .bi .add (.un .len (.var 5)) (.int 3), .fn 6 (argsE [.var 5, .int 0, .un .len (.var 5)])⟩)], pre := [(.le (.un .len (.var 5)) (.int 1000000), true)], res := .bool true, frows := [], same := [] }
abbrev asDx24 : Q × Bool := ((.le (.un .len (.var 5)) (.int 1000000)), true)
def keptV_t0 : List (Q × Bool) := [asDx7, asDx8, asDx9, asDx24]
def keptV_d0 : List Duty := []
theorem keptV_y0 : endC keptV [] 1000 (callC Tryd.prog (tellA keptV_t0) [] [(6, lentV)] [] 3000 40 8 keptV) = some keptV_d0 := by kernel_rfl
theorem keptV_holds : CHolds Tryd.prog 8 keptV F := by
  refine cholds_of sound (tableNil _ _) (specsCons lentV_holds (specsNil _ _)) (oversNil _ _) (fuel := 3000) (depth := 40) (by kernel_rfl) fun d hp hR hA => ?_
  have hp := allTold'_iff.2 hp
  simp only [keptV, allTold', dutiesTold, factsA, factsC, factsP, factsR, AV.facts, RW.facts, inK, and_true, Q.holds', E.i, E.s, E.n, D.nat, E.den, BO.den, UO.den, TO.den, D.toInt_int, D.toList_list, D.ints_ofInts, i64min, i64max, u8min, u8max, u16min, u16max, u32min, u32max, u64min, u64max, i32min, i32max, Om.sub, selI, ints_app, ints_cut, ints_upd, ints_rep, ints_splice, ints_seg, len_ints] at hp hR hA
  refine ⟨tellA keptV_t0, _, _, _, tellA_ok (allTold'_iff.1 ?_), keptV_y0, dutiesTold_ok ?_⟩
  · simp only [keptV_t0, allTold', dutiesTold, factsA, factsC, factsP, factsR, AV.facts, RW.facts, inK, and_true, Q.holds', E.i, E.s, E.n, D.nat, E.den, BO.den, UO.den, TO.den, D.toInt_int, D.toList_list, D.ints_ofInts, i64min, i64max, u8min, u8max, u16min, u16max, u32min, u32max, u64min, u64max, i32min, i32max, Om.sub, selI, ints_app, ints_cut, ints_upd, ints_rep, ints_splice, ints_seg, len_ints]
    omega
  · simp only [keptV_d0, allTold', dutiesTold, factsA, factsC, factsP, factsR, AV.facts, RW.facts, inK, and_true, Q.holds', E.i, E.s, E.n, D.nat, E.den, BO.den, UO.den, TO.den, D.toInt_int, D.toList_list, D.ints_ofInts, i64min, i64max, u8min, u8max, u16min, u16max, u32min, u32max, u64min, u64max, i32min, i32max, Om.sub, selI, ints_app, ints_cut, ints_upd, ints_rep, ints_splice, ints_seg, len_ints]

def writeC : CSpec := { args := [.ptr 1 0, .sslice 3 (.var 3) (.var 4) (.var 5) false], next := 2, rows := [(1, .cells 43 0 false false [.ptr 1 0, vu32Dx (.var 0) 0, vu32Dx (.var 0) 1, vu32Dx (.var 0) 2, vu32Dx (.var 0) 3, vu32Dx (.var 0) 4, vu32Dx (.var 0) 5, vu32Dx (.var 0) 6, vu32Dx (.var 0) 7, vu8Dx (.var 1) 0, vu8Dx (.var 1) 1, vu8Dx (.var 1) 2, vu8Dx (.var 1) 3, vu8Dx (.var 1) 4, vu8Dx (.var 1) 5, vu8Dx (.var 1) 6, vu8Dx (.var 1) 7, vu8Dx (.var 1) 8, vu8Dx (.var 1) 9, vu8Dx (.var 1) 10, vu8Dx (.var 1) 11, vu8Dx (.var 1) 12, vu8Dx (.var 1) 13, vu8Dx (.var 1) 14, vu8Dx (.var 1) 15, vu8Dx (.var 1) 16, vu8Dx (.var 1) 17, vu8Dx (.var 1) 18, vu8Dx (.var 1) 19, vu8Dx (.var 1) 20, vu8Dx (.var 1) 21, vu8Dx (.var 1) 22, vu8Dx (.var 1) 23, vu8Dx (.var 1) 24, vu8Dx (.var 1) 25, vu8Dx (.var 1) 26, vu8Dx (.var 1) 27, vu8Dx (.var 1) 28, vu8Dx (.var 1) 29, vu8Dx (.var 1) 30, vu8Dx (.var 1) 31, vu8Dx (.var 1) 32, vu8Dx (.var 1) 33, vu8Dx (.var 1) 34, vu8Dx (.var 1) 35, vu8Dx (.var 1) 36, vu8Dx (.var 1) 37, vu8Dx (.var 1) 38, vu8Dx (.var 1) 39, vu8Dx (.var 1) 40, vu8Dx (.var 1) 41, vu8Dx (.var 1) 42, vu8Dx (.var 1) 43, vu8Dx (.var 1) 44, vu8Dx (.var 1) 45, vu8Dx (.var 1) 46, vu8Dx (.var 1) 47, vu8Dx (.var 1) 48, vu8Dx (.var 1) 49, vu8Dx (.var 1) 50, vu8Dx (.var 1) 51, vu8Dx (.var 1) 52, vu8Dx (.var 1) 53, vu8Dx (.var 1) 54, vu8Dx (.var 1) 55, vu8Dx (.var 1) 56, vu8Dx (.var 1) 57, vu8Dx (.var 1) 58, vu8Dx (.var 1) 59, vu8Dx (.var 1) 60, vu8Dx (.var 1) 61, vu8Dx (.var 1) 62, vu8Dx (.var 1) 63, .sint .i64 (.var 2)]), (3, .eseq ⟨.u8, .var 6, .var 7⟩), (0, .ext cellsG)], pre := [(.le (.int 0) (.var 2), true), (.le (.bi .add (.var 2) (.var 4)) (.int 4611686018427387904), true), (.eq (.un .len (.var 1)) (.int 64), true), (.le (.bi .add (.var 3) (.var 4)) (.var 6), true)], res := .tuple [], frows := [(1, .cells 43 0 false false [.ptr 1 0, vu32Dx txDx3 0, vu32Dx txDx3 1, vu32Dx txDx3 2, vu32Dx txDx3 3, vu32Dx txDx3 4, vu32Dx txDx3 5, vu32Dx txDx3 6, vu32Dx txDx3 7, vu8Dx txDx4 0, vu8Dx txDx4 1, vu8Dx txDx4 2, vu8Dx txDx4 3, vu8Dx txDx4 4, vu8Dx txDx4 5, vu8Dx txDx4 6, vu8Dx txDx4 7, vu8Dx txDx4 8, vu8Dx txDx4 9, vu8Dx txDx4 10, vu8Dx txDx4 11, vu8Dx txDx4 12, vu8Dx txDx4 13, vu8Dx txDx4 14, vu8Dx txDx4 15, vu8Dx txDx4 16, vu8Dx txDx4 17, vu8Dx txDx4 18, vu8Dx txDx4 19, vu8Dx txDx4 20, vu8Dx txDx4 21, vu8Dx txDx4 22, vu8Dx txDx4 23, vu8Dx txDx4 24, vu8Dx txDx4 25, vu8Dx txDx4 26, vu8Dx txDx4 27, vu8Dx txDx4 28, vu8Dx txDx4 29, vu8Dx txDx4 30, vu8Dx txDx4 31, vu8Dx txDx4 32, vu8Dx txDx4 33, vu8Dx txDx4 34, vu8Dx txDx4 35, vu8Dx txDx4 36, vu8Dx txDx4 37, vu8Dx txDx4 38, vu8Dx txDx4 39, vu8Dx txDx4 40, vu8Dx txDx4 41, vu8Dx txDx4 42, vu8Dx txDx4 43, vu8Dx txDx4 44, vu8Dx txDx4 45, vu8Dx txDx4 46, vu8Dx txDx4 47, vu8Dx txDx4 48, vu8Dx txDx4 49, vu8Dx txDx4 50, vu8Dx txDx4 51, vu8Dx txDx4 52, vu8Dx txDx4 53, vu8Dx txDx4 54, vu8Dx txDx4 55, vu8Dx txDx4 56, vu8Dx txDx4 57, vu8Dx txDx4 58, vu8Dx txDx4 59, vu8Dx txDx4 60, vu8Dx txDx4 61, vu8Dx txDx4 62, vu8Dx txDx4 63, .sint .i64 (.bi .add (.var 2) (.var 4))])], same := [1] }
abbrev asDx25 : Q × Bool := ((.le (.bi .add (.var 2) (.var 4)) (.int 4611686018427387904)), true)
abbrev asDx26 : Q × Bool := ((.eq (.un .len (.var 1)) (.int 64)), true)
abbrev asDx27 : Q × Bool := ((.le (.bi .add (.var 3) (.var 4)) (.var 6)), true)
def writeC_t0 : List (Q × Bool) := [asDx2, asDx25, asDx26, asDx27]
def writeC_d0 : List Duty := []
theorem writeC_y0 : endC writeC [(1, 1)] 1000 (callC Tryd.prog (tellA writeC_t0) [⟨16, [4], takeD⟩] [] [] 3000 40 7 writeC) = some writeC_d0 := by kernel_rfl
theorem writeC_holds : CHolds Tryd.prog 7 writeC F := by
  refine cholds_of sound (tableCons takeD_holds (tableNil _ _)) (specsNil _ _) (oversNil _ _) (fuel := 3000) (depth := 40) (by kernel_rfl) fun d hp hR hA => ?_
  have hp := allTold'_iff.2 hp
  simp only [writeC, allTold', dutiesTold, factsA, factsC, factsP, factsR, AV.facts, RW.facts, inK, and_true, Q.holds', E.i, E.s, E.n, D.nat, E.den, BO.den, UO.den, TO.den, D.toInt_int, D.toList_list, D.ints_ofInts, i64min, i64max, u8min, u8max, u16min, u16max, u32min, u32max, u64min, u64max, i32min, i32max, Om.sub, selI, ints_app, ints_cut, ints_upd, ints_rep, ints_splice, ints_seg, len_ints] at hp hR hA
  refine ⟨tellA writeC_t0, _, _, _, tellA_ok (allTold'_iff.1 ?_), writeC_y0, dutiesTold_ok ?_⟩
  · simp only [writeC_t0, allTold', dutiesTold, factsA, factsC, factsP, factsR, AV.facts, RW.facts, inK, and_true, Q.holds', E.i, E.s, E.n, D.nat, E.den, BO.den, UO.den, TO.den, D.toInt_int, D.toList_list, D.ints_ofInts, i64min, i64max, u8min, u8max, u16min, u16max, u32min, u32max, u64min, u64max, i32min, i32max, Om.sub, selI, ints_app, ints_cut, ints_upd, ints_rep, ints_splice, ints_seg, len_ints]
    omega
  · simp only [writeC_d0, allTold', dutiesTold, factsA, factsC, factsP, factsR, AV.facts, RW.facts, inK, and_true, Q.holds', E.i, E.s, E.n, D.nat, E.den, BO.den, UO.den, TO.den, D.toInt_int, D.toList_list, D.ints_ofInts, i64min, i64max, u8min, u8max, u16min, u16max, u32min, u32max, u64min, u64max, i32min, i32max, Om.sub, selI, ints_app, ints_cut, ints_upd, ints_rep, ints_splice, ints_seg, len_ints]

def rfillO : CSpec := { args := [.sslice 3 (.var 1) (.var 2) (.var 3) true], next := 2, rows := [(3, .eseq ⟨.u8, .var 4, .var 5⟩)], pre := [(.le (.bi .add (.var 1) (.var 2)) (.var 4), true), (.le (.int 1) (.var 2), true), (.le (.var 2) (.int 100000), true)], res := .sslice 5 (.int 0) (.bi .add (.var 2) (.fn 17 (argsE [.var 2]))) (.bi .add (.var 2) (.fn 17 (argsE [.var 2]))) true, frows := [(5, .seq ⟨5, .u8, .bi .add (.var 2) (.fn 17 (argsE [.var 2])), .fn 19 (argsE [.var 5, .var 1, .var 2]), true, false⟩)], same := [] }
abbrev asDx28 : Q × Bool := ((.le (.bi .add (.var 1) (.var 2)) (.var 4)), true)
abbrev asDx29 : Q × Bool := ((.le (.bi .mul (.var 2) (.int 2)) (.int 281474976710656)), true)
abbrev asDx30 : Q × Bool := ((.le (.bi .mul (.bi .add (.var 2) (.int 1)) (.int 2)) (.int 281474976710656)), true)
abbrev asDx31 : Q × Bool := ((.le (.int 0) (.bi .add (.var 2) (.int 1))), true)
abbrev asDx32 : Q × Bool := ((.le txDx5 (.int 1000000)), true)
abbrev asDx33 : Q × Bool := ((.fit .i64 (.var 2)), true)
abbrev asDx34 : Q × Bool := ((.fit .i64 (.bi .mul (.var 2) (.int 8))), true)
abbrev asDx35 : Q × Bool := ((.le (.bi .mul (.bi .add txDx5 (.int 1)) (.int 2)) (.int 281474976710656)), true)
abbrev asDx36 : Q × Bool := ((.le (.bi .mul (.bi .add txDx5 (.int 2)) (.int 2)) (.int 281474976710656)), true)
abbrev asDx37 : Q × Bool := ((.le (.bi .mul (.bi .add txDx5 (.int 3)) (.int 2)) (.int 281474976710656)), true)
abbrev asDx38 : Q × Bool := ((.le (.bi .mul (.bi .add txDx5 (.int 4)) (.int 2)) (.int 281474976710656)), true)
abbrev asDx39 : Q × Bool := ((.le (.bi .mul (.bi .add txDx5 (.int 5)) (.int 2)) (.int 281474976710656)), true)
abbrev asDx40 : Q × Bool := ((.le (.bi .mul (.bi .add txDx5 (.int 6)) (.int 2)) (.int 281474976710656)), true)
abbrev asDx41 : Q × Bool := ((.le (.bi .mul (.bi .add txDx5 (.int 7)) (.int 2)) (.int 281474976710656)), true)
abbrev asDx42 : Q × Bool := ((.le (.bi .mul (.bi .add txDx5 (.int 8)) (.int 2)) (.int 281474976710656)), true)
def rfillO_t0 : List (Q × Bool) := [asDx28, asDx29, asDx30, asDx31, asDx32, asDx33, asDx34, asDx35, asDx36, asDx37, asDx38, asDx39, asDx40, asDx41, asDx42]
def rfillO_d0 : List Duty := [(true, (.bi .add txDx5 (.int 8)), txDx2), (true, (.bi .add txDx5 (.int 8)), txDx2), (true, (.bi .add txDx5 (.int 8)), txDx2), (false, (.bi .app (.bi .app (.bi .app (.bi .app (.bi .app (.bi .app (.bi .app (.bi .app (.fn 16 (.bi .pair (.bi .add (.var 2) (.int 1)) (.bi .pair (.bi .app (.tr .cut (.var 5) (.var 1) (.bi .add (.var 1) (.var 2))) (.lits [128])) (.int 0)))) (.bi .app (.un .one (.un (.wrap .u8) (.bi (.iop .shr .i64) (.bi .mul (.var 2) (.int 8)) (.int 56)))) (.lits []))) (.bi .app (.un .one (.un (.wrap .u8) (.bi (.iop .shr .i64) (.bi .mul (.var 2) (.int 8)) (.int 48)))) (.lits []))) (.bi .app (.un .one (.un (.wrap .u8) (.bi (.iop .shr .i64) (.bi .mul (.var 2) (.int 8)) (.int 40)))) (.lits []))) (.bi .app (.un .one (.un (.wrap .u8) (.bi (.iop .shr .i64) (.bi .mul (.var 2) (.int 8)) (.int 32)))) (.lits []))) (.bi .app (.un .one (.un (.wrap .u8) (.bi (.iop .shr .i64) (.bi .mul (.var 2) (.int 8)) (.int 24)))) (.lits []))) (.bi .app (.un .one (.un (.wrap .u8) (.bi (.iop .shr .i64) (.bi .mul (.var 2) (.int 8)) (.int 16)))) (.lits []))) (.bi .app (.un .one (.un (.wrap .u8) (.bi (.iop .shr .i64) (.bi .mul (.var 2) (.int 8)) (.int 8)))) (.lits []))) (.bi .app (.un .one (.un (.wrap .u8) (.bi (.iop .shr .i64) (.bi .mul (.var 2) (.int 8)) (.int 0)))) (.lits []))), (.fn 19 (.bi .pair (.var 5) txDx1)))]
theorem rfillO_y0 : endC rfillO [(5, 45)] 1000 (callC Tryd.prog (tellA rfillO_t0) [⟨19, [4, 0, 1, 1, 1], rfillL⟩] [] [] 3000 40 19 rfillO) = some rfillO_d0 := by kernel_rfl
theorem rfillO_holds : CHolds Tryd.prog 19 rfillO F := by
  refine cholds_of sound (tableCons rfillL_holds (tableNil _ _)) (specsNil _ _) (oversNil _ _) (fuel := 3000) (depth := 40) (by kernel_rfl) fun d hp hR hA => ?_
  have hp := allTold'_iff.2 hp
  simp only [rfillO, allTold', dutiesTold, factsA, factsC, factsP, factsR, AV.facts, RW.facts, inK, and_true, Q.holds', E.i, E.s, E.n, D.nat, E.den, BO.den, UO.den, TO.den, D.toInt_int, D.toList_list, D.ints_ofInts, i64min, i64max, u8min, u8max, u16min, u16max, u32min, u32max, u64min, u64max, i32min, i32max, Om.sub, selI, ints_app, ints_cut, ints_upd, ints_rep, ints_splice, ints_seg, len_ints] at hp hR hA
  have hm := emod_in (x := 56 - ((d 2).toInt + 1)) (n := 64) (by omega)
  refine ⟨tellA rfillO_t0, _, _, _, tellA_ok (allTold'_iff.1 ?_), rfillO_y0, dutiesTold_ok ?_⟩
  · simp only [rfillO_t0, F17, F18, allTold', dutiesTold, factsA, factsC, factsP, factsR, AV.facts, RW.facts, inK, and_true, Q.holds', E.i, E.s, E.n, D.nat, E.den, BO.den, UO.den, TO.den, D.toInt_int, D.toList_list, D.ints_ofInts, i64min, i64max, u8min, u8max, u16min, u16max, u32min, u32max, u64min, u64max, i32min, i32max, Om.sub, selI, ints_app, ints_cut, ints_upd, ints_rep, ints_splice, ints_seg, len_ints]
    omega
  · simp only [rfillO_d0, F16, F17, F18, F19, allTold', dutiesTold, factsA, factsC, factsP, factsR, AV.facts, RW.facts, inK, and_true, Q.holds', E.i, E.s, E.n, D.nat, E.den, BO.den, UO.den, TO.den, D.toInt_int, D.toList_list, D.ints_ofInts, i64min, i64max, u8min, u8max, u16min, u16max, u32min, u32max, u64min, u64max, i32min, i32max, Om.sub, selI, ints_app, ints_cut, ints_upd, ints_rep, ints_splice, ints_seg, len_ints]
    refine ⟨by omega, by omega, by omega, ?_⟩
    rw [show (56 - ((d 2).toInt + 1)) % 64 = (119 - (d 2).toInt % 64) % 64 by omega]
    simp only [ints_list, D.ofInts, D.toList_list, List.map_append, List.map_drop, List.map_take, map_ints, List.map_cons, List.map_nil, List.map_map, Function.comp_def, D.toInt_int, List.map_id', List.append_nil]
    simp only [fillI, byteI, List.map_cons, List.map_nil, List.append_assoc, List.cons_append, List.nil_append]
    rfl

def rsumO : CSpec := { args := [.sslice 3 (.var 1) (.var 2) (.var 3) true], next := 2, rows := [(3, .eseq ⟨.u8, .var 4, .var 5⟩)], pre := [(.le (.bi .add (.var 1) (.var 2)) (.var 4), true), (.le (.int 1) (.var 2), true), (.le (.var 2) (.int 100000), true)], res := .agg [.sint .u8 (.bi .sel (.fn 10 (argsE [.var 5, .var 1, .var 2])) (.int 0)), .sint .u8 (.bi .sel (.fn 10 (argsE [.var 5, .var 1, .var 2])) (.int 1)), .sint .u8 (.bi .sel (.fn 10 (argsE [.var 5, .var 1, .var 2])) (.int 2)), .sint .u8 (.bi .sel (.fn 10 (argsE [.var 5, .var 1, .var 2])) (.int 3)), .sint .u8 (.bi .sel (.fn 10 (argsE [.var 5, .var 1, .var 2])) (.int 4)), .sint .u8 (.bi .sel (.fn 10 (argsE [.var 5, .var 1, .var 2])) (.int 5)), .sint .u8 (.bi .sel (.fn 10 (argsE [.var 5, .var 1, .var 2])) (.int 6)), .sint .u8 (.bi .sel (.fn 10 (argsE [.var 5, .var 1, .var 2])) (.int 7)), .sint .u8 (.bi .sel (.fn 10 (argsE [.var 5, .var 1, .var 2])) (.int 8)), .sint .u8 (.bi .sel (.fn 10 (argsE [.var 5, .var 1, .var 2])) (.int 9)), .sint .u8 (.bi .sel (.fn 10 (argsE [.var 5, .var 1, .var 2])) (.int 10)), .sint .u8 (.bi .sel (.fn 10 (argsE [.var 5, .var 1, .var 2])) (.int 11)), .sint .u8 (.bi .sel (.fn 10 (argsE [.var 5, .var 1, .var 2])) (.int 12)), .sint .u8 (.bi .sel (.fn 10 (argsE [.var 5, .var 1, .var 2])) (.int 13)), .sint .u8 (.bi .sel (.fn 10 (argsE [.var 5, .var 1, .var 2])) (.int 14)), .sint .u8 (.bi .sel (.fn 10 (argsE [.var 5, .var 1, .var 2])) (.int 15)), .sint .u8 (.bi .sel (.fn 10 (argsE [.var 5, .var 1, .var 2])) (.int 16)), .sint .u8 (.bi .sel (.fn 10 (argsE [.var 5, .var 1, .var 2])) (.int 17)), .sint .u8 (.bi .sel (.fn 10 (argsE [.var 5, .var 1, .var 2])) (.int 18)), .sint .u8 (.bi .sel (.fn 10 (argsE [.var 5, .var 1, .var 2])) (.int 19)), .sint .u8 (.bi .sel (.fn 10 (argsE [.var 5, .var 1, .var 2])) (.int 20)), .sint .u8 (.bi .sel (.fn 10 (argsE [.var 5, .var 1, .var 2])) (.int 21)), .sint .u8 (.bi .sel (.fn 10 (argsE [.var 5, .var 1, .var 2])) (.int 22)), .sint .u8 (.bi .sel (.fn 10 (argsE [.var 5, .var 1, .var 2])) (.int 23)), .sint .u8 (.bi .sel (.fn 10 (argsE [.var 5, .var 1, .var 2])) (.int 24)), .sint .u8 (.bi .sel (.fn 10 (argsE [.var 5, .var 1, .var 2])) (.int 25)), .sint .u8 (.bi .sel (.fn 10 (argsE [.var 5, .var 1, .var 2])) (.int 26)), .sint .u8 (.bi .sel (.fn 10 (argsE [.var 5, .var 1, .var 2])) (.int 27)), .sint .u8 (.bi .sel (.fn 10 (argsE [.var 5, .var 1, .var 2])) (.int 28)), .sint .u8 (.bi .sel (.fn 10 (argsE [.var 5, .var 1, .var 2])) (.int 29)), .sint .u8 (.bi .sel (.fn 10 (argsE [.var 5, .var 1, .var 2])) (.int 30)), .sint .u8 (.bi .sel (.fn 10 (argsE [.var 5, .var 1, .var 2])) (.int 31))], frows := [], same := [] }
abbrev asDx43 : Q × Bool := ((.le (.int 1) (.var 2)), true)
abbrev asDx44 : Q × Bool := ((.le (.var 2) (.int 100000)), true)
abbrev asDx45 : Q × Bool := ((.le (.int 0) txDx2), true)
abbrev asDx46 : Q × Bool := ((.eq (.bi (.iop .rem .i64) (.bi .sub txDx2 (.int 0)) (.int 64)) (.int 0)), true)
abbrev asDx47 : Q × Bool := ((.le txDx2 (.int 1000000)), true)
def rsumO_t0 : List (Q × Bool) := [asDx28, asDx43, asDx44, asDx45, asDx46, asDx47]
def rsumO_d0 : List Duty := [(true, (.un (.wrap .u8) (.bi (.iop .shr .u32) (.bi .sel (.fn 20 txDx8) (.int 0)) (.int 24))), (.bi .sel (.fn 10 (.bi .pair (.var 5) txDx1)) (.int 0))), (true, (.un (.wrap .u8) (.bi (.iop .shr .u32) (.bi .sel (.fn 20 txDx8) (.int 0)) (.int 16))), (.bi .sel (.fn 10 (.bi .pair (.var 5) txDx1)) (.int 1))), (true, (.un (.wrap .u8) (.bi (.iop .shr .u32) (.bi .sel (.fn 20 txDx8) (.int 0)) (.int 8))), (.bi .sel (.fn 10 (.bi .pair (.var 5) txDx1)) (.int 2))), (true, (.un (.wrap .u8) (.bi (.iop .shr .u32) (.bi .sel (.fn 20 txDx8) (.int 0)) (.int 0))), (.bi .sel (.fn 10 (.bi .pair (.var 5) txDx1)) (.int 3))), (true, (.un (.wrap .u8) (.bi (.iop .shr .u32) (.bi .sel (.fn 20 txDx8) (.int 1)) (.int 24))), (.bi .sel (.fn 10 (.bi .pair (.var 5) txDx1)) (.int 4))), (true, (.un (.wrap .u8) (.bi (.iop .shr .u32) (.bi .sel (.fn 20 txDx8) (.int 1)) (.int 16))), (.bi .sel (.fn 10 (.bi .pair (.var 5) txDx1)) (.int 5))), (true, (.un (.wrap .u8) (.bi (.iop .shr .u32) (.bi .sel (.fn 20 txDx8) (.int 1)) (.int 8))), (.bi .sel (.fn 10 (.bi .pair (.var 5) txDx1)) (.int 6))), (true, (.un (.wrap .u8) (.bi (.iop .shr .u32) (.bi .sel (.fn 20 txDx8) (.int 1)) (.int 0))), (.bi .sel (.fn 10 (.bi .pair (.var 5) txDx1)) (.int 7))), (true, (.un (.wrap .u8) (.bi (.iop .shr .u32) (.bi .sel (.fn 20 txDx8) (.int 2)) (.int 24))), (.bi .sel (.fn 10 (.bi .pair (.var 5) txDx1)) (.int 8))), (true, (.un (.wrap .u8) (.bi (.iop .shr .u32) (.bi .sel (.fn 20 txDx8) (.int 2)) (.int 16))), (.bi .sel (.fn 10 (.bi .pair (.var 5) txDx1)) (.int 9))), (true, (.un (.wrap .u8) (.bi (.iop .shr .u32) (.bi .sel (.fn 20 txDx8) (.int 2)) (.int 8))), (.bi .sel (.fn 10 (.bi .pair (.var 5) txDx1)) (.int 10))), (true, (.un (.wrap .u8) (.bi (.iop .shr .u32) (.bi .sel (.fn 20 txDx8) (.int 2)) (.int 0))), (.bi .sel (.fn 10 (.bi .pair (.var 5) txDx1)) (.int 11))), (true, (.un (.wrap .u8) (.bi (.iop .shr .u32) (.bi .sel (.fn 20 txDx8) (.int 3)) (.int 24))), (.bi .sel (.fn 10 (.bi .pair (.var 5) txDx1)) (.int 12))), (true, (.un (.wrap .u8) (.bi (.iop .shr .u32) (.bi .sel (.fn 20 txDx8) (.int 3)) (.int 16))), (.bi .sel (.fn 10 (.bi .pair (.var 5) txDx1)) (.int 13))), (true, (.un (.wrap .u8) (.bi (.iop .shr .u32) (.bi .sel (.fn 20 txDx8) (.int 3)) (.int 8))), (.bi .sel (.fn 10 (.bi .pair (.var 5) txDx1)) (.int 14))), (true, (.un (.wrap .u8) (.bi (.iop .shr .u32) (.bi .sel (.fn 20 txDx8) (.int 3)) (.int 0))), (.bi .sel (.fn 10 (.bi .pair (.var 5) txDx1)) (.int 15))), (true, (.un (.wrap .u8) (.bi (.iop .shr .u32) (.bi .sel (.fn 20 txDx8) (.int 4)) (.int 24))), (.bi .sel (.fn 10 (.bi .pair (.var 5) txDx1)) (.int 16))), (true, (.un (.wrap .u8) (.bi (.iop .shr .u32) (.bi .sel (.fn 20 txDx8) (.int 4)) (.int 16))), (.bi .sel (.fn 10 (.bi .pair (.var 5) txDx1)) (.int 17))), (true, (.un (.wrap .u8) (.bi (.iop .shr .u32) (.bi .sel (.fn 20 txDx8) (.int 4)) (.int 8))), (.bi .sel (.fn 10 (.bi .pair (.var 5) txDx1)) (.int 18))), (true, (.un (.wrap .u8) (.bi (.iop .shr .u32) (.bi .sel (.fn 20 txDx8) (.int 4)) (.int 0))), (.bi .sel (.fn 10 (.bi .pair (.var 5) txDx1)) (.int 19))), (true, (.un (.wrap .u8) (.bi (.iop .shr .u32) (.bi .sel (.fn 20 txDx8) (.int 5)) (.int 24))), (.bi .sel (.fn 10 (.bi .pair (.var 5) txDx1)) (.int 20))), (true, (.un (.wrap .u8) (.bi (.iop .shr .u32) (.bi .sel (.fn 20 txDx8) (.int 5)) (.int 16))), (.bi .sel (.fn 10 (.bi .pair (.var 5) txDx1)) (.int 21))), (true, (.un (.wrap .u8) (.bi (.iop .shr .u32) (.bi .sel (.fn 20 txDx8) (.int 5)) (.int 8))), (.bi .sel (.fn 10 (.bi .pair (.var 5) txDx1)) (.int 22))), (true, (.un (.wrap .u8) (.bi (.iop .shr .u32) (.bi .sel (.fn 20 txDx8) (.int 5)) (.int 0))), (.bi .sel (.fn 10 (.bi .pair (.var 5) txDx1)) (.int 23))), (true, (.un (.wrap .u8) (.bi (.iop .shr .u32) (.bi .sel (.fn 20 txDx8) (.int 6)) (.int 24))), (.bi .sel (.fn 10 (.bi .pair (.var 5) txDx1)) (.int 24))), (true, (.un (.wrap .u8) (.bi (.iop .shr .u32) (.bi .sel (.fn 20 txDx8) (.int 6)) (.int 16))), (.bi .sel (.fn 10 (.bi .pair (.var 5) txDx1)) (.int 25))), (true, (.un (.wrap .u8) (.bi (.iop .shr .u32) (.bi .sel (.fn 20 txDx8) (.int 6)) (.int 8))), (.bi .sel (.fn 10 (.bi .pair (.var 5) txDx1)) (.int 26))), (true, (.un (.wrap .u8) (.bi (.iop .shr .u32) (.bi .sel (.fn 20 txDx8) (.int 6)) (.int 0))), (.bi .sel (.fn 10 (.bi .pair (.var 5) txDx1)) (.int 27))), (true, (.un (.wrap .u8) (.bi (.iop .shr .u32) (.bi .sel (.fn 20 txDx8) (.int 7)) (.int 24))), (.bi .sel (.fn 10 (.bi .pair (.var 5) txDx1)) (.int 28))), (true, (.un (.wrap .u8) (.bi (.iop .shr .u32) (.bi .sel (.fn 20 txDx8) (.int 7)) (.int 16))), (.bi .sel (.fn 10 (.bi .pair (.var 5) txDx1)) (.int 29))), (true, (.un (.wrap .u8) (.bi (.iop .shr .u32) (.bi .sel (.fn 20 txDx8) (.int 7)) (.int 8))), (.bi .sel (.fn 10 (.bi .pair (.var 5) txDx1)) (.int 30))), (true, (.un (.wrap .u8) (.bi (.iop .shr .u32) (.bi .sel (.fn 20 txDx8) (.int 7)) (.int 0))), (.bi .sel (.fn 10 (.bi .pair (.var 5) txDx1)) (.int 31)))]
theorem rsumO_y0 : endC rsumO [] 1000 (callC Tryd.prog (tellA rsumO_t0) [⟨11, [4, 1, 0, 1, 1, 1], rsumL⟩] [(20, stepC), (19, rfillO)] [] 3000 40 11 rsumO) = some rsumO_d0 := by kernel_rfl
theorem rsumO_holds : CHolds Tryd.prog 11 rsumO F := by
  refine cholds_of sound (tableCons rsumL_holds (tableNil _ _)) (specsCons stepC_holds (specsCons rfillO_holds (specsNil _ _))) (oversNil _ _) (fuel := 3000) (depth := 40) (by kernel_rfl) fun d hp hR hA => ?_
  have hp := allTold'_iff.2 hp
  simp only [rsumO, allTold', dutiesTold, factsA, factsC, factsP, factsR, AV.facts, RW.facts, inK, and_true, Q.holds', E.i, E.s, E.n, D.nat, E.den, BO.den, UO.den, TO.den, D.toInt_int, D.toList_list, D.ints_ofInts, i64min, i64max, u8min, u8max, u16min, u16max, u32min, u32max, u64min, u64max, i32min, i32max, Om.sub, selI, ints_app, ints_cut, ints_upd, ints_rep, ints_splice, ints_seg, len_ints] at hp hR hA
  have hm := emod_in (x := (d 2).toInt) (n := 64) (by omega)
  have hm2 := emod_in (x := 119 - (d 2).toInt % 64) (n := 64) (by omega)
  have hz : iopI .rem .i64 ((d 2).toInt + ((119 - (d 2).toInt % 64) % 64 + 9) - 0) 64 = ((d 2).toInt + ((119 - (d 2).toInt % 64) % 64 + 9) - 0) % 64 := rem_emod .i64 (by omega)
  refine ⟨tellA rsumO_t0, _, _, _, tellA_ok (allTold'_iff.1 ?_), rsumO_y0, dutiesTold_ok ?_⟩
  · simp only [rsumO_t0, F17, allTold', dutiesTold, factsA, factsC, factsP, factsR, AV.facts, RW.facts, inK, and_true, Q.holds', E.i, E.s, E.n, D.nat, E.den, BO.den, UO.den, TO.den, D.toInt_int, D.toList_list, D.ints_ofInts, i64min, i64max, u8min, u8max, u16min, u16max, u32min, u32max, u64min, u64max, i32min, i32max, Om.sub, selI, ints_app, ints_cut, ints_upd, ints_rep, ints_splice, ints_seg, len_ints]
    rw [hz]
    omega
  · simp only [rsumO_d0, F10, F17, F19, F20, allTold', dutiesTold, factsA, factsC, factsP, factsR, AV.facts, RW.facts, inK, and_true, Q.holds', E.i, E.s, E.n, D.nat, E.den, BO.den, UO.den, TO.den, D.toInt_int, D.toList_list, D.ints_ofInts, i64min, i64max, u8min, u8max, u16min, u16max, u32min, u32max, u64min, u64max, i32min, i32max, Om.sub, selI, ints_app, ints_cut, ints_upd, ints_rep, ints_splice, ints_seg, len_ints]
    have e := blk_sum (X := (d 5).ints) (o := (d 1).toInt) (l := (d 2).toInt) (by omega) (by omega) (by omega)
    unfold firstL at e
    rw [e]
    and_intros <;> rfl

end Go.Proofs.YtfphohneafeleaaDoor.Dx
