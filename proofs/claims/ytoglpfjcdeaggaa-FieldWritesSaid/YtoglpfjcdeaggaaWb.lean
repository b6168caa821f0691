/-
  Contracts of this seat: what loops and calls leave, for all inputs. No condition.
-/
import Derived.Test.YtoglpfjcdeaggaaSycp
import Derived.Test.YtoglpfjcdeaggaaSyfm
import Derived.Test.YtoglpfjcdeaggaaCo
import Derived.Test.YtoglpfjcdeaggaaWa
set_option linter.unusedSimpArgs false
set_option linter.unusedVariables false
namespace Go.Proofs.Ytoglpfjcdeaggaa.Wb
open Go.RowKit Go.Ev Go.Proofs.Ytoglpfjcdeaggaa.Co

open Go.Proofs.Ytoglpfjcdeaggaa.Wa

theorem five_cut {n : Int} (h0 : 0 ≤ n) (h : n ≤ 2147483647) : List.drop (5 - szI n).toNat (List.take (5 - szI n + szI n).toNat (fiveI n)) = putL n := by
  have h1 := put_len h0 h
  have h2 := sz_in n
  unfold fiveI
  rw [List.take_of_length_le (by simp; omega), List.drop_append_of_le_length (by simp), List.drop_of_length_le (by simp), List.nil_append]
theorem lent_cut (x : List Int) : List.drop 0 (List.take (x.length : Int).toNat (lentI (prt x 0 x.length))) = x := by
  have e : prt x 0 x.length = x := by
    unfold prt
    rw [List.take_of_length_le (by omega)]
    rfl
  rw [e]
  unfold lentI
  rw [List.take_append_of_le_length (by omega), List.take_of_length_le (by omega)]
  rfl

def overL : LSpec := { n := 22, next := 1, pat := [(3, .sint .i64 (.var 2)), (2, .sslice 1 (.int 0) (.var 0) (.var 0) false)], rows := [(1, .seq ⟨5, .u8, .var 0, .var 1, false, false⟩)], pre := [(.le (.int 0) (.var 2), true), (.le (.var 2) (.var 0), true), (.le (.var 0) (.int 9223372036854775807), true)], x := 0, fin := [], frows := [], same := [], chg := [2, 3, 8, 9, 10, 11, 12, 13, 14, 15, 16, 17, 18, 19, 20, 21] }
abbrev asWb0 : Q × Bool := ((.fit .i64 (.var 0)), true)
abbrev asWb1 : Q × Bool := ((.le (.var 0) (.var 2)), false)
abbrev asWb2 : Q × Bool := ((.le (.int 0) (.var 2)), true)
abbrev asWb3 : Q × Bool := ((.fit .i64 (.bi .add (.var 2) (.int 1))), true)
def overL_t0 : List (Q × Bool) := [asWb0, asWb1, asWb2, asWb3]
def overL_d0 : List Duty := []
def overL_h0 : List (Nat × E) := [(1, (.tr .upd (.var 1) (.var 2) (.bi (.iop .xor .u8) (.bi .sel (.var 1) (.var 2)) (.int 90)))), (0, (.var 0)), (2, (.bi .add (.var 2) (.int 1)))]
theorem overL_h0_0 : lookE overL_h0 0 = (.var 0) := rfl
theorem overL_h0_1 : lookE overL_h0 1 = (.tr .upd (.var 1) (.var 2) (.bi (.iop .xor .u8) (.bi .sel (.var 1) (.var 2)) (.int 90))) := rfl
theorem overL_h0_2 : lookE overL_h0 2 = (.bi .add (.var 2) (.int 1)) := rfl
theorem overL_y0 : nextD overL overL_h0 [(1, 1)] (roundC Try.prog [] [] [] 3000 40 18 [4, 1, 1] (tellA overL_t0) overL) = some overL_d0 := by kernel_rfl
abbrev asWb4 : Q × Bool := ((.le (.var 0) (.var 2)), true)
def overL_t1 : List (Q × Bool) := [asWb0, asWb4]
def overL_d1 : List Duty := []
theorem overL_y1 : endD overL [(1, 1)] 1000 (roundC Try.prog [] [] [] 3000 40 18 [4, 1, 1] (tellA overL_t1) overL) = some overL_d1 := by kernel_rfl
theorem overL_holds : LHolds Try.prog (loopAt Try.prog 18 [4, 1, 1]) overL F := by
  refine loop_roundsC sound (tableNil _ _) (specsNil _ _) (oversNil _ _) (fuel := 3000) (depth := 40) (by kernel_rfl) (by kernel_rfl) (by kernel_rfl) (fun d => ((d 0).toInt - (d 2).toInt).toNat) fun d hp hR hA => ?_
  have hp := allTold'_iff.2 hp
  simp only [overL, allTold', dutiesTold, factsA, factsC, factsP, factsR, AV.facts, RW.facts, inK, and_true, Q.holds', E.i, E.s, E.n, D.nat, E.den, BO.den, UO.den, TO.den, D.toInt_int, D.toList_list, D.ints_ofInts, i64min, i64max, u8min, u8max, u16min, u16max, u32min, u32max, u64min, u64max, i32min, i32max, Om.sub, selI, ints_app, ints_cut, ints_upd, ints_rep, ints_splice, ints_seg, len_ints] at hp hR hA
  by_cases h : (d 0).toInt ≤ (d 2).toInt
  · refine ⟨tellA overL_t1, tellA_ok (allTold'_iff.1 ?_), .inl ⟨_, _, _, overL_y1, dutiesTold_ok ?_⟩⟩
    · simp only [overL_t1, allTold', dutiesTold, factsA, factsC, factsP, factsR, AV.facts, RW.facts, inK, and_true, Q.holds', E.i, E.s, E.n, D.nat, E.den, BO.den, UO.den, TO.den, D.toInt_int, D.toList_list, D.ints_ofInts, i64min, i64max, u8min, u8max, u16min, u16max, u32min, u32max, u64min, u64max, i32min, i32max, Om.sub, selI, ints_app, ints_cut, ints_upd, ints_rep, ints_splice, ints_seg, len_ints]
      omega
    · simp only [overL_d1, allTold', dutiesTold, factsA, factsC, factsP, factsR, AV.facts, RW.facts, inK, and_true, Q.holds', E.i, E.s, E.n, D.nat, E.den, BO.den, UO.den, TO.den, D.toInt_int, D.toList_list, D.ints_ofInts, i64min, i64max, u8min, u8max, u16min, u16max, u32min, u32max, u64min, u64max, i32min, i32max, Om.sub, selI, ints_app, ints_cut, ints_upd, ints_rep, ints_splice, ints_seg, len_ints]
  · refine ⟨tellA overL_t0, tellA_ok (allTold'_iff.1 ?_), .inr ⟨overL_h0, _, _, overL_y0, dutiesTold_ok ?_, allTold'_iff.1 ?_, ?_⟩⟩
    · simp only [overL_t0, allTold', dutiesTold, factsA, factsC, factsP, factsR, AV.facts, RW.facts, inK, and_true, Q.holds', E.i, E.s, E.n, D.nat, E.den, BO.den, UO.den, TO.den, D.toInt_int, D.toList_list, D.ints_ofInts, i64min, i64max, u8min, u8max, u16min, u16max, u32min, u32max, u64min, u64max, i32min, i32max, Om.sub, selI, ints_app, ints_cut, ints_upd, ints_rep, ints_splice, ints_seg, len_ints]
      omega
    · simp only [overL_d0, allTold', dutiesTold, factsA, factsC, factsP, factsR, AV.facts, RW.facts, inK, and_true, Q.holds', E.i, E.s, E.n, D.nat, E.den, BO.den, UO.den, TO.den, D.toInt_int, D.toList_list, D.ints_ofInts, i64min, i64max, u8min, u8max, u16min, u16max, u32min, u32max, u64min, u64max, i32min, i32max, Om.sub, selI, ints_app, ints_cut, ints_upd, ints_rep, ints_splice, ints_seg, len_ints]
    · simp only [overL, overL_h0_0, overL_h0_1, overL_h0_2, allTold', dutiesTold, factsA, factsC, factsP, factsR, AV.facts, RW.facts, inK, and_true, Q.holds', E.i, E.s, E.n, D.nat, E.den, BO.den, UO.den, TO.den, D.toInt_int, D.toList_list, D.ints_ofInts, i64min, i64max, u8min, u8max, u16min, u16max, u32min, u32max, u64min, u64max, i32min, i32max, Om.sub, selI, ints_app, ints_cut, ints_upd, ints_rep, ints_splice, ints_seg, len_ints]
      omega
    · simp only [overL_h0_0, overL_h0_1, overL_h0_2, allTold', dutiesTold, factsA, factsC, factsP, factsR, AV.facts, RW.facts, inK, and_true, Q.holds', E.i, E.s, E.n, D.nat, E.den, BO.den, UO.den, TO.den, D.toInt_int, D.toList_list, D.ints_ofInts, i64min, i64max, u8min, u8max, u16min, u16max, u32min, u32max, u64min, u64max, i32min, i32max, Om.sub, selI, ints_app, ints_cut, ints_upd, ints_rep, ints_splice, ints_seg, len_ints]
      omega

def overV : CSpec := overC 5 .u8
abbrev asWb5 : Q × Bool := ((.le (.int 0) (.var 0)), true)
abbrev asWb6 : Q × Bool := ((.le (.var 0) (.int 9223372036854775807)), true)
def overV_t0 : List (Q × Bool) := [asWb0, asWb5, asWb6]
def overV_d0 : List Duty := []
theorem overV_y0 : endC overV [] 1000 (callC Try.prog (tellA overV_t0) [⟨18, [4, 1, 1], overL⟩] [] [] 3000 40 18 overV) = some overV_d0 := by kernel_rfl
theorem overV_holds : CHolds Try.prog 18 (overC 5 .u8) F := by
  refine cholds_of sound (tableCons overL_holds (tableNil _ _)) (specsNil _ _) (oversNil _ _) (fuel := 3000) (depth := 40) (by kernel_rfl) fun d hp hR hA => ?_
  have hp := allTold'_iff.2 hp
  simp only [overC, allTold', dutiesTold, factsA, factsC, factsP, factsR, AV.facts, RW.facts, inK, and_true, Q.holds', E.i, E.s, E.n, D.nat, E.den, BO.den, UO.den, TO.den, D.toInt_int, D.toList_list, D.ints_ofInts, i64min, i64max, u8min, u8max, u16min, u16max, u32min, u32max, u64min, u64max, i32min, i32max, Om.sub, selI, ints_app, ints_cut, ints_upd, ints_rep, ints_splice, ints_seg, len_ints] at hp hR hA
  refine ⟨tellA overV_t0, _, _, _, tellA_ok (allTold'_iff.1 ?_), overV_y0, dutiesTold_ok ?_⟩
  · simp only [overV_t0, allTold', dutiesTold, factsA, factsC, factsP, factsR, AV.facts, RW.facts, inK, and_true, Q.holds', E.i, E.s, E.n, D.nat, E.den, BO.den, UO.den, TO.den, D.toInt_int, D.toList_list, D.ints_ofInts, i64min, i64max, u8min, u8max, u16min, u16max, u32min, u32max, u64min, u64max, i32min, i32max, Om.sub, selI, ints_app, ints_cut, ints_upd, ints_rep, ints_splice, ints_seg, len_ints]
    omega
  · simp only [overV_d0, allTold', dutiesTold, factsA, factsC, factsP, factsR, AV.facts, RW.facts, inK, and_true, Q.holds', E.i, E.s, E.n, D.nat, E.den, BO.den, UO.den, TO.den, D.toInt_int, D.toList_list, D.ints_ofInts, i64min, i64max, u8min, u8max, u16min, u16max, u32min, u32max, u64min, u64max, i32min, i32max, Om.sub, selI, ints_app, ints_cut, ints_upd, ints_rep, ints_splice, ints_seg, len_ints]

def lentV : CSpec := { args := [.pv (.int .u8) (.var 5)], next := 0, rows := [], pre := [(.le (.un .len (.var 5)) (.int 1000000), true)], res := .sslice 1 (.int 0) (.un .len (.var 5)) (.bi .add (.un .len (.var 5)) (.int 3)) false, frows := [(1, .seq ⟨5, .u8, .bi .add (.un .len (.var 5)) (.int 3), .fn 6 (argsE [.var 5, .int 0, .un .len (.var 5)]), false, false⟩)], same := [] }
abbrev asWb7 : Q × Bool := ((.fit .i64 (.un .len (.var 5))), true)
abbrev asWb8 : Q × Bool := ((.fit .i64 (.bi .add (.un .len (.var 5)) (.int 3))), true)
abbrev asWb9 : Q × Bool := ((.le (.int 0) (.bi .add (.un .len (.var 5)) (.int 3))), true)
abbrev asWb10 : Q × Bool := ((.le (.bi .add (.un .len (.var 5)) (.int 3)) (.int 281474976710656)), true)
abbrev asWb11 : Q × Bool := ((.le (.bi .add (.un .len (.var 5)) (.int 3)) (.int 9223372036854775807)), true)
abbrev asWb12 : Q × Bool := ((.le (.un .len (.var 5)) (.bi .add (.un .len (.var 5)) (.int 3))), true)
abbrev asWb13 : Q × Bool := ((.le (.bi .add (.un .len (.var 5)) (.int 3)) (.un .len (.var 5))), false)
abbrev asWb14 : Q × Bool := ((.fit .i64 (.bi .add (.bi (.iop .rem .i64) (.un .len (.var 5)) (.int 90)) (.int 160))), true)
abbrev asWb15 : Q × Bool := ((.le (.int 0) (.un .len (.var 5))), true)
abbrev asWb16 : Q × Bool := ((.fit .i64 (.bi .add (.un .len (.var 5)) (.int 1))), true)
abbrev asWb17 : Q × Bool := ((.le (.bi .add (.un .len (.var 5)) (.int 3)) (.bi .add (.un .len (.var 5)) (.int 1))), false)
abbrev asWb18 : Q × Bool := ((.fit .i64 (.bi .add (.bi (.iop .rem .i64) (.bi .add (.un .len (.var 5)) (.int 1)) (.int 90)) (.int 160))), true)
abbrev asWb19 : Q × Bool := ((.le (.int 0) (.bi .add (.un .len (.var 5)) (.int 1))), true)
abbrev asWb20 : Q × Bool := ((.fit .i64 (.bi .add (.un .len (.var 5)) (.int 2))), true)
abbrev asWb21 : Q × Bool := ((.le (.bi .add (.un .len (.var 5)) (.int 3)) (.bi .add (.un .len (.var 5)) (.int 2))), false)
abbrev asWb22 : Q × Bool := ((.fit .i64 (.bi .add (.bi (.iop .rem .i64) (.bi .add (.un .len (.var 5)) (.int 2)) (.int 90)) (.int 160))), true)
abbrev asWb23 : Q × Bool := ((.le (.int 0) (.bi .add (.un .len (.var 5)) (.int 2))), true)
def lentV_t0 : List (Q × Bool) := [asWb7, asWb8, asWb9, asWb10, asWb11, asWb12, asWb13, asWb14, asWb15, asWb16, asWb17, asWb18, asWb19, asWb20, asWb21, asWb22, asWb23]
def lentV_d0 : List Duty := [(false, (.tr .upd (.tr .upd (.tr .upd (.tr .splice (.bi .rep (.bi .add (.un .len (.var 5)) (.int 3)) (.int 0)) (.int 0) (.var 5)) (.un .len (.var 5)) (.un (.wrap .u8) (.bi .add (.bi (.iop .rem .i64) (.un .len (.var 5)) (.int 90)) (.int 160)))) (.bi .add (.un .len (.var 5)) (.int 1)) (.un (.wrap .u8) (.bi .add (.bi (.iop .rem .i64) (.bi .add (.un .len (.var 5)) (.int 1)) (.int 90)) (.int 160)))) (.bi .add (.un .len (.var 5)) (.int 2)) (.un (.wrap .u8) (.bi .add (.bi (.iop .rem .i64) (.bi .add (.un .len (.var 5)) (.int 2)) (.int 90)) (.int 160)))), (.fn 6 (.bi .pair (.var 5) (.bi .pair (.int 0) (.bi .pair (.un .len (.var 5)) (.int 0))))))]
theorem lentV_y0 : endC lentV [(1, 1)] 1000 (callC Try.prog (tellA lentV_t0) [] [] [] 3000 40 8 lentV) = some lentV_d0 := by kernel_rfl
theorem lentV_holds : CHolds Try.prog 8 lentV F := by
  refine cholds_of sound (tableNil _ _) (specsNil _ _) (oversNil _ _) (fuel := 3000) (depth := 40) (by kernel_rfl) fun d hp hR hA => ?_
  have hp := allTold'_iff.2 hp
  simp only [lentV, allTold', dutiesTold, factsA, factsC, factsP, factsR, AV.facts, RW.facts, inK, and_true, Q.holds', E.i, E.s, E.n, D.nat, E.den, BO.den, UO.den, TO.den, D.toInt_int, D.toList_list, D.ints_ofInts, i64min, i64max, u8min, u8max, u16min, u16max, u32min, u32max, u64min, u64max, i32min, i32max, Om.sub, selI, ints_app, ints_cut, ints_upd, ints_rep, ints_splice, ints_seg, len_ints] at hp hR hA
  refine ⟨tellA lentV_t0, _, _, _, tellA_ok (allTold'_iff.1 ?_), lentV_y0, dutiesTold_ok ?_⟩
  · simp only [lentV_t0, allTold', dutiesTold, factsA, factsC, factsP, factsR, AV.facts, RW.facts, inK, and_true, Q.holds', E.i, E.s, E.n, D.nat, E.den, BO.den, UO.den, TO.den, D.toInt_int, D.toList_list, D.ints_ofInts, i64min, i64max, u8min, u8max, u16min, u16max, u32min, u32max, u64min, u64max, i32min, i32max, Om.sub, selI, ints_app, ints_cut, ints_upd, ints_rep, ints_splice, ints_seg, len_ints]
    rw [rem_emod _ (by omega), rem_emod _ (by omega), rem_emod _ (by omega)]
    omega
  · simp only [lentV_d0, F6, ints_list, List.map_set, List.map_append, List.map_drop, List.map_take, List.map_replicate, map_ints, allTold', dutiesTold, factsA, factsC, factsP, factsR, AV.facts, RW.facts, inK, and_true, Q.holds', E.i, E.s, E.n, D.nat, E.den, BO.den, UO.den, TO.den, D.toInt_int, D.toList_list, D.ints_ofInts, i64min, i64max, u8min, u8max, u16min, u16max, u32min, u32max, u64min, u64max, i32min, i32max, Om.sub, selI, ints_app, ints_cut, ints_upd, ints_rep, ints_splice, ints_seg, len_ints]
    rw [rem_emod _ (by omega), rem_emod _ (by omega), rem_emod _ (by omega)]
    have e1 : prt (d 5).ints 0 ((d 5).ints.length : Int) = (d 5).ints := by
      unfold prt
      rw [List.take_of_length_le (by omega)]
      rfl
    generalize (d 5).ints = X at *
    have h3 := lent_set (List.replicate (X.length + 3) 0) X X.length (by simp)
    rw [e1]
    rw [show ((X.length : Int) + 3).toNat = X.length + 3 by omega, show ((X.length : Int) + 2).toNat = X.length + 2 by omega, show ((X.length : Int) + 1).toNat = X.length + 1 by omega, show ((X.length : Int)).toNat = X.length by omega, show Int.toNat 0 = 0 from rfl, h3]
    unfold lentI markI
    rw [wrap_fit (by simp only [u8min, u8max]; omega), wrap_fit (by simp only [u8min, u8max]; omega), wrap_fit (by simp only [u8min, u8max]; omega)]
    simp only [Int.add_comm]

def keptV : CSpec := { args := [.sslice 1 (.int 0) (.un .len (.var 5)) (.bi .add (.un .len (.var 5)) (.int 3)) false, .pv (.int .u8) (.var 5)], next := 1, rows := [(1, .eseq ⟨.u8, .bi .add (.un .len (.var 5)) (.int 3), .fn 6 (argsE [.var 5, .int 0, .un .len (.var 5)])⟩)], pre := [(.le (.un .len (.var 5)) (.int 1000000), true)], res := .bool true, frows := [], same := [] }
abbrev asWb24 : Q × Bool := ((.le (.un .len (.var 5)) (.int 1000000)), true)
def keptV_t0 : List (Q × Bool) := [asWb7, asWb8, asWb9, asWb24]
def keptV_d0 : List Duty := []
theorem keptV_y0 : endC keptV [] 1000 (callC Try.prog (tellA keptV_t0) [] [(8, lentV)] [] 3000 40 17 keptV) = some keptV_d0 := by kernel_rfl
theorem keptV_holds : CHolds Try.prog 17 keptV F := by
  refine cholds_of sound (tableNil _ _) (specsCons lentV_holds (specsNil _ _)) (oversNil _ _) (fuel := 3000) (depth := 40) (by kernel_rfl) fun d hp hR hA => ?_
  have hp := allTold'_iff.2 hp
  simp only [keptV, allTold', dutiesTold, factsA, factsC, factsP, factsR, AV.facts, RW.facts, inK, and_true, Q.holds', E.i, E.s, E.n, D.nat, E.den, BO.den, UO.den, TO.den, D.toInt_int, D.toList_list, D.ints_ofInts, i64min, i64max, u8min, u8max, u16min, u16max, u32min, u32max, u64min, u64max, i32min, i32max, Om.sub, selI, ints_app, ints_cut, ints_upd, ints_rep, ints_splice, ints_seg, len_ints] at hp hR hA
  refine ⟨tellA keptV_t0, _, _, _, tellA_ok (allTold'_iff.1 ?_), keptV_y0, dutiesTold_ok ?_⟩
  · simp only [keptV_t0, allTold', dutiesTold, factsA, factsC, factsP, factsR, AV.facts, RW.facts, inK, and_true, Q.holds', E.i, E.s, E.n, D.nat, E.den, BO.den, UO.den, TO.den, D.toInt_int, D.toList_list, D.ints_ofInts, i64min, i64max, u8min, u8max, u16min, u16max, u32min, u32max, u64min, u64max, i32min, i32max, Om.sub, selI, ints_app, ints_cut, ints_upd, ints_rep, ints_splice, ints_seg, len_ints]
    omega
  · simp only [keptV_d0, allTold', dutiesTold, factsA, factsC, factsP, factsR, AV.facts, RW.facts, inK, and_true, Q.holds', E.i, E.s, E.n, D.nat, E.den, BO.den, UO.den, TO.den, D.toInt_int, D.toList_list, D.ints_ofInts, i64min, i64max, u8min, u8max, u16min, u16max, u32min, u32max, u64min, u64max, i32min, i32max, Om.sub, selI, ints_app, ints_cut, ints_upd, ints_rep, ints_splice, ints_seg, len_ints]

def largeL : LSpec := { n := 30, next := 0, pat := [(0, .pv (.agg [.int .i64, .int .i64, .int .i64, .sl (.int .u8), .agg [.int .u8, .int .u8, .int .u8, .int .u8, .int .u8, .int .u8, .int .u8, .int .u8, .int .u8, .int .u8, .int .u8, .int .u8, .int .u8, .int .u8, .int .u8, .int .u8]]) (.var 0)), (3, .sint .i64 (.var 1)), (4, .sint .i64 (.var 2))], rows := [], pre := [(.le (.int 0) (.var 2), true), (.le (.var 2) (.int 41), true), (.le (.int 0) (.var 1), true), (.le (.int 0) (.fn 30 (.bi .pair (.var 0) (.bi .pair (.var 2) (.int 0)))), true), (.le (.bi .add (.var 1) (.fn 30 (.bi .pair (.var 0) (.bi .pair (.var 2) (.int 0))))) (.int 4611686018427387904), true), (.le (.un .len (.var 0)) (.int 9223372036854775807), true)], x := 0, fin := [(3, .sint .i64 (.bi .add (.var 1) (.fn 30 (.bi .pair (.var 0) (.bi .pair (.var 2) (.int 0)))))), (0, .pv (.agg [.int .i64, .int .i64, .int .i64, .sl (.int .u8), .agg [.int .u8, .int .u8, .int .u8, .int .u8, .int .u8, .int .u8, .int .u8, .int .u8, .int .u8, .int .u8, .int .u8, .int .u8, .int .u8, .int .u8, .int .u8, .int .u8]]) (.var 0))], frows := [], same := [], chg := [0, 3, 4, 5, 6, 7, 8, 9, 10, 11, 12, 13, 14, 15, 16, 17, 18, 19, 20, 21, 22] }
abbrev asWb25 : Q × Bool := ((.fit .i64 (.un .len (.var 0))), true)
abbrev asWb26 : Q × Bool := ((.le (.un .len (.var 0)) (.var 2)), false)
abbrev asWb27 : Q × Bool := ((.le (.int 41) (.var 2)), false)
abbrev asWb28 : Q × Bool := ((.fit .i64 (.un .len (.bi .sel (.bi .sel (.var 0) (.var 2)) (.int 3)))), true)
abbrev asWb29 : Q × Bool := ((.fit .i64 (.bi .add (.var 1) (.un .len (.bi .sel (.bi .sel (.var 0) (.var 2)) (.int 3))))), true)
def largeL_t0 : List (Q × Bool) := [asWb25, asWb26, asWb27, asWb2, asWb28, asWb29, asWb3]
def largeL_d0 : List Duty := [(true, (.bi .add (.bi .add (.var 1) (.un .len (.bi .sel (.bi .sel (.var 0) (.var 2)) (.int 3)))) (.fn 30 (.bi .pair (.var 0) (.bi .pair (.bi .add (.var 2) (.int 1)) (.int 0))))), (.bi .add (.var 1) (.fn 30 (.bi .pair (.var 0) (.bi .pair (.var 2) (.int 0))))))]
def largeL_h0 : List (Nat × E) := [(2, (.bi .add (.var 2) (.int 1))), (1, (.bi .add (.var 1) (.un .len (.bi .sel (.bi .sel (.var 0) (.var 2)) (.int 3))))), (0, (.var 0))]
theorem largeL_h0_0 : lookE largeL_h0 0 = (.var 0) := rfl
theorem largeL_h0_1 : lookE largeL_h0 1 = (.bi .add (.var 1) (.un .len (.bi .sel (.bi .sel (.var 0) (.var 2)) (.int 3)))) := rfl
theorem largeL_h0_2 : lookE largeL_h0 2 = (.bi .add (.var 2) (.int 1)) := rfl
theorem largeL_y0 : nextD largeL largeL_h0 [] (roundC Try.prog [] [] [] 3000 40 6 [4, 1, 0, 1, 1] (tellA largeL_t0) largeL) = some largeL_d0 := by kernel_rfl
abbrev asWb30 : Q × Bool := ((.le (.un .len (.var 0)) (.var 2)), true)
def largeL_t1 : List (Q × Bool) := [asWb25, asWb30]
def largeL_d1 : List Duty := [(true, (.var 1), (.bi .add (.var 1) (.fn 30 (.bi .pair (.var 0) (.bi .pair (.var 2) (.int 0))))))]
theorem largeL_y1 : endD largeL [] 1000 (roundC Try.prog [] [] [] 3000 40 6 [4, 1, 0, 1, 1] (tellA largeL_t1) largeL) = some largeL_d1 := by kernel_rfl
abbrev asWb31 : Q × Bool := ((.le (.int 41) (.var 2)), true)
def largeL_t2 : List (Q × Bool) := [asWb25, asWb26, asWb31]
def largeL_d2 : List Duty := [(true, (.var 1), (.bi .add (.var 1) (.fn 30 (.bi .pair (.var 0) (.bi .pair (.var 2) (.int 0))))))]
theorem largeL_y2 : endD largeL [] 1000 (roundC Try.prog [] [] [] 3000 40 6 [4, 1, 0, 1, 1] (tellA largeL_t2) largeL) = some largeL_d2 := by kernel_rfl
theorem largeL_holds : LHolds Try.prog (loopAt Try.prog 6 [4, 1, 0, 1, 1]) largeL F := by
  refine loop_roundsC sound (tableNil _ _) (specsNil _ _) (oversNil _ _) (fuel := 3000) (depth := 40) (by kernel_rfl) (by kernel_rfl) (by kernel_rfl) (fun d => (41 - (d 2).toInt).toNat) fun d hp hR hA => ?_
  have hp := allTold'_iff.2 hp
  simp only [largeL, allTold', dutiesTold, factsA, factsC, factsP, factsR, AV.facts, RW.facts, inK, and_true, Q.holds', E.i, E.s, E.n, D.nat, E.den, BO.den, UO.den, TO.den, D.toInt_int, D.toList_list, D.ints_ofInts, i64min, i64max, u8min, u8max, u16min, u16max, u32min, u32max, u64min, u64max, i32min, i32max, Om.sub, selI, ints_app, ints_cut, ints_upd, ints_rep, ints_splice, ints_seg, len_ints] at hp hR hA
  simp only [F30, allTold', dutiesTold, factsA, factsC, factsP, factsR, AV.facts, RW.facts, inK, and_true, Q.holds', E.i, E.s, E.n, D.nat, E.den, BO.den, UO.den, TO.den, D.toInt_int, D.toList_list, D.ints_ofInts, i64min, i64max, u8min, u8max, u16min, u16max, u32min, u32max, u64min, u64max, i32min, i32max, Om.sub, selI, ints_app, ints_cut, ints_upd, ints_rep, ints_splice, ints_seg, len_ints] at hp
  have g0 : (d 0).ints.length = (d 0).toList.length := (len_ints _).symm
  have z3 : Int.toNat 3 = 3 := rfl
  have hnn := lens_nn (((d 0).toList.take 41).drop (d 2).toInt.toNat)
  by_cases h : ((d 0).toList.length : Int) ≤ (d 2).toInt
  · refine ⟨tellA largeL_t1, tellA_ok (allTold'_iff.1 ?_), .inl ⟨_, _, _, largeL_y1, dutiesTold_ok ?_⟩⟩
    · simp only [largeL_t1, allTold', dutiesTold, factsA, factsC, factsP, factsR, AV.facts, RW.facts, inK, and_true, Q.holds', E.i, E.s, E.n, D.nat, E.den, BO.den, UO.den, TO.den, D.toInt_int, D.toList_list, D.ints_ofInts, i64min, i64max, u8min, u8max, u16min, u16max, u32min, u32max, u64min, u64max, i32min, i32max, Om.sub, selI, ints_app, ints_cut, ints_upd, ints_rep, ints_splice, ints_seg, len_ints]
      omega
    · simp only [largeL_d1, F30, allTold', dutiesTold, factsA, factsC, factsP, factsR, AV.facts, RW.facts, inK, and_true, Q.holds', E.i, E.s, E.n, D.nat, E.den, BO.den, UO.den, TO.den, D.toInt_int, D.toList_list, D.ints_ofInts, i64min, i64max, u8min, u8max, u16min, u16max, u32min, u32max, u64min, u64max, i32min, i32max, Om.sub, selI, ints_app, ints_cut, ints_upd, ints_rep, ints_splice, ints_seg, len_ints]
      rw [lens_end (.inl (by omega))]
      omega
  · by_cases h2 : 41 ≤ (d 2).toInt
    · refine ⟨tellA largeL_t2, tellA_ok (allTold'_iff.1 ?_), .inl ⟨_, _, _, largeL_y2, dutiesTold_ok ?_⟩⟩
      · simp only [largeL_t2, allTold', dutiesTold, factsA, factsC, factsP, factsR, AV.facts, RW.facts, inK, and_true, Q.holds', E.i, E.s, E.n, D.nat, E.den, BO.den, UO.den, TO.den, D.toInt_int, D.toList_list, D.ints_ofInts, i64min, i64max, u8min, u8max, u16min, u16max, u32min, u32max, u64min, u64max, i32min, i32max, Om.sub, selI, ints_app, ints_cut, ints_upd, ints_rep, ints_splice, ints_seg, len_ints]
        omega
      · simp only [largeL_d2, F30, allTold', dutiesTold, factsA, factsC, factsP, factsR, AV.facts, RW.facts, inK, and_true, Q.holds', E.i, E.s, E.n, D.nat, E.den, BO.den, UO.den, TO.den, D.toInt_int, D.toList_list, D.ints_ofInts, i64min, i64max, u8min, u8max, u16min, u16max, u32min, u32max, u64min, u64max, i32min, i32max, Om.sub, selI, ints_app, ints_cut, ints_upd, ints_rep, ints_splice, ints_seg, len_ints]
        rw [lens_end (.inr (by omega))]
        omega
    · have e := lens_step (l := (d 0).toList) (i := (d 2).toInt.toNat) (by omega) (by omega)
      have hnn2 := lens_nn (((d 0).toList.take 41).drop ((d 2).toInt.toNat + 1))
      have hi : ((d 2).toInt + 1).toNat = (d 2).toInt.toNat + 1 := by omega
      generalize hX : (d 0).toList[(d 2).toInt.toNat]?.getD (D.int 0) = X at *
      generalize hB : X.toList[3]?.getD (D.int 0) = B at *
      have g1 : B.ints.length = B.toList.length := (len_ints _).symm
      refine ⟨tellA largeL_t0, tellA_ok (allTold'_iff.1 ?_), .inr ⟨largeL_h0, _, _, largeL_y0, dutiesTold_ok ?_, allTold'_iff.1 ?_, ?_⟩⟩
      · simp only [largeL_t0, z3, hX, hB, allTold', dutiesTold, factsA, factsC, factsP, factsR, AV.facts, RW.facts, inK, and_true, Q.holds', E.i, E.s, E.n, D.nat, E.den, BO.den, UO.den, TO.den, D.toInt_int, D.toList_list, D.ints_ofInts, i64min, i64max, u8min, u8max, u16min, u16max, u32min, u32max, u64min, u64max, i32min, i32max, Om.sub, selI, ints_app, ints_cut, ints_upd, ints_rep, ints_splice, ints_seg, len_ints]
        omega
      · simp only [largeL_d0, F30, z3, hX, hB, hi, allTold', dutiesTold, factsA, factsC, factsP, factsR, AV.facts, RW.facts, inK, and_true, Q.holds', E.i, E.s, E.n, D.nat, E.den, BO.den, UO.den, TO.den, D.toInt_int, D.toList_list, D.ints_ofInts, i64min, i64max, u8min, u8max, u16min, u16max, u32min, u32max, u64min, u64max, i32min, i32max, Om.sub, selI, ints_app, ints_cut, ints_upd, ints_rep, ints_splice, ints_seg, len_ints]
        omega
      · simp only [largeL, largeL_h0_0, largeL_h0_1, largeL_h0_2, F30, z3, hX, hB, hi, allTold', dutiesTold, factsA, factsC, factsP, factsR, AV.facts, RW.facts, inK, and_true, Q.holds', E.i, E.s, E.n, D.nat, E.den, BO.den, UO.den, TO.den, D.toInt_int, D.toList_list, D.ints_ofInts, i64min, i64max, u8min, u8max, u16min, u16max, u32min, u32max, u64min, u64max, i32min, i32max, Om.sub, selI, ints_app, ints_cut, ints_upd, ints_rep, ints_splice, ints_seg, len_ints]
        omega
      · simp only [largeL_h0_0, largeL_h0_1, largeL_h0_2, allTold', dutiesTold, factsA, factsC, factsP, factsR, AV.facts, RW.facts, inK, and_true, Q.holds', E.i, E.s, E.n, D.nat, E.den, BO.den, UO.den, TO.den, D.toInt_int, D.toList_list, D.ints_ofInts, i64min, i64max, u8min, u8max, u16min, u16max, u32min, u32max, u64min, u64max, i32min, i32max, Om.sub, selI, ints_app, ints_cut, ints_upd, ints_rep, ints_splice, ints_seg, len_ints]
        omega

def wNF : LSpec := { n := 145, next := 2, pat := [(0, .pv (.agg [.int .i64, .int .i64, .int .i64, .sl (.int .u8), .agg [.int .u8, .int .u8, .int .u8, .int .u8, .int .u8, .int .u8, .int .u8, .int .u8, .int .u8, .int .u8, .int .u8, .int .u8, .int .u8, .int .u8, .int .u8, .int .u8]]) (.var 0)), (3, .ptr 1 0), (4, .ptr 3 0), (5, .sint .i64 (.var 1))], rows := [(1, .cells 61 0 false false [.ptr 1 0, .nilslice, .bool false]), (3, .cells 30 0 false false [.nilslice, .bool false])], pre := [(.le (.int 0) (.var 1), true), (.le (.var 1) (.un .len (.var 0)), true), (.le (.un .len (.var 0)) (.int 40), true), (.le (.bi .add (.int 0) (.fn 30 (.bi .pair (.var 0) (.bi .pair (.var 1) (.int 0))))) (.bi .add (.int 3000) (.bi .mul (.int 21) (.var 1))), true)], x := 0, fin := [], frows := [], same := [1, 3], chg := [0, 3, 4, 5, 6, 7, 8, 9, 10, 19, 20, 21, 22, 23, 24, 25, 26, 27, 28, 29, 30, 31, 32, 33, 34, 35, 36, 37, 38, 39, 40, 41, 42, 43, 44, 45, 46, 47, 48, 49, 50, 51, 52, 53, 54, 55, 56, 57, 58, 59, 60, 61, 62, 63, 64, 65, 66, 67, 68, 69, 70, 71, 72, 73, 74, 75, 76, 77, 78, 79, 80, 81, 82, 83, 84, 85, 86, 87, 88, 89, 90, 91, 92, 93, 94, 95, 96, 97, 98, 99, 100, 101, 102, 103, 104, 105, 106, 107, 108, 109, 110, 111, 112, 113, 114, 115, 116, 117, 118, 119, 120, 121, 122, 123, 124, 125, 126, 127, 128, 129, 130, 131, 132, 133, 134, 135, 136, 137, 138, 139, 140, 141, 142, 143] }
def wNT : LSpec := { n := 145, next := 2, pat := [(0, .pv (.agg [.int .i64, .int .i64, .int .i64, .sl (.int .u8), .agg [.int .u8, .int .u8, .int .u8, .int .u8, .int .u8, .int .u8, .int .u8, .int .u8, .int .u8, .int .u8, .int .u8, .int .u8, .int .u8, .int .u8, .int .u8, .int .u8]]) (.var 0)), (3, .ptr 1 0), (4, .ptr 3 0), (5, .sint .i64 (.var 1))], rows := [(1, .cells 61 0 false false [.ptr 1 0, .nilslice, .bool true]), (3, .cells 30 0 false false [.nilslice, .bool true])], pre := [(.le (.int 0) (.var 1), true), (.le (.var 1) (.un .len (.var 0)), true), (.le (.un .len (.var 0)) (.int 40), true), (.le (.bi .add (.int 0) (.fn 30 (.bi .pair (.var 0) (.bi .pair (.var 1) (.int 0))))) (.bi .add (.int 3000) (.bi .mul (.int 21) (.var 1))), true)], x := 0, fin := [], frows := [], same := [1, 3], chg := [0, 3, 4, 5, 6, 7, 8, 9, 10, 19, 20, 21, 22, 23, 24, 25, 26, 27, 28, 29, 30, 31, 32, 33, 34, 35, 36, 37, 38, 39, 40, 41, 42, 43, 44, 45, 46, 47, 48, 49, 50, 51, 52, 53, 54, 55, 56, 57, 58, 59, 60, 61, 62, 63, 64, 65, 66, 67, 68, 69, 70, 71, 72, 73, 74, 75, 76, 77, 78, 79, 80, 81, 82, 83, 84, 85, 86, 87, 88, 89, 90, 91, 92, 93, 94, 95, 96, 97, 98, 99, 100, 101, 102, 103, 104, 105, 106, 107, 108, 109, 110, 111, 112, 113, 114, 115, 116, 117, 118, 119, 120, 121, 122, 123, 124, 125, 126, 127, 128, 129, 130, 131, 132, 133, 134, 135, 136, 137, 138, 139, 140, 141, 142, 143] }
def wRF : LSpec := { n := 145, next := 4, pat := [(0, .pv (.agg [.int .i64, .int .i64, .int .i64, .sl (.int .u8), .agg [.int .u8, .int .u8, .int .u8, .int .u8, .int .u8, .int .u8, .int .u8, .int .u8, .int .u8, .int .u8, .int .u8, .int .u8, .int .u8, .int .u8, .int .u8, .int .u8]]) (.var 0)), (3, .ptr 1 0), (4, .ptr 3 0), (5, .sint .i64 (.var 1))], rows := [(1, .cells 61 0 false false [.ptr 1 0, .sslice 5 (.int 0) (.var 2) (.var 2) true, .bool false]), (3, .cells 30 0 false false [.sslice 7 (.int 0) (.var 2) (.var 2) true, .bool false]), (5, .seq ⟨5, .u8, .var 2, .var 4, true, false⟩), (7, .seq ⟨5, .u8, .var 2, .var 4, true, false⟩)], pre := [(.le (.int 0) (.var 1), true), (.le (.var 1) (.un .len (.var 0)), true), (.le (.un .len (.var 0)) (.int 40), true), (.le (.bi .add (.var 2) (.fn 30 (.bi .pair (.var 0) (.bi .pair (.var 1) (.int 0))))) (.bi .add (.int 3000) (.bi .mul (.int 21) (.var 1))), true), (.le (.int 1) (.var 2), true)], x := 0, fin := [], frows := [], same := [1, 3], chg := [0, 3, 4, 5, 6, 7, 8, 9, 10, 19, 20, 21, 22, 23, 24, 25, 26, 27, 28, 29, 30, 31, 32, 33, 34, 35, 36, 37, 38, 39, 40, 41, 42, 43, 44, 45, 46, 47, 48, 49, 50, 51, 52, 53, 54, 55, 56, 57, 58, 59, 60, 61, 62, 63, 64, 65, 66, 67, 68, 69, 70, 71, 72, 73, 74, 75, 76, 77, 78, 79, 80, 81, 82, 83, 84, 85, 86, 87, 88, 89, 90, 91, 92, 93, 94, 95, 96, 97, 98, 99, 100, 101, 102, 103, 104, 105, 106, 107, 108, 109, 110, 111, 112, 113, 114, 115, 116, 117, 118, 119, 120, 121, 122, 123, 124, 125, 126, 127, 128, 129, 130, 131, 132, 133, 134, 135, 136, 137, 138, 139, 140, 141, 142, 143] }
def wRT : LSpec := { n := 145, next := 4, pat := [(0, .pv (.agg [.int .i64, .int .i64, .int .i64, .sl (.int .u8), .agg [.int .u8, .int .u8, .int .u8, .int .u8, .int .u8, .int .u8, .int .u8, .int .u8, .int .u8, .int .u8, .int .u8, .int .u8, .int .u8, .int .u8, .int .u8, .int .u8]]) (.var 0)), (3, .ptr 1 0), (4, .ptr 3 0), (5, .sint .i64 (.var 1))], rows := [(1, .cells 61 0 false false [.ptr 1 0, .sslice 5 (.int 0) (.var 2) (.var 2) true, .bool true]), (3, .cells 30 0 false false [.sslice 7 (.int 0) (.var 2) (.var 2) true, .bool true]), (5, .seq ⟨5, .u8, .var 2, .var 4, true, false⟩), (7, .seq ⟨5, .u8, .var 2, .var 4, true, false⟩)], pre := [(.le (.int 0) (.var 1), true), (.le (.var 1) (.un .len (.var 0)), true), (.le (.un .len (.var 0)) (.int 40), true), (.le (.bi .add (.var 2) (.fn 30 (.bi .pair (.var 0) (.bi .pair (.var 1) (.int 0))))) (.bi .add (.int 3000) (.bi .mul (.int 21) (.var 1))), true), (.le (.int 1) (.var 2), true)], x := 0, fin := [], frows := [], same := [1, 3], chg := [0, 3, 4, 5, 6, 7, 8, 9, 10, 19, 20, 21, 22, 23, 24, 25, 26, 27, 28, 29, 30, 31, 32, 33, 34, 35, 36, 37, 38, 39, 40, 41, 42, 43, 44, 45, 46, 47, 48, 49, 50, 51, 52, 53, 54, 55, 56, 57, 58, 59, 60, 61, 62, 63, 64, 65, 66, 67, 68, 69, 70, 71, 72, 73, 74, 75, 76, 77, 78, 79, 80, 81, 82, 83, 84, 85, 86, 87, 88, 89, 90, 91, 92, 93, 94, 95, 96, 97, 98, 99, 100, 101, 102, 103, 104, 105, 106, 107, 108, 109, 110, 111, 112, 113, 114, 115, 116, 117, 118, 119, 120, 121, 122, 123, 124, 125, 126, 127, 128, 129, 130, 131, 132, 133, 134, 135, 136, 137, 138, 139, 140, 141, 142, 143] }
def writesF : Nat → LSpec
  | 0 => wNF
  | 1 => wNT
  | 2 => wRF
  | _ => wRT
abbrev asWb32 : Q × Bool := ((.le (.un .len (.var 0)) (.var 1)), false)
abbrev asWb33 : Q × Bool := ((.le (.int 0) (.var 1)), true)
abbrev asWb34 : Q × Bool := ((.le (.un .len (.bi .sel (.bi .sel (.var 0) (.var 1)) (.int 3))) (.int 1000000)), true)
abbrev asWb35 : Q × Bool := ((.eq (.bi .sel (.bi .sel (.var 0) (.var 1)) (.int 0)) (.int 0)), true)
abbrev asWb36 : Q × Bool := ((.le (.int 0) (.bi .sel (.bi .sel (.var 0) (.var 1)) (.int 1))), true)
abbrev asWb37 : Q × Bool := ((.le (.bi .sel (.bi .sel (.var 0) (.var 1)) (.int 1)) (.int 2147483647)), true)
abbrev asWb38 : Q × Bool := ((.le (.bi .add (.bi .sub (.int 5) (.fn 1 (.bi .pair (.bi .sel (.bi .sel (.var 0) (.var 1)) (.int 1)) (.int 0)))) (.fn 1 (.bi .pair (.bi .sel (.bi .sel (.var 0) (.var 1)) (.int 1)) (.int 0)))) (.int 5)), true)
abbrev asWb39 : Q × Bool := ((.eq (.fn 1 (.bi .pair (.bi .sel (.bi .sel (.var 0) (.var 1)) (.int 1)) (.int 0))) (.int 0)), false)
abbrev asWb40 : Q × Bool := ((.le (.bi .mul (.fn 1 (.bi .pair (.bi .sel (.bi .sel (.var 0) (.var 1)) (.int 1)) (.int 0))) (.int 2)) (.int 281474976710656)), true)
abbrev asWb41 : Q × Bool := ((.eq (.fn 40 (.bi .pair (.bi .sel (.bi .sel (.var 0) (.var 1)) (.int 1)) (.int 0))) (.int 0)), false)
abbrev asWb42 : Q × Bool := ((.le (.bi .add (.un .len (.bi .sel (.bi .sel (.var 0) (.var 1)) (.int 3))) (.int 3)) (.int 9223372036854775807)), true)
abbrev asWb43 : Q × Bool := ((.same (.tr .cut (.fn 2 (.bi .pair (.bi .sel (.bi .sel (.var 0) (.var 1)) (.int 1)) (.int 0))) (.bi .sub (.int 5) (.fn 1 (.bi .pair (.bi .sel (.bi .sel (.var 0) (.var 1)) (.int 1)) (.int 0)))) (.bi .add (.bi .sub (.int 5) (.fn 1 (.bi .pair (.bi .sel (.bi .sel (.var 0) (.var 1)) (.int 1)) (.int 0)))) (.fn 1 (.bi .pair (.bi .sel (.bi .sel (.var 0) (.var 1)) (.int 1)) (.int 0))))) (.fn 3 (.bi .pair (.bi .sel (.bi .sel (.var 0) (.var 1)) (.int 1)) (.int 0)))), true)
abbrev asWb44 : Q × Bool := ((.fit .i64 (.bi .add (.var 1) (.int 1))), true)
def wNF_t0 : List (Q × Bool) := [asWb25, asWb32, asWb33, asWb34, asWb35, asWb36, asWb37, asWb38, asWb39, asWb40, asWb41, asWb42, asWb43, asWb44]
abbrev teWb0 : E := (.fn 1 (.bi .pair (.bi .sel (.bi .sel (.var 0) (.var 1)) (.int 1)) (.int 0)))
def wNF_d0 : List Duty := [(false, (.fn 3 (.bi .pair (.bi .sel (.bi .sel (.var 0) (.var 1)) (.int 1)) (.int 0))), (.tr .cut (.fn 2 (.bi .pair (.bi .sel (.bi .sel (.var 0) (.var 1)) (.int 1)) (.int 0))) (.bi .sub (.int 5) teWb0) (.bi .add (.bi .sub (.int 5) teWb0) teWb0)))]
def wNF_h0 : List (Nat × E) := [(4, (.tr .cut (.fn 2 (.bi .pair (.bi .sel (.bi .sel (.var 0) (.var 1)) (.int 1)) (.int 0))) (.bi .sub (.int 5) (.fn 1 (.bi .pair (.bi .sel (.bi .sel (.var 0) (.var 1)) (.int 1)) (.int 0)))) (.bi .add (.bi .sub (.int 5) (.fn 1 (.bi .pair (.bi .sel (.bi .sel (.var 0) (.var 1)) (.int 1)) (.int 0)))) (.fn 1 (.bi .pair (.bi .sel (.bi .sel (.var 0) (.var 1)) (.int 1)) (.int 0)))))), (2, (.fn 1 (.bi .pair (.bi .sel (.bi .sel (.var 0) (.var 1)) (.int 1)) (.int 0)))), (1, (.bi .add (.var 1) (.int 1))), (0, (.var 0))]
theorem wNF_h0_0 : lookE wNF_h0 0 = (.var 0) := rfl
theorem wNF_h0_1 : lookE wNF_h0 1 = (.bi .add (.var 1) (.int 1)) := rfl
theorem wNF_h0_2 : lookE wNF_h0 2 = (.fn 1 (.bi .pair (.bi .sel (.bi .sel (.var 0) (.var 1)) (.int 1)) (.int 0))) := rfl
theorem wNF_h0_4 : lookE wNF_h0 4 = (.tr .cut (.fn 2 (.bi .pair (.bi .sel (.bi .sel (.var 0) (.var 1)) (.int 1)) (.int 0))) (.bi .sub (.int 5) (.fn 1 (.bi .pair (.bi .sel (.bi .sel (.var 0) (.var 1)) (.int 1)) (.int 0)))) (.bi .add (.bi .sub (.int 5) (.fn 1 (.bi .pair (.bi .sel (.bi .sel (.var 0) (.var 1)) (.int 1)) (.int 0)))) (.fn 1 (.bi .pair (.bi .sel (.bi .sel (.var 0) (.var 1)) (.int 1)) (.int 0))))) := rfl
theorem wNF_y0 : nextJ (writesF 0) (writesF 2) wNF_h0 [(7, 13), (5, 9), (3, 3), (1, 1)] (roundC Try.prog [⟨18, [4, 1, 1], overL⟩] [(46, partsC), (22, sizeP), (23, sizeR), (47, putR), (47, putBad), (8, lentV), (17, keptV)] [(18, 5, .u8)] 3000 40 3 [4, 1, 0, 1, 1, 1, 1, 1] (tellA wNF_t0) (writesF 0)) = some wNF_d0 := by kernel_rfl
abbrev asWb45 : Q × Bool := ((.le (.int 0) (.bi .sel (.bi .sel (.var 0) (.var 1)) (.int 1))), false)
abbrev asWb46 : Q × Bool := ((.eq (.fn 40 (.bi .pair (.bi .sel (.bi .sel (.var 0) (.var 1)) (.int 1)) (.int 0))) (.int 0)), true)
def wNF_t1 : List (Q × Bool) := [asWb25, asWb32, asWb33, asWb34, asWb35, asWb45, asWb46, asWb42, asWb44]
def wNF_d1 : List Duty := []
def wNF_h1 : List (Nat × E) := [(1, (.bi .add (.var 1) (.int 1))), (0, (.var 0))]
theorem wNF_h1_0 : lookE wNF_h1 0 = (.var 0) := rfl
theorem wNF_h1_1 : lookE wNF_h1 1 = (.bi .add (.var 1) (.int 1)) := rfl
theorem wNF_y1 : nextJ (writesF 0) (writesF 1) wNF_h1 [(3, 3), (1, 1)] (roundC Try.prog [⟨18, [4, 1, 1], overL⟩] [(46, partsC), (22, sizeP), (23, sizeR), (47, putR), (47, putBad), (8, lentV), (17, keptV)] [(18, 5, .u8)] 3000 40 3 [4, 1, 0, 1, 1, 1, 1, 1] (tellA wNF_t1) (writesF 0)) = some wNF_d1 := by kernel_rfl
abbrev asWb47 : Q × Bool := ((.le (.bi .sel (.bi .sel (.var 0) (.var 1)) (.int 1)) (.int 2147483647)), false)
def wNF_t2 : List (Q × Bool) := [asWb25, asWb32, asWb33, asWb34, asWb35, asWb36, asWb47, asWb46, asWb42, asWb44]
def wNF_d2 : List Duty := []
def wNF_h2 : List (Nat × E) := [(1, (.bi .add (.var 1) (.int 1))), (0, (.var 0))]
theorem wNF_h2_0 : lookE wNF_h2 0 = (.var 0) := rfl
theorem wNF_h2_1 : lookE wNF_h2 1 = (.bi .add (.var 1) (.int 1)) := rfl
theorem wNF_y2 : nextJ (writesF 0) (writesF 1) wNF_h2 [(3, 3), (1, 1)] (roundC Try.prog [⟨18, [4, 1, 1], overL⟩] [(46, partsC), (22, sizeP), (23, sizeR), (47, putR), (47, putBad), (8, lentV), (17, keptV)] [(18, 5, .u8)] 3000 40 3 [4, 1, 0, 1, 1, 1, 1, 1] (tellA wNF_t2) (writesF 0)) = some wNF_d2 := by kernel_rfl
abbrev asWb48 : Q × Bool := ((.eq (.bi .sel (.bi .sel (.var 0) (.var 1)) (.int 0)) (.int 0)), false)
abbrev asWb49 : Q × Bool := ((.eq (.bi .sel (.bi .sel (.var 0) (.var 1)) (.int 0)) (.int 1)), true)
abbrev asWb50 : Q × Bool := ((.fit .i64 (.un .len (.bi .sel (.bi .sel (.var 0) (.var 1)) (.int 3)))), true)
abbrev asWb51 : Q × Bool := ((.le (.int 0) (.un .len (.bi .sel (.bi .sel (.var 0) (.var 1)) (.int 3)))), true)
abbrev asWb52 : Q × Bool := ((.le (.un .len (.bi .sel (.bi .sel (.var 0) (.var 1)) (.int 3))) (.int 2147483647)), true)
abbrev asWb53 : Q × Bool := ((.le (.bi .add (.bi .sub (.int 5) (.fn 1 (.bi .pair (.un .len (.bi .sel (.bi .sel (.var 0) (.var 1)) (.int 3))) (.int 0)))) (.fn 1 (.bi .pair (.un .len (.bi .sel (.bi .sel (.var 0) (.var 1)) (.int 3))) (.int 0)))) (.int 5)), true)
abbrev asWb54 : Q × Bool := ((.eq (.fn 1 (.bi .pair (.un .len (.bi .sel (.bi .sel (.var 0) (.var 1)) (.int 3))) (.int 0))) (.int 0)), false)
abbrev asWb55 : Q × Bool := ((.le (.bi .mul (.fn 1 (.bi .pair (.un .len (.bi .sel (.bi .sel (.var 0) (.var 1)) (.int 3))) (.int 0))) (.int 2)) (.int 281474976710656)), true)
abbrev asWb56 : Q × Bool := ((.le (.un .len (.bi .sel (.bi .sel (.var 0) (.var 1)) (.int 3))) (.bi .add (.un .len (.bi .sel (.bi .sel (.var 0) (.var 1)) (.int 3))) (.int 3))), true)
abbrev asWb57 : Q × Bool := ((.le (.bi .mul (.bi .add (.fn 1 (.bi .pair (.un .len (.bi .sel (.bi .sel (.var 0) (.var 1)) (.int 3))) (.int 0))) (.un .len (.bi .sel (.bi .sel (.var 0) (.var 1)) (.int 3)))) (.int 2)) (.int 281474976710656)), true)
abbrev asWb58 : Q × Bool := ((.eq (.fn 40 (.bi .pair (.un .len (.bi .sel (.bi .sel (.var 0) (.var 1)) (.int 3))) (.int 0))) (.int 0)), false)
abbrev asWb59 : Q × Bool := ((.same (.bi .app (.tr .cut (.fn 2 (.bi .pair (.un .len (.bi .sel (.bi .sel (.var 0) (.var 1)) (.int 3))) (.int 0))) (.bi .sub (.int 5) (.fn 1 (.bi .pair (.un .len (.bi .sel (.bi .sel (.var 0) (.var 1)) (.int 3))) (.int 0)))) (.bi .add (.bi .sub (.int 5) (.fn 1 (.bi .pair (.un .len (.bi .sel (.bi .sel (.var 0) (.var 1)) (.int 3))) (.int 0)))) (.fn 1 (.bi .pair (.un .len (.bi .sel (.bi .sel (.var 0) (.var 1)) (.int 3))) (.int 0))))) (.tr .cut (.fn 6 (.bi .pair (.bi .sel (.bi .sel (.var 0) (.var 1)) (.int 3)) (.bi .pair (.int 0) (.bi .pair (.un .len (.bi .sel (.bi .sel (.var 0) (.var 1)) (.int 3))) (.int 0))))) (.int 0) (.un .len (.bi .sel (.bi .sel (.var 0) (.var 1)) (.int 3))))) (.bi .app (.fn 3 (.bi .pair (.un .len (.bi .sel (.bi .sel (.var 0) (.var 1)) (.int 3))) (.int 0))) (.bi .sel (.bi .sel (.var 0) (.var 1)) (.int 3)))), true)
def wNF_t3 : List (Q × Bool) := [asWb25, asWb32, asWb33, asWb34, asWb48, asWb49, asWb50, asWb51, asWb52, asWb53, asWb54, asWb55, asWb56, asWb57, asWb58, asWb42, asWb59, asWb44]
abbrev teWb1 : E := (.bi .pair (.un .len (.bi .sel (.bi .sel (.var 0) (.var 1)) (.int 3))) (.int 0))
def wNF_d3 : List Duty := [(false, (.bi .app (.fn 3 teWb1) (.bi .sel (.bi .sel (.var 0) (.var 1)) (.int 3))), (.bi .app (.tr .cut (.fn 2 teWb1) (.bi .sub (.int 5) (.fn 1 teWb1)) (.bi .add (.bi .sub (.int 5) (.fn 1 teWb1)) (.fn 1 teWb1))) (.tr .cut (.fn 6 (.bi .pair (.bi .sel (.bi .sel (.var 0) (.var 1)) (.int 3)) (.bi .pair (.int 0) teWb1))) (.int 0) (.un .len (.bi .sel (.bi .sel (.var 0) (.var 1)) (.int 3))))))]
def wNF_h3 : List (Nat × E) := [(4, (.bi .app (.tr .cut (.fn 2 (.bi .pair (.un .len (.bi .sel (.bi .sel (.var 0) (.var 1)) (.int 3))) (.int 0))) (.bi .sub (.int 5) (.fn 1 (.bi .pair (.un .len (.bi .sel (.bi .sel (.var 0) (.var 1)) (.int 3))) (.int 0)))) (.bi .add (.bi .sub (.int 5) (.fn 1 (.bi .pair (.un .len (.bi .sel (.bi .sel (.var 0) (.var 1)) (.int 3))) (.int 0)))) (.fn 1 (.bi .pair (.un .len (.bi .sel (.bi .sel (.var 0) (.var 1)) (.int 3))) (.int 0))))) (.tr .cut (.fn 6 (.bi .pair (.bi .sel (.bi .sel (.var 0) (.var 1)) (.int 3)) (.bi .pair (.int 0) (.bi .pair (.un .len (.bi .sel (.bi .sel (.var 0) (.var 1)) (.int 3))) (.int 0))))) (.int 0) (.un .len (.bi .sel (.bi .sel (.var 0) (.var 1)) (.int 3)))))), (2, (.bi .add (.fn 1 (.bi .pair (.un .len (.bi .sel (.bi .sel (.var 0) (.var 1)) (.int 3))) (.int 0))) (.un .len (.bi .sel (.bi .sel (.var 0) (.var 1)) (.int 3))))), (1, (.bi .add (.var 1) (.int 1))), (0, (.var 0))]
theorem wNF_h3_0 : lookE wNF_h3 0 = (.var 0) := rfl
theorem wNF_h3_1 : lookE wNF_h3 1 = (.bi .add (.var 1) (.int 1)) := rfl
theorem wNF_h3_2 : lookE wNF_h3 2 = (.bi .add (.fn 1 (.bi .pair (.un .len (.bi .sel (.bi .sel (.var 0) (.var 1)) (.int 3))) (.int 0))) (.un .len (.bi .sel (.bi .sel (.var 0) (.var 1)) (.int 3)))) := rfl
theorem wNF_h3_4 : lookE wNF_h3 4 = (.bi .app (.tr .cut (.fn 2 (.bi .pair (.un .len (.bi .sel (.bi .sel (.var 0) (.var 1)) (.int 3))) (.int 0))) (.bi .sub (.int 5) (.fn 1 (.bi .pair (.un .len (.bi .sel (.bi .sel (.var 0) (.var 1)) (.int 3))) (.int 0)))) (.bi .add (.bi .sub (.int 5) (.fn 1 (.bi .pair (.un .len (.bi .sel (.bi .sel (.var 0) (.var 1)) (.int 3))) (.int 0)))) (.fn 1 (.bi .pair (.un .len (.bi .sel (.bi .sel (.var 0) (.var 1)) (.int 3))) (.int 0))))) (.tr .cut (.fn 6 (.bi .pair (.bi .sel (.bi .sel (.var 0) (.var 1)) (.int 3)) (.bi .pair (.int 0) (.bi .pair (.un .len (.bi .sel (.bi .sel (.var 0) (.var 1)) (.int 3))) (.int 0))))) (.int 0) (.un .len (.bi .sel (.bi .sel (.var 0) (.var 1)) (.int 3))))) := rfl
theorem wNF_y3 : nextJ (writesF 0) (writesF 2) wNF_h3 [(7, 17), (5, 11), (3, 3), (1, 1)] (roundC Try.prog [⟨18, [4, 1, 1], overL⟩] [(46, partsC), (22, sizeP), (23, sizeR), (47, putR), (47, putBad), (8, lentV), (17, keptV)] [(18, 5, .u8)] 3000 40 3 [4, 1, 0, 1, 1, 1, 1, 1] (tellA wNF_t3) (writesF 0)) = some wNF_d3 := by kernel_rfl
abbrev asWb60 : Q × Bool := ((.eq (.bi .sel (.bi .sel (.var 0) (.var 1)) (.int 0)) (.int 1)), false)
abbrev asWb61 : Q × Bool := ((.eq (.bi .sel (.bi .sel (.var 0) (.var 1)) (.int 0)) (.int 2)), true)
abbrev asWb62 : Q × Bool := ((.le (.un .len (.bi .sel (.bi .sel (.var 0) (.var 1)) (.int 3))) (.int 2305843009213693952)), true)
abbrev asWb63 : Q × Bool := ((.same (.bi .app (.tr .cut (.fn 2 (.bi .pair (.un .len (.bi .sel (.bi .sel (.var 0) (.var 1)) (.int 3))) (.int 0))) (.bi .sub (.int 5) (.fn 1 (.bi .pair (.un .len (.bi .sel (.bi .sel (.var 0) (.var 1)) (.int 3))) (.int 0)))) (.bi .add (.bi .sub (.int 5) (.fn 1 (.bi .pair (.un .len (.bi .sel (.bi .sel (.var 0) (.var 1)) (.int 3))) (.int 0)))) (.fn 1 (.bi .pair (.un .len (.bi .sel (.bi .sel (.var 0) (.var 1)) (.int 3))) (.int 0))))) (.bi .sel (.bi .sel (.var 0) (.var 1)) (.int 3))) (.bi .app (.fn 3 (.bi .pair (.un .len (.bi .sel (.bi .sel (.var 0) (.var 1)) (.int 3))) (.int 0))) (.bi .sel (.bi .sel (.var 0) (.var 1)) (.int 3)))), true)
def wNF_t4 : List (Q × Bool) := [asWb25, asWb32, asWb33, asWb34, asWb48, asWb60, asWb61, asWb62, asWb50, asWb51, asWb52, asWb53, asWb54, asWb55, asWb57, asWb58, asWb42, asWb63, asWb44]
def wNF_d4 : List Duty := [(false, (.bi .app (.fn 3 teWb1) (.bi .sel (.bi .sel (.var 0) (.var 1)) (.int 3))), (.bi .app (.tr .cut (.fn 2 teWb1) (.bi .sub (.int 5) (.fn 1 teWb1)) (.bi .add (.bi .sub (.int 5) (.fn 1 teWb1)) (.fn 1 teWb1))) (.bi .sel (.bi .sel (.var 0) (.var 1)) (.int 3))))]
def wNF_h4 : List (Nat × E) := [(4, (.bi .app (.tr .cut (.fn 2 (.bi .pair (.un .len (.bi .sel (.bi .sel (.var 0) (.var 1)) (.int 3))) (.int 0))) (.bi .sub (.int 5) (.fn 1 (.bi .pair (.un .len (.bi .sel (.bi .sel (.var 0) (.var 1)) (.int 3))) (.int 0)))) (.bi .add (.bi .sub (.int 5) (.fn 1 (.bi .pair (.un .len (.bi .sel (.bi .sel (.var 0) (.var 1)) (.int 3))) (.int 0)))) (.fn 1 (.bi .pair (.un .len (.bi .sel (.bi .sel (.var 0) (.var 1)) (.int 3))) (.int 0))))) (.bi .sel (.bi .sel (.var 0) (.var 1)) (.int 3)))), (2, (.bi .add (.fn 1 (.bi .pair (.un .len (.bi .sel (.bi .sel (.var 0) (.var 1)) (.int 3))) (.int 0))) (.un .len (.bi .sel (.bi .sel (.var 0) (.var 1)) (.int 3))))), (1, (.bi .add (.var 1) (.int 1))), (0, (.var 0))]
theorem wNF_h4_0 : lookE wNF_h4 0 = (.var 0) := rfl
theorem wNF_h4_1 : lookE wNF_h4 1 = (.bi .add (.var 1) (.int 1)) := rfl
theorem wNF_h4_2 : lookE wNF_h4 2 = (.bi .add (.fn 1 (.bi .pair (.un .len (.bi .sel (.bi .sel (.var 0) (.var 1)) (.int 3))) (.int 0))) (.un .len (.bi .sel (.bi .sel (.var 0) (.var 1)) (.int 3)))) := rfl
theorem wNF_h4_4 : lookE wNF_h4 4 = (.bi .app (.tr .cut (.fn 2 (.bi .pair (.un .len (.bi .sel (.bi .sel (.var 0) (.var 1)) (.int 3))) (.int 0))) (.bi .sub (.int 5) (.fn 1 (.bi .pair (.un .len (.bi .sel (.bi .sel (.var 0) (.var 1)) (.int 3))) (.int 0)))) (.bi .add (.bi .sub (.int 5) (.fn 1 (.bi .pair (.un .len (.bi .sel (.bi .sel (.var 0) (.var 1)) (.int 3))) (.int 0)))) (.fn 1 (.bi .pair (.un .len (.bi .sel (.bi .sel (.var 0) (.var 1)) (.int 3))) (.int 0))))) (.bi .sel (.bi .sel (.var 0) (.var 1)) (.int 3))) := rfl
theorem wNF_y4 : nextJ (writesF 0) (writesF 2) wNF_h4 [(7, 21), (5, 13), (3, 3), (1, 1)] (roundC Try.prog [⟨18, [4, 1, 1], overL⟩] [(46, partsC), (22, sizeP), (23, sizeR), (47, putR), (47, putBad), (8, lentV), (17, keptV)] [(18, 5, .u8)] 3000 40 3 [4, 1, 0, 1, 1, 1, 1, 1] (tellA wNF_t4) (writesF 0)) = some wNF_d4 := by kernel_rfl
abbrev asWb64 : Q × Bool := ((.eq (.bi .sel (.bi .sel (.var 0) (.var 1)) (.int 0)) (.int 2)), false)
abbrev asWb65 : Q × Bool := ((.eq (.bi .sel (.bi .sel (.var 0) (.var 1)) (.int 0)) (.int 3)), true)
def wNF_t5 : List (Q × Bool) := [asWb25, asWb32, asWb33, asWb34, asWb48, asWb60, asWb64, asWb65, asWb42, asWb44]
def wNF_d5 : List Duty := []
def wNF_h5 : List (Nat × E) := [(4, (.tr .seg (.bi .sel (.bi .sel (.var 0) (.var 1)) (.int 4)) (.int 0) (.int 16))), (2, (.int 16)), (1, (.bi .add (.var 1) (.int 1))), (0, (.var 0))]
theorem wNF_h5_0 : lookE wNF_h5 0 = (.var 0) := rfl
theorem wNF_h5_1 : lookE wNF_h5 1 = (.bi .add (.var 1) (.int 1)) := rfl
theorem wNF_h5_2 : lookE wNF_h5 2 = (.int 16) := rfl
theorem wNF_h5_4 : lookE wNF_h5 4 = (.tr .seg (.bi .sel (.bi .sel (.var 0) (.var 1)) (.int 4)) (.int 0) (.int 16)) := rfl
theorem wNF_y5 : nextJ (writesF 0) (writesF 2) wNF_h5 [(7, 13), (5, 9), (3, 3), (1, 1)] (roundC Try.prog [⟨18, [4, 1, 1], overL⟩] [(46, partsC), (22, sizeP), (23, sizeR), (47, putR), (47, putBad), (8, lentV), (17, keptV)] [(18, 5, .u8)] 3000 40 3 [4, 1, 0, 1, 1, 1, 1, 1] (tellA wNF_t5) (writesF 0)) = some wNF_d5 := by kernel_rfl
abbrev asWb66 : Q × Bool := ((.eq (.bi .sel (.bi .sel (.var 0) (.var 1)) (.int 0)) (.int 3)), false)
def wNF_t6 : List (Q × Bool) := [asWb25, asWb32, asWb33, asWb34, asWb48, asWb60, asWb64, asWb66, asWb42, asWb44]
def wNF_d6 : List Duty := []
def wNF_h6 : List (Nat × E) := [(1, (.bi .add (.var 1) (.int 1))), (0, (.var 0))]
theorem wNF_h6_0 : lookE wNF_h6 0 = (.var 0) := rfl
theorem wNF_h6_1 : lookE wNF_h6 1 = (.bi .add (.var 1) (.int 1)) := rfl
theorem wNF_y6 : nextJ (writesF 0) (writesF 0) wNF_h6 [(3, 3), (1, 1)] (roundC Try.prog [⟨18, [4, 1, 1], overL⟩] [(46, partsC), (22, sizeP), (23, sizeR), (47, putR), (47, putBad), (8, lentV), (17, keptV)] [(18, 5, .u8)] 3000 40 3 [4, 1, 0, 1, 1, 1, 1, 1] (tellA wNF_t6) (writesF 0)) = some wNF_d6 := by kernel_rfl
abbrev asWb67 : Q × Bool := ((.le (.un .len (.var 0)) (.var 1)), true)
def wNF_t7 : List (Q × Bool) := [asWb25, asWb67]
def wNF_d7 : List Duty := []
theorem wNF_y7 : endD (writesF 0) [(1, 1), (3, 3)] 1000 (roundC Try.prog [⟨18, [4, 1, 1], overL⟩] [(46, partsC), (22, sizeP), (23, sizeR), (47, putR), (47, putBad), (8, lentV), (17, keptV)] [(18, 5, .u8)] 3000 40 3 [4, 1, 0, 1, 1, 1, 1, 1] (tellA wNF_t7) (writesF 0)) = some wNF_d7 := by kernel_rfl
def wNT_t0 : List (Q × Bool) := [asWb25, asWb32, asWb33, asWb34, asWb35, asWb36, asWb37, asWb38, asWb39, asWb40, asWb41, asWb42, asWb44]
def wNT_d0 : List Duty := [(false, (.fn 3 (.bi .pair (.bi .sel (.bi .sel (.var 0) (.var 1)) (.int 1)) (.int 0))), (.tr .cut (.fn 2 (.bi .pair (.bi .sel (.bi .sel (.var 0) (.var 1)) (.int 1)) (.int 0))) (.bi .sub (.int 5) teWb0) (.bi .add (.bi .sub (.int 5) teWb0) teWb0)))]
def wNT_h0 : List (Nat × E) := [(4, (.tr .cut (.fn 2 (.bi .pair (.bi .sel (.bi .sel (.var 0) (.var 1)) (.int 1)) (.int 0))) (.bi .sub (.int 5) (.fn 1 (.bi .pair (.bi .sel (.bi .sel (.var 0) (.var 1)) (.int 1)) (.int 0)))) (.bi .add (.bi .sub (.int 5) (.fn 1 (.bi .pair (.bi .sel (.bi .sel (.var 0) (.var 1)) (.int 1)) (.int 0)))) (.fn 1 (.bi .pair (.bi .sel (.bi .sel (.var 0) (.var 1)) (.int 1)) (.int 0)))))), (2, (.fn 1 (.bi .pair (.bi .sel (.bi .sel (.var 0) (.var 1)) (.int 1)) (.int 0)))), (1, (.bi .add (.var 1) (.int 1))), (0, (.var 0))]
theorem wNT_h0_0 : lookE wNT_h0 0 = (.var 0) := rfl
theorem wNT_h0_1 : lookE wNT_h0 1 = (.bi .add (.var 1) (.int 1)) := rfl
theorem wNT_h0_2 : lookE wNT_h0 2 = (.fn 1 (.bi .pair (.bi .sel (.bi .sel (.var 0) (.var 1)) (.int 1)) (.int 0))) := rfl
theorem wNT_h0_4 : lookE wNT_h0 4 = (.tr .cut (.fn 2 (.bi .pair (.bi .sel (.bi .sel (.var 0) (.var 1)) (.int 1)) (.int 0))) (.bi .sub (.int 5) (.fn 1 (.bi .pair (.bi .sel (.bi .sel (.var 0) (.var 1)) (.int 1)) (.int 0)))) (.bi .add (.bi .sub (.int 5) (.fn 1 (.bi .pair (.bi .sel (.bi .sel (.var 0) (.var 1)) (.int 1)) (.int 0)))) (.fn 1 (.bi .pair (.bi .sel (.bi .sel (.var 0) (.var 1)) (.int 1)) (.int 0))))) := rfl
theorem wNT_y0 : nextJ (writesF 1) (writesF 3) wNT_h0 [(7, 13), (5, 9), (3, 3), (1, 1)] (roundC Try.prog [⟨18, [4, 1, 1], overL⟩] [(46, partsC), (22, sizeP), (23, sizeR), (47, putR), (47, putBad), (8, lentV), (17, keptV)] [(18, 5, .u8)] 3000 40 3 [4, 1, 0, 1, 1, 1, 1, 1] (tellA wNT_t0) (writesF 1)) = some wNT_d0 := by kernel_rfl
def wNT_t1 : List (Q × Bool) := [asWb25, asWb32, asWb33, asWb34, asWb35, asWb45, asWb46, asWb42, asWb44]
def wNT_d1 : List Duty := []
def wNT_h1 : List (Nat × E) := [(1, (.bi .add (.var 1) (.int 1))), (0, (.var 0))]
theorem wNT_h1_0 : lookE wNT_h1 0 = (.var 0) := rfl
theorem wNT_h1_1 : lookE wNT_h1 1 = (.bi .add (.var 1) (.int 1)) := rfl
theorem wNT_y1 : nextJ (writesF 1) (writesF 1) wNT_h1 [(3, 3), (1, 1)] (roundC Try.prog [⟨18, [4, 1, 1], overL⟩] [(46, partsC), (22, sizeP), (23, sizeR), (47, putR), (47, putBad), (8, lentV), (17, keptV)] [(18, 5, .u8)] 3000 40 3 [4, 1, 0, 1, 1, 1, 1, 1] (tellA wNT_t1) (writesF 1)) = some wNT_d1 := by kernel_rfl
def wNT_t2 : List (Q × Bool) := [asWb25, asWb32, asWb33, asWb34, asWb35, asWb36, asWb47, asWb46, asWb42, asWb44]
def wNT_d2 : List Duty := []
def wNT_h2 : List (Nat × E) := [(1, (.bi .add (.var 1) (.int 1))), (0, (.var 0))]
theorem wNT_h2_0 : lookE wNT_h2 0 = (.var 0) := rfl
theorem wNT_h2_1 : lookE wNT_h2 1 = (.bi .add (.var 1) (.int 1)) := rfl
theorem wNT_y2 : nextJ (writesF 1) (writesF 1) wNT_h2 [(3, 3), (1, 1)] (roundC Try.prog [⟨18, [4, 1, 1], overL⟩] [(46, partsC), (22, sizeP), (23, sizeR), (47, putR), (47, putBad), (8, lentV), (17, keptV)] [(18, 5, .u8)] 3000 40 3 [4, 1, 0, 1, 1, 1, 1, 1] (tellA wNT_t2) (writesF 1)) = some wNT_d2 := by kernel_rfl
def wNT_t3 : List (Q × Bool) := [asWb25, asWb32, asWb33, asWb34, asWb48, asWb49, asWb50, asWb51, asWb52, asWb53, asWb54, asWb55, asWb56, asWb57, asWb58, asWb42, asWb44]
def wNT_d3 : List Duty := [(false, (.bi .app (.fn 3 teWb1) (.bi .sel (.bi .sel (.var 0) (.var 1)) (.int 3))), (.bi .app (.tr .cut (.fn 2 teWb1) (.bi .sub (.int 5) (.fn 1 teWb1)) (.bi .add (.bi .sub (.int 5) (.fn 1 teWb1)) (.fn 1 teWb1))) (.tr .cut (.fn 6 (.bi .pair (.bi .sel (.bi .sel (.var 0) (.var 1)) (.int 3)) (.bi .pair (.int 0) teWb1))) (.int 0) (.un .len (.bi .sel (.bi .sel (.var 0) (.var 1)) (.int 3))))))]
def wNT_h3 : List (Nat × E) := [(4, (.bi .app (.tr .cut (.fn 2 (.bi .pair (.un .len (.bi .sel (.bi .sel (.var 0) (.var 1)) (.int 3))) (.int 0))) (.bi .sub (.int 5) (.fn 1 (.bi .pair (.un .len (.bi .sel (.bi .sel (.var 0) (.var 1)) (.int 3))) (.int 0)))) (.bi .add (.bi .sub (.int 5) (.fn 1 (.bi .pair (.un .len (.bi .sel (.bi .sel (.var 0) (.var 1)) (.int 3))) (.int 0)))) (.fn 1 (.bi .pair (.un .len (.bi .sel (.bi .sel (.var 0) (.var 1)) (.int 3))) (.int 0))))) (.tr .cut (.fn 6 (.bi .pair (.bi .sel (.bi .sel (.var 0) (.var 1)) (.int 3)) (.bi .pair (.int 0) (.bi .pair (.un .len (.bi .sel (.bi .sel (.var 0) (.var 1)) (.int 3))) (.int 0))))) (.int 0) (.un .len (.bi .sel (.bi .sel (.var 0) (.var 1)) (.int 3)))))), (2, (.bi .add (.fn 1 (.bi .pair (.un .len (.bi .sel (.bi .sel (.var 0) (.var 1)) (.int 3))) (.int 0))) (.un .len (.bi .sel (.bi .sel (.var 0) (.var 1)) (.int 3))))), (1, (.bi .add (.var 1) (.int 1))), (0, (.var 0))]
theorem wNT_h3_0 : lookE wNT_h3 0 = (.var 0) := rfl
theorem wNT_h3_1 : lookE wNT_h3 1 = (.bi .add (.var 1) (.int 1)) := rfl
theorem wNT_h3_2 : lookE wNT_h3 2 = (.bi .add (.fn 1 (.bi .pair (.un .len (.bi .sel (.bi .sel (.var 0) (.var 1)) (.int 3))) (.int 0))) (.un .len (.bi .sel (.bi .sel (.var 0) (.var 1)) (.int 3)))) := rfl
theorem wNT_h3_4 : lookE wNT_h3 4 = (.bi .app (.tr .cut (.fn 2 (.bi .pair (.un .len (.bi .sel (.bi .sel (.var 0) (.var 1)) (.int 3))) (.int 0))) (.bi .sub (.int 5) (.fn 1 (.bi .pair (.un .len (.bi .sel (.bi .sel (.var 0) (.var 1)) (.int 3))) (.int 0)))) (.bi .add (.bi .sub (.int 5) (.fn 1 (.bi .pair (.un .len (.bi .sel (.bi .sel (.var 0) (.var 1)) (.int 3))) (.int 0)))) (.fn 1 (.bi .pair (.un .len (.bi .sel (.bi .sel (.var 0) (.var 1)) (.int 3))) (.int 0))))) (.tr .cut (.fn 6 (.bi .pair (.bi .sel (.bi .sel (.var 0) (.var 1)) (.int 3)) (.bi .pair (.int 0) (.bi .pair (.un .len (.bi .sel (.bi .sel (.var 0) (.var 1)) (.int 3))) (.int 0))))) (.int 0) (.un .len (.bi .sel (.bi .sel (.var 0) (.var 1)) (.int 3))))) := rfl
theorem wNT_y3 : nextJ (writesF 1) (writesF 3) wNT_h3 [(7, 17), (5, 11), (3, 3), (1, 1)] (roundC Try.prog [⟨18, [4, 1, 1], overL⟩] [(46, partsC), (22, sizeP), (23, sizeR), (47, putR), (47, putBad), (8, lentV), (17, keptV)] [(18, 5, .u8)] 3000 40 3 [4, 1, 0, 1, 1, 1, 1, 1] (tellA wNT_t3) (writesF 1)) = some wNT_d3 := by kernel_rfl
def wNT_t4 : List (Q × Bool) := [asWb25, asWb32, asWb33, asWb34, asWb48, asWb60, asWb61, asWb62, asWb50, asWb51, asWb52, asWb53, asWb54, asWb55, asWb57, asWb58, asWb42, asWb44]
def wNT_d4 : List Duty := [(false, (.bi .app (.fn 3 teWb1) (.bi .sel (.bi .sel (.var 0) (.var 1)) (.int 3))), (.bi .app (.tr .cut (.fn 2 teWb1) (.bi .sub (.int 5) (.fn 1 teWb1)) (.bi .add (.bi .sub (.int 5) (.fn 1 teWb1)) (.fn 1 teWb1))) (.bi .sel (.bi .sel (.var 0) (.var 1)) (.int 3))))]
def wNT_h4 : List (Nat × E) := [(4, (.bi .app (.tr .cut (.fn 2 (.bi .pair (.un .len (.bi .sel (.bi .sel (.var 0) (.var 1)) (.int 3))) (.int 0))) (.bi .sub (.int 5) (.fn 1 (.bi .pair (.un .len (.bi .sel (.bi .sel (.var 0) (.var 1)) (.int 3))) (.int 0)))) (.bi .add (.bi .sub (.int 5) (.fn 1 (.bi .pair (.un .len (.bi .sel (.bi .sel (.var 0) (.var 1)) (.int 3))) (.int 0)))) (.fn 1 (.bi .pair (.un .len (.bi .sel (.bi .sel (.var 0) (.var 1)) (.int 3))) (.int 0))))) (.bi .sel (.bi .sel (.var 0) (.var 1)) (.int 3)))), (2, (.bi .add (.fn 1 (.bi .pair (.un .len (.bi .sel (.bi .sel (.var 0) (.var 1)) (.int 3))) (.int 0))) (.un .len (.bi .sel (.bi .sel (.var 0) (.var 1)) (.int 3))))), (1, (.bi .add (.var 1) (.int 1))), (0, (.var 0))]
theorem wNT_h4_0 : lookE wNT_h4 0 = (.var 0) := rfl
theorem wNT_h4_1 : lookE wNT_h4 1 = (.bi .add (.var 1) (.int 1)) := rfl
theorem wNT_h4_2 : lookE wNT_h4 2 = (.bi .add (.fn 1 (.bi .pair (.un .len (.bi .sel (.bi .sel (.var 0) (.var 1)) (.int 3))) (.int 0))) (.un .len (.bi .sel (.bi .sel (.var 0) (.var 1)) (.int 3)))) := rfl
theorem wNT_h4_4 : lookE wNT_h4 4 = (.bi .app (.tr .cut (.fn 2 (.bi .pair (.un .len (.bi .sel (.bi .sel (.var 0) (.var 1)) (.int 3))) (.int 0))) (.bi .sub (.int 5) (.fn 1 (.bi .pair (.un .len (.bi .sel (.bi .sel (.var 0) (.var 1)) (.int 3))) (.int 0)))) (.bi .add (.bi .sub (.int 5) (.fn 1 (.bi .pair (.un .len (.bi .sel (.bi .sel (.var 0) (.var 1)) (.int 3))) (.int 0)))) (.fn 1 (.bi .pair (.un .len (.bi .sel (.bi .sel (.var 0) (.var 1)) (.int 3))) (.int 0))))) (.bi .sel (.bi .sel (.var 0) (.var 1)) (.int 3))) := rfl
theorem wNT_y4 : nextJ (writesF 1) (writesF 3) wNT_h4 [(7, 21), (5, 13), (3, 3), (1, 1)] (roundC Try.prog [⟨18, [4, 1, 1], overL⟩] [(46, partsC), (22, sizeP), (23, sizeR), (47, putR), (47, putBad), (8, lentV), (17, keptV)] [(18, 5, .u8)] 3000 40 3 [4, 1, 0, 1, 1, 1, 1, 1] (tellA wNT_t4) (writesF 1)) = some wNT_d4 := by kernel_rfl
def wNT_t5 : List (Q × Bool) := [asWb25, asWb32, asWb33, asWb34, asWb48, asWb60, asWb64, asWb65, asWb42, asWb44]
def wNT_d5 : List Duty := []
def wNT_h5 : List (Nat × E) := [(4, (.tr .seg (.bi .sel (.bi .sel (.var 0) (.var 1)) (.int 4)) (.int 0) (.int 16))), (2, (.int 16)), (1, (.bi .add (.var 1) (.int 1))), (0, (.var 0))]
theorem wNT_h5_0 : lookE wNT_h5 0 = (.var 0) := rfl
theorem wNT_h5_1 : lookE wNT_h5 1 = (.bi .add (.var 1) (.int 1)) := rfl
theorem wNT_h5_2 : lookE wNT_h5 2 = (.int 16) := rfl
theorem wNT_h5_4 : lookE wNT_h5 4 = (.tr .seg (.bi .sel (.bi .sel (.var 0) (.var 1)) (.int 4)) (.int 0) (.int 16)) := rfl
theorem wNT_y5 : nextJ (writesF 1) (writesF 3) wNT_h5 [(7, 13), (5, 9), (3, 3), (1, 1)] (roundC Try.prog [⟨18, [4, 1, 1], overL⟩] [(46, partsC), (22, sizeP), (23, sizeR), (47, putR), (47, putBad), (8, lentV), (17, keptV)] [(18, 5, .u8)] 3000 40 3 [4, 1, 0, 1, 1, 1, 1, 1] (tellA wNT_t5) (writesF 1)) = some wNT_d5 := by kernel_rfl
def wNT_t6 : List (Q × Bool) := [asWb25, asWb32, asWb33, asWb34, asWb48, asWb60, asWb64, asWb66, asWb42, asWb44]
def wNT_d6 : List Duty := []
def wNT_h6 : List (Nat × E) := [(1, (.bi .add (.var 1) (.int 1))), (0, (.var 0))]
theorem wNT_h6_0 : lookE wNT_h6 0 = (.var 0) := rfl
theorem wNT_h6_1 : lookE wNT_h6 1 = (.bi .add (.var 1) (.int 1)) := rfl
theorem wNT_y6 : nextJ (writesF 1) (writesF 1) wNT_h6 [(3, 3), (1, 1)] (roundC Try.prog [⟨18, [4, 1, 1], overL⟩] [(46, partsC), (22, sizeP), (23, sizeR), (47, putR), (47, putBad), (8, lentV), (17, keptV)] [(18, 5, .u8)] 3000 40 3 [4, 1, 0, 1, 1, 1, 1, 1] (tellA wNT_t6) (writesF 1)) = some wNT_d6 := by kernel_rfl
def wNT_t7 : List (Q × Bool) := [asWb25, asWb67]
def wNT_d7 : List Duty := []
theorem wNT_y7 : endD (writesF 1) [(1, 1), (3, 3)] 1000 (roundC Try.prog [⟨18, [4, 1, 1], overL⟩] [(46, partsC), (22, sizeP), (23, sizeR), (47, putR), (47, putBad), (8, lentV), (17, keptV)] [(18, 5, .u8)] 3000 40 3 [4, 1, 0, 1, 1, 1, 1, 1] (tellA wNT_t7) (writesF 1)) = some wNT_d7 := by kernel_rfl
abbrev asWb68 : Q × Bool := ((.le (.int 1) (.var 2)), true)
abbrev asWb69 : Q × Bool := ((.le (.bi .mul (.bi .add (.var 2) (.fn 1 (.bi .pair (.bi .sel (.bi .sel (.var 0) (.var 1)) (.int 1)) (.int 0)))) (.int 2)) (.int 281474976710656)), true)
abbrev asWb70 : Q × Bool := ((.same (.bi .app (.var 4) (.tr .cut (.fn 2 (.bi .pair (.bi .sel (.bi .sel (.var 0) (.var 1)) (.int 1)) (.int 0))) (.bi .sub (.int 5) (.fn 1 (.bi .pair (.bi .sel (.bi .sel (.var 0) (.var 1)) (.int 1)) (.int 0)))) (.bi .add (.bi .sub (.int 5) (.fn 1 (.bi .pair (.bi .sel (.bi .sel (.var 0) (.var 1)) (.int 1)) (.int 0)))) (.fn 1 (.bi .pair (.bi .sel (.bi .sel (.var 0) (.var 1)) (.int 1)) (.int 0)))))) (.bi .app (.var 4) (.fn 3 (.bi .pair (.bi .sel (.bi .sel (.var 0) (.var 1)) (.int 1)) (.int 0))))), true)
def wRF_t0 : List (Q × Bool) := [asWb25, asWb32, asWb33, asWb34, asWb35, asWb36, asWb37, asWb68, asWb38, asWb69, asWb41, asWb42, asWb70, asWb44]
def wRF_d0 : List Duty := [(false, (.bi .app (.var 4) (.fn 3 (.bi .pair (.bi .sel (.bi .sel (.var 0) (.var 1)) (.int 1)) (.int 0)))), (.bi .app (.var 4) (.tr .cut (.fn 2 (.bi .pair (.bi .sel (.bi .sel (.var 0) (.var 1)) (.int 1)) (.int 0))) (.bi .sub (.int 5) teWb0) (.bi .add (.bi .sub (.int 5) teWb0) teWb0))))]
def wRF_h0 : List (Nat × E) := [(4, (.bi .app (.var 4) (.tr .cut (.fn 2 (.bi .pair (.bi .sel (.bi .sel (.var 0) (.var 1)) (.int 1)) (.int 0))) (.bi .sub (.int 5) (.fn 1 (.bi .pair (.bi .sel (.bi .sel (.var 0) (.var 1)) (.int 1)) (.int 0)))) (.bi .add (.bi .sub (.int 5) (.fn 1 (.bi .pair (.bi .sel (.bi .sel (.var 0) (.var 1)) (.int 1)) (.int 0)))) (.fn 1 (.bi .pair (.bi .sel (.bi .sel (.var 0) (.var 1)) (.int 1)) (.int 0))))))), (2, (.bi .add (.var 2) (.fn 1 (.bi .pair (.bi .sel (.bi .sel (.var 0) (.var 1)) (.int 1)) (.int 0))))), (1, (.bi .add (.var 1) (.int 1))), (0, (.var 0))]
theorem wRF_h0_0 : lookE wRF_h0 0 = (.var 0) := rfl
theorem wRF_h0_1 : lookE wRF_h0 1 = (.bi .add (.var 1) (.int 1)) := rfl
theorem wRF_h0_2 : lookE wRF_h0 2 = (.bi .add (.var 2) (.fn 1 (.bi .pair (.bi .sel (.bi .sel (.var 0) (.var 1)) (.int 1)) (.int 0)))) := rfl
theorem wRF_h0_4 : lookE wRF_h0 4 = (.bi .app (.var 4) (.tr .cut (.fn 2 (.bi .pair (.bi .sel (.bi .sel (.var 0) (.var 1)) (.int 1)) (.int 0))) (.bi .sub (.int 5) (.fn 1 (.bi .pair (.bi .sel (.bi .sel (.var 0) (.var 1)) (.int 1)) (.int 0)))) (.bi .add (.bi .sub (.int 5) (.fn 1 (.bi .pair (.bi .sel (.bi .sel (.var 0) (.var 1)) (.int 1)) (.int 0)))) (.fn 1 (.bi .pair (.bi .sel (.bi .sel (.var 0) (.var 1)) (.int 1)) (.int 0)))))) := rfl
theorem wRF_y0 : nextJ (writesF 2) (writesF 2) wRF_h0 [(7, 17), (5, 13), (3, 3), (1, 1)] (roundC Try.prog [⟨18, [4, 1, 1], overL⟩] [(46, partsC), (22, sizeP), (23, sizeR), (47, putR), (47, putBad), (8, lentV), (17, keptV)] [(18, 5, .u8)] 3000 40 3 [4, 1, 0, 1, 1, 1, 1, 1] (tellA wRF_t0) (writesF 2)) = some wRF_d0 := by kernel_rfl
abbrev asWb71 : Q × Bool := ((.le (.bi .mul (.var 2) (.int 2)) (.int 281474976710656)), true)
def wRF_t1 : List (Q × Bool) := [asWb25, asWb32, asWb33, asWb34, asWb35, asWb45, asWb46, asWb68, asWb71, asWb42, asWb44]
def wRF_d1 : List Duty := []
def wRF_h1 : List (Nat × E) := [(4, (.var 4)), (2, (.var 2)), (1, (.bi .add (.var 1) (.int 1))), (0, (.var 0))]
theorem wRF_h1_0 : lookE wRF_h1 0 = (.var 0) := rfl
theorem wRF_h1_1 : lookE wRF_h1 1 = (.bi .add (.var 1) (.int 1)) := rfl
theorem wRF_h1_2 : lookE wRF_h1 2 = (.var 2) := rfl
theorem wRF_h1_4 : lookE wRF_h1 4 = (.var 4) := rfl
theorem wRF_y1 : nextJ (writesF 2) (writesF 3) wRF_h1 [(7, 11), (5, 5), (3, 3), (1, 1)] (roundC Try.prog [⟨18, [4, 1, 1], overL⟩] [(46, partsC), (22, sizeP), (23, sizeR), (47, putR), (47, putBad), (8, lentV), (17, keptV)] [(18, 5, .u8)] 3000 40 3 [4, 1, 0, 1, 1, 1, 1, 1] (tellA wRF_t1) (writesF 2)) = some wRF_d1 := by kernel_rfl
def wRF_t2 : List (Q × Bool) := [asWb25, asWb32, asWb33, asWb34, asWb35, asWb36, asWb47, asWb46, asWb68, asWb71, asWb42, asWb44]
def wRF_d2 : List Duty := []
def wRF_h2 : List (Nat × E) := [(4, (.var 4)), (2, (.var 2)), (1, (.bi .add (.var 1) (.int 1))), (0, (.var 0))]
theorem wRF_h2_0 : lookE wRF_h2 0 = (.var 0) := rfl
theorem wRF_h2_1 : lookE wRF_h2 1 = (.bi .add (.var 1) (.int 1)) := rfl
theorem wRF_h2_2 : lookE wRF_h2 2 = (.var 2) := rfl
theorem wRF_h2_4 : lookE wRF_h2 4 = (.var 4) := rfl
theorem wRF_y2 : nextJ (writesF 2) (writesF 3) wRF_h2 [(7, 11), (5, 5), (3, 3), (1, 1)] (roundC Try.prog [⟨18, [4, 1, 1], overL⟩] [(46, partsC), (22, sizeP), (23, sizeR), (47, putR), (47, putBad), (8, lentV), (17, keptV)] [(18, 5, .u8)] 3000 40 3 [4, 1, 0, 1, 1, 1, 1, 1] (tellA wRF_t2) (writesF 2)) = some wRF_d2 := by kernel_rfl
abbrev asWb72 : Q × Bool := ((.le (.bi .mul (.bi .add (.var 2) (.fn 1 (.bi .pair (.un .len (.bi .sel (.bi .sel (.var 0) (.var 1)) (.int 3))) (.int 0)))) (.int 2)) (.int 281474976710656)), true)
abbrev asWb73 : Q × Bool := ((.le (.bi .mul (.bi .add (.bi .add (.var 2) (.fn 1 (.bi .pair (.un .len (.bi .sel (.bi .sel (.var 0) (.var 1)) (.int 3))) (.int 0)))) (.un .len (.bi .sel (.bi .sel (.var 0) (.var 1)) (.int 3)))) (.int 2)) (.int 281474976710656)), true)
abbrev asWb74 : Q × Bool := ((.same (.bi .app (.bi .app (.var 4) (.tr .cut (.fn 2 (.bi .pair (.un .len (.bi .sel (.bi .sel (.var 0) (.var 1)) (.int 3))) (.int 0))) (.bi .sub (.int 5) (.fn 1 (.bi .pair (.un .len (.bi .sel (.bi .sel (.var 0) (.var 1)) (.int 3))) (.int 0)))) (.bi .add (.bi .sub (.int 5) (.fn 1 (.bi .pair (.un .len (.bi .sel (.bi .sel (.var 0) (.var 1)) (.int 3))) (.int 0)))) (.fn 1 (.bi .pair (.un .len (.bi .sel (.bi .sel (.var 0) (.var 1)) (.int 3))) (.int 0)))))) (.tr .cut (.fn 6 (.bi .pair (.bi .sel (.bi .sel (.var 0) (.var 1)) (.int 3)) (.bi .pair (.int 0) (.bi .pair (.un .len (.bi .sel (.bi .sel (.var 0) (.var 1)) (.int 3))) (.int 0))))) (.int 0) (.un .len (.bi .sel (.bi .sel (.var 0) (.var 1)) (.int 3))))) (.bi .app (.bi .app (.var 4) (.fn 3 (.bi .pair (.un .len (.bi .sel (.bi .sel (.var 0) (.var 1)) (.int 3))) (.int 0)))) (.bi .sel (.bi .sel (.var 0) (.var 1)) (.int 3)))), true)
def wRF_t3 : List (Q × Bool) := [asWb25, asWb32, asWb33, asWb34, asWb48, asWb49, asWb50, asWb51, asWb52, asWb68, asWb53, asWb72, asWb56, asWb73, asWb58, asWb42, asWb74, asWb44]
def wRF_d3 : List Duty := [(false, (.bi .app (.bi .app (.var 4) (.fn 3 teWb1)) (.bi .sel (.bi .sel (.var 0) (.var 1)) (.int 3))), (.bi .app (.bi .app (.var 4) (.tr .cut (.fn 2 teWb1) (.bi .sub (.int 5) (.fn 1 teWb1)) (.bi .add (.bi .sub (.int 5) (.fn 1 teWb1)) (.fn 1 teWb1)))) (.tr .cut (.fn 6 (.bi .pair (.bi .sel (.bi .sel (.var 0) (.var 1)) (.int 3)) (.bi .pair (.int 0) teWb1))) (.int 0) (.un .len (.bi .sel (.bi .sel (.var 0) (.var 1)) (.int 3))))))]
def wRF_h3 : List (Nat × E) := [(4, (.bi .app (.bi .app (.var 4) (.tr .cut (.fn 2 (.bi .pair (.un .len (.bi .sel (.bi .sel (.var 0) (.var 1)) (.int 3))) (.int 0))) (.bi .sub (.int 5) (.fn 1 (.bi .pair (.un .len (.bi .sel (.bi .sel (.var 0) (.var 1)) (.int 3))) (.int 0)))) (.bi .add (.bi .sub (.int 5) (.fn 1 (.bi .pair (.un .len (.bi .sel (.bi .sel (.var 0) (.var 1)) (.int 3))) (.int 0)))) (.fn 1 (.bi .pair (.un .len (.bi .sel (.bi .sel (.var 0) (.var 1)) (.int 3))) (.int 0)))))) (.tr .cut (.fn 6 (.bi .pair (.bi .sel (.bi .sel (.var 0) (.var 1)) (.int 3)) (.bi .pair (.int 0) (.bi .pair (.un .len (.bi .sel (.bi .sel (.var 0) (.var 1)) (.int 3))) (.int 0))))) (.int 0) (.un .len (.bi .sel (.bi .sel (.var 0) (.var 1)) (.int 3)))))), (2, (.bi .add (.bi .add (.var 2) (.fn 1 (.bi .pair (.un .len (.bi .sel (.bi .sel (.var 0) (.var 1)) (.int 3))) (.int 0)))) (.un .len (.bi .sel (.bi .sel (.var 0) (.var 1)) (.int 3))))), (1, (.bi .add (.var 1) (.int 1))), (0, (.var 0))]
theorem wRF_h3_0 : lookE wRF_h3 0 = (.var 0) := rfl
theorem wRF_h3_1 : lookE wRF_h3 1 = (.bi .add (.var 1) (.int 1)) := rfl
theorem wRF_h3_2 : lookE wRF_h3 2 = (.bi .add (.bi .add (.var 2) (.fn 1 (.bi .pair (.un .len (.bi .sel (.bi .sel (.var 0) (.var 1)) (.int 3))) (.int 0)))) (.un .len (.bi .sel (.bi .sel (.var 0) (.var 1)) (.int 3)))) := rfl
theorem wRF_h3_4 : lookE wRF_h3 4 = (.bi .app (.bi .app (.var 4) (.tr .cut (.fn 2 (.bi .pair (.un .len (.bi .sel (.bi .sel (.var 0) (.var 1)) (.int 3))) (.int 0))) (.bi .sub (.int 5) (.fn 1 (.bi .pair (.un .len (.bi .sel (.bi .sel (.var 0) (.var 1)) (.int 3))) (.int 0)))) (.bi .add (.bi .sub (.int 5) (.fn 1 (.bi .pair (.un .len (.bi .sel (.bi .sel (.var 0) (.var 1)) (.int 3))) (.int 0)))) (.fn 1 (.bi .pair (.un .len (.bi .sel (.bi .sel (.var 0) (.var 1)) (.int 3))) (.int 0)))))) (.tr .cut (.fn 6 (.bi .pair (.bi .sel (.bi .sel (.var 0) (.var 1)) (.int 3)) (.bi .pair (.int 0) (.bi .pair (.un .len (.bi .sel (.bi .sel (.var 0) (.var 1)) (.int 3))) (.int 0))))) (.int 0) (.un .len (.bi .sel (.bi .sel (.var 0) (.var 1)) (.int 3))))) := rfl
theorem wRF_y3 : nextJ (writesF 2) (writesF 2) wRF_h3 [(7, 21), (5, 15), (3, 3), (1, 1)] (roundC Try.prog [⟨18, [4, 1, 1], overL⟩] [(46, partsC), (22, sizeP), (23, sizeR), (47, putR), (47, putBad), (8, lentV), (17, keptV)] [(18, 5, .u8)] 3000 40 3 [4, 1, 0, 1, 1, 1, 1, 1] (tellA wRF_t3) (writesF 2)) = some wRF_d3 := by kernel_rfl
abbrev asWb75 : Q × Bool := ((.same (.bi .app (.bi .app (.var 4) (.tr .cut (.fn 2 (.bi .pair (.un .len (.bi .sel (.bi .sel (.var 0) (.var 1)) (.int 3))) (.int 0))) (.bi .sub (.int 5) (.fn 1 (.bi .pair (.un .len (.bi .sel (.bi .sel (.var 0) (.var 1)) (.int 3))) (.int 0)))) (.bi .add (.bi .sub (.int 5) (.fn 1 (.bi .pair (.un .len (.bi .sel (.bi .sel (.var 0) (.var 1)) (.int 3))) (.int 0)))) (.fn 1 (.bi .pair (.un .len (.bi .sel (.bi .sel (.var 0) (.var 1)) (.int 3))) (.int 0)))))) (.bi .sel (.bi .sel (.var 0) (.var 1)) (.int 3))) (.bi .app (.bi .app (.var 4) (.fn 3 (.bi .pair (.un .len (.bi .sel (.bi .sel (.var 0) (.var 1)) (.int 3))) (.int 0)))) (.bi .sel (.bi .sel (.var 0) (.var 1)) (.int 3)))), true)
def wRF_t4 : List (Q × Bool) := [asWb25, asWb32, asWb33, asWb34, asWb48, asWb60, asWb61, asWb62, asWb50, asWb51, asWb52, asWb68, asWb53, asWb72, asWb73, asWb58, asWb42, asWb75, asWb44]
def wRF_d4 : List Duty := [(false, (.bi .app (.bi .app (.var 4) (.fn 3 teWb1)) (.bi .sel (.bi .sel (.var 0) (.var 1)) (.int 3))), (.bi .app (.bi .app (.var 4) (.tr .cut (.fn 2 teWb1) (.bi .sub (.int 5) (.fn 1 teWb1)) (.bi .add (.bi .sub (.int 5) (.fn 1 teWb1)) (.fn 1 teWb1)))) (.bi .sel (.bi .sel (.var 0) (.var 1)) (.int 3))))]
def wRF_h4 : List (Nat × E) := [(4, (.bi .app (.bi .app (.var 4) (.tr .cut (.fn 2 (.bi .pair (.un .len (.bi .sel (.bi .sel (.var 0) (.var 1)) (.int 3))) (.int 0))) (.bi .sub (.int 5) (.fn 1 (.bi .pair (.un .len (.bi .sel (.bi .sel (.var 0) (.var 1)) (.int 3))) (.int 0)))) (.bi .add (.bi .sub (.int 5) (.fn 1 (.bi .pair (.un .len (.bi .sel (.bi .sel (.var 0) (.var 1)) (.int 3))) (.int 0)))) (.fn 1 (.bi .pair (.un .len (.bi .sel (.bi .sel (.var 0) (.var 1)) (.int 3))) (.int 0)))))) (.bi .sel (.bi .sel (.var 0) (.var 1)) (.int 3)))), (2, (.bi .add (.bi .add (.var 2) (.fn 1 (.bi .pair (.un .len (.bi .sel (.bi .sel (.var 0) (.var 1)) (.int 3))) (.int 0)))) (.un .len (.bi .sel (.bi .sel (.var 0) (.var 1)) (.int 3))))), (1, (.bi .add (.var 1) (.int 1))), (0, (.var 0))]
theorem wRF_h4_0 : lookE wRF_h4 0 = (.var 0) := rfl
theorem wRF_h4_1 : lookE wRF_h4 1 = (.bi .add (.var 1) (.int 1)) := rfl
theorem wRF_h4_2 : lookE wRF_h4 2 = (.bi .add (.bi .add (.var 2) (.fn 1 (.bi .pair (.un .len (.bi .sel (.bi .sel (.var 0) (.var 1)) (.int 3))) (.int 0)))) (.un .len (.bi .sel (.bi .sel (.var 0) (.var 1)) (.int 3)))) := rfl
theorem wRF_h4_4 : lookE wRF_h4 4 = (.bi .app (.bi .app (.var 4) (.tr .cut (.fn 2 (.bi .pair (.un .len (.bi .sel (.bi .sel (.var 0) (.var 1)) (.int 3))) (.int 0))) (.bi .sub (.int 5) (.fn 1 (.bi .pair (.un .len (.bi .sel (.bi .sel (.var 0) (.var 1)) (.int 3))) (.int 0)))) (.bi .add (.bi .sub (.int 5) (.fn 1 (.bi .pair (.un .len (.bi .sel (.bi .sel (.var 0) (.var 1)) (.int 3))) (.int 0)))) (.fn 1 (.bi .pair (.un .len (.bi .sel (.bi .sel (.var 0) (.var 1)) (.int 3))) (.int 0)))))) (.bi .sel (.bi .sel (.var 0) (.var 1)) (.int 3))) := rfl
theorem wRF_y4 : nextJ (writesF 2) (writesF 2) wRF_h4 [(7, 25), (5, 17), (3, 3), (1, 1)] (roundC Try.prog [⟨18, [4, 1, 1], overL⟩] [(46, partsC), (22, sizeP), (23, sizeR), (47, putR), (47, putBad), (8, lentV), (17, keptV)] [(18, 5, .u8)] 3000 40 3 [4, 1, 0, 1, 1, 1, 1, 1] (tellA wRF_t4) (writesF 2)) = some wRF_d4 := by kernel_rfl
abbrev asWb76 : Q × Bool := ((.le (.bi .mul (.bi .add (.var 2) (.int 16)) (.int 2)) (.int 281474976710656)), true)
def wRF_t5 : List (Q × Bool) := [asWb25, asWb32, asWb33, asWb34, asWb48, asWb60, asWb64, asWb65, asWb76, asWb42, asWb44]
def wRF_d5 : List Duty := []
def wRF_h5 : List (Nat × E) := [(4, (.bi .app (.var 4) (.tr .seg (.bi .sel (.bi .sel (.var 0) (.var 1)) (.int 4)) (.int 0) (.int 16)))), (2, (.bi .add (.var 2) (.int 16))), (1, (.bi .add (.var 1) (.int 1))), (0, (.var 0))]
theorem wRF_h5_0 : lookE wRF_h5 0 = (.var 0) := rfl
theorem wRF_h5_1 : lookE wRF_h5 1 = (.bi .add (.var 1) (.int 1)) := rfl
theorem wRF_h5_2 : lookE wRF_h5 2 = (.bi .add (.var 2) (.int 16)) := rfl
theorem wRF_h5_4 : lookE wRF_h5 4 = (.bi .app (.var 4) (.tr .seg (.bi .sel (.bi .sel (.var 0) (.var 1)) (.int 4)) (.int 0) (.int 16))) := rfl
theorem wRF_y5 : nextJ (writesF 2) (writesF 2) wRF_h5 [(7, 17), (5, 13), (3, 3), (1, 1)] (roundC Try.prog [⟨18, [4, 1, 1], overL⟩] [(46, partsC), (22, sizeP), (23, sizeR), (47, putR), (47, putBad), (8, lentV), (17, keptV)] [(18, 5, .u8)] 3000 40 3 [4, 1, 0, 1, 1, 1, 1, 1] (tellA wRF_t5) (writesF 2)) = some wRF_d5 := by kernel_rfl
def wRF_t6 : List (Q × Bool) := [asWb25, asWb32, asWb33, asWb34, asWb48, asWb60, asWb64, asWb66, asWb42, asWb71, asWb44]
def wRF_d6 : List Duty := []
def wRF_h6 : List (Nat × E) := [(4, (.var 4)), (2, (.var 2)), (1, (.bi .add (.var 1) (.int 1))), (0, (.var 0))]
theorem wRF_h6_0 : lookE wRF_h6 0 = (.var 0) := rfl
theorem wRF_h6_1 : lookE wRF_h6 1 = (.bi .add (.var 1) (.int 1)) := rfl
theorem wRF_h6_2 : lookE wRF_h6 2 = (.var 2) := rfl
theorem wRF_h6_4 : lookE wRF_h6 4 = (.var 4) := rfl
theorem wRF_y6 : nextJ (writesF 2) (writesF 2) wRF_h6 [(7, 7), (5, 5), (3, 3), (1, 1)] (roundC Try.prog [⟨18, [4, 1, 1], overL⟩] [(46, partsC), (22, sizeP), (23, sizeR), (47, putR), (47, putBad), (8, lentV), (17, keptV)] [(18, 5, .u8)] 3000 40 3 [4, 1, 0, 1, 1, 1, 1, 1] (tellA wRF_t6) (writesF 2)) = some wRF_d6 := by kernel_rfl
def wRF_t7 : List (Q × Bool) := [asWb25, asWb67]
def wRF_d7 : List Duty := []
theorem wRF_y7 : endD (writesF 2) [(1, 1), (3, 3)] 1000 (roundC Try.prog [⟨18, [4, 1, 1], overL⟩] [(46, partsC), (22, sizeP), (23, sizeR), (47, putR), (47, putBad), (8, lentV), (17, keptV)] [(18, 5, .u8)] 3000 40 3 [4, 1, 0, 1, 1, 1, 1, 1] (tellA wRF_t7) (writesF 2)) = some wRF_d7 := by kernel_rfl
def wRT_t0 : List (Q × Bool) := [asWb25, asWb32, asWb33, asWb34, asWb35, asWb36, asWb37, asWb68, asWb38, asWb69, asWb41, asWb42, asWb44]
def wRT_d0 : List Duty := [(false, (.bi .app (.var 4) (.fn 3 (.bi .pair (.bi .sel (.bi .sel (.var 0) (.var 1)) (.int 1)) (.int 0)))), (.bi .app (.var 4) (.tr .cut (.fn 2 (.bi .pair (.bi .sel (.bi .sel (.var 0) (.var 1)) (.int 1)) (.int 0))) (.bi .sub (.int 5) teWb0) (.bi .add (.bi .sub (.int 5) teWb0) teWb0))))]
def wRT_h0 : List (Nat × E) := [(4, (.bi .app (.var 4) (.tr .cut (.fn 2 (.bi .pair (.bi .sel (.bi .sel (.var 0) (.var 1)) (.int 1)) (.int 0))) (.bi .sub (.int 5) (.fn 1 (.bi .pair (.bi .sel (.bi .sel (.var 0) (.var 1)) (.int 1)) (.int 0)))) (.bi .add (.bi .sub (.int 5) (.fn 1 (.bi .pair (.bi .sel (.bi .sel (.var 0) (.var 1)) (.int 1)) (.int 0)))) (.fn 1 (.bi .pair (.bi .sel (.bi .sel (.var 0) (.var 1)) (.int 1)) (.int 0))))))), (2, (.bi .add (.var 2) (.fn 1 (.bi .pair (.bi .sel (.bi .sel (.var 0) (.var 1)) (.int 1)) (.int 0))))), (1, (.bi .add (.var 1) (.int 1))), (0, (.var 0))]
theorem wRT_h0_0 : lookE wRT_h0 0 = (.var 0) := rfl
theorem wRT_h0_1 : lookE wRT_h0 1 = (.bi .add (.var 1) (.int 1)) := rfl
theorem wRT_h0_2 : lookE wRT_h0 2 = (.bi .add (.var 2) (.fn 1 (.bi .pair (.bi .sel (.bi .sel (.var 0) (.var 1)) (.int 1)) (.int 0)))) := rfl
theorem wRT_h0_4 : lookE wRT_h0 4 = (.bi .app (.var 4) (.tr .cut (.fn 2 (.bi .pair (.bi .sel (.bi .sel (.var 0) (.var 1)) (.int 1)) (.int 0))) (.bi .sub (.int 5) (.fn 1 (.bi .pair (.bi .sel (.bi .sel (.var 0) (.var 1)) (.int 1)) (.int 0)))) (.bi .add (.bi .sub (.int 5) (.fn 1 (.bi .pair (.bi .sel (.bi .sel (.var 0) (.var 1)) (.int 1)) (.int 0)))) (.fn 1 (.bi .pair (.bi .sel (.bi .sel (.var 0) (.var 1)) (.int 1)) (.int 0)))))) := rfl
theorem wRT_y0 : nextJ (writesF 3) (writesF 3) wRT_h0 [(7, 17), (5, 13), (3, 3), (1, 1)] (roundC Try.prog [⟨18, [4, 1, 1], overL⟩] [(46, partsC), (22, sizeP), (23, sizeR), (47, putR), (47, putBad), (8, lentV), (17, keptV)] [(18, 5, .u8)] 3000 40 3 [4, 1, 0, 1, 1, 1, 1, 1] (tellA wRT_t0) (writesF 3)) = some wRT_d0 := by kernel_rfl
def wRT_t1 : List (Q × Bool) := [asWb25, asWb32, asWb33, asWb34, asWb35, asWb45, asWb46, asWb68, asWb71, asWb42, asWb44]
def wRT_d1 : List Duty := []
def wRT_h1 : List (Nat × E) := [(4, (.var 4)), (2, (.var 2)), (1, (.bi .add (.var 1) (.int 1))), (0, (.var 0))]
theorem wRT_h1_0 : lookE wRT_h1 0 = (.var 0) := rfl
theorem wRT_h1_1 : lookE wRT_h1 1 = (.bi .add (.var 1) (.int 1)) := rfl
theorem wRT_h1_2 : lookE wRT_h1 2 = (.var 2) := rfl
theorem wRT_h1_4 : lookE wRT_h1 4 = (.var 4) := rfl
theorem wRT_y1 : nextJ (writesF 3) (writesF 3) wRT_h1 [(7, 11), (5, 5), (3, 3), (1, 1)] (roundC Try.prog [⟨18, [4, 1, 1], overL⟩] [(46, partsC), (22, sizeP), (23, sizeR), (47, putR), (47, putBad), (8, lentV), (17, keptV)] [(18, 5, .u8)] 3000 40 3 [4, 1, 0, 1, 1, 1, 1, 1] (tellA wRT_t1) (writesF 3)) = some wRT_d1 := by kernel_rfl
def wRT_t2 : List (Q × Bool) := [asWb25, asWb32, asWb33, asWb34, asWb35, asWb36, asWb47, asWb46, asWb68, asWb71, asWb42, asWb44]
def wRT_d2 : List Duty := []
def wRT_h2 : List (Nat × E) := [(4, (.var 4)), (2, (.var 2)), (1, (.bi .add (.var 1) (.int 1))), (0, (.var 0))]
theorem wRT_h2_0 : lookE wRT_h2 0 = (.var 0) := rfl
theorem wRT_h2_1 : lookE wRT_h2 1 = (.bi .add (.var 1) (.int 1)) := rfl
theorem wRT_h2_2 : lookE wRT_h2 2 = (.var 2) := rfl
theorem wRT_h2_4 : lookE wRT_h2 4 = (.var 4) := rfl
theorem wRT_y2 : nextJ (writesF 3) (writesF 3) wRT_h2 [(7, 11), (5, 5), (3, 3), (1, 1)] (roundC Try.prog [⟨18, [4, 1, 1], overL⟩] [(46, partsC), (22, sizeP), (23, sizeR), (47, putR), (47, putBad), (8, lentV), (17, keptV)] [(18, 5, .u8)] 3000 40 3 [4, 1, 0, 1, 1, 1, 1, 1] (tellA wRT_t2) (writesF 3)) = some wRT_d2 := by kernel_rfl
def wRT_t3 : List (Q × Bool) := [asWb25, asWb32, asWb33, asWb34, asWb48, asWb49, asWb50, asWb51, asWb52, asWb68, asWb53, asWb72, asWb56, asWb73, asWb58, asWb42, asWb44]
def wRT_d3 : List Duty := [(false, (.bi .app (.bi .app (.var 4) (.fn 3 teWb1)) (.bi .sel (.bi .sel (.var 0) (.var 1)) (.int 3))), (.bi .app (.bi .app (.var 4) (.tr .cut (.fn 2 teWb1) (.bi .sub (.int 5) (.fn 1 teWb1)) (.bi .add (.bi .sub (.int 5) (.fn 1 teWb1)) (.fn 1 teWb1)))) (.tr .cut (.fn 6 (.bi .pair (.bi .sel (.bi .sel (.var 0) (.var 1)) (.int 3)) (.bi .pair (.int 0) teWb1))) (.int 0) (.un .len (.bi .sel (.bi .sel (.var 0) (.var 1)) (.int 3))))))]
def wRT_h3 : List (Nat × E) := [(4, (.bi .app (.bi .app (.var 4) (.tr .cut (.fn 2 (.bi .pair (.un .len (.bi .sel (.bi .sel (.var 0) (.var 1)) (.int 3))) (.int 0))) (.bi .sub (.int 5) (.fn 1 (.bi .pair (.un .len (.bi .sel (.bi .sel (.var 0) (.var 1)) (.int 3))) (.int 0)))) (.bi .add (.bi .sub (.int 5) (.fn 1 (.bi .pair (.un .len (.bi .sel (.bi .sel (.var 0) (.var 1)) (.int 3))) (.int 0)))) (.fn 1 (.bi .pair (.un .len (.bi .sel (.bi .sel (.var 0) (.var 1)) (.int 3))) (.int 0)))))) (.tr .cut (.fn 6 (.bi .pair (.bi .sel (.bi .sel (.var 0) (.var 1)) (.int 3)) (.bi .pair (.int 0) (.bi .pair (.un .len (.bi .sel (.bi .sel (.var 0) (.var 1)) (.int 3))) (.int 0))))) (.int 0) (.un .len (.bi .sel (.bi .sel (.var 0) (.var 1)) (.int 3)))))), (2, (.bi .add (.bi .add (.var 2) (.fn 1 (.bi .pair (.un .len (.bi .sel (.bi .sel (.var 0) (.var 1)) (.int 3))) (.int 0)))) (.un .len (.bi .sel (.bi .sel (.var 0) (.var 1)) (.int 3))))), (1, (.bi .add (.var 1) (.int 1))), (0, (.var 0))]
theorem wRT_h3_0 : lookE wRT_h3 0 = (.var 0) := rfl
theorem wRT_h3_1 : lookE wRT_h3 1 = (.bi .add (.var 1) (.int 1)) := rfl
theorem wRT_h3_2 : lookE wRT_h3 2 = (.bi .add (.bi .add (.var 2) (.fn 1 (.bi .pair (.un .len (.bi .sel (.bi .sel (.var 0) (.var 1)) (.int 3))) (.int 0)))) (.un .len (.bi .sel (.bi .sel (.var 0) (.var 1)) (.int 3)))) := rfl
theorem wRT_h3_4 : lookE wRT_h3 4 = (.bi .app (.bi .app (.var 4) (.tr .cut (.fn 2 (.bi .pair (.un .len (.bi .sel (.bi .sel (.var 0) (.var 1)) (.int 3))) (.int 0))) (.bi .sub (.int 5) (.fn 1 (.bi .pair (.un .len (.bi .sel (.bi .sel (.var 0) (.var 1)) (.int 3))) (.int 0)))) (.bi .add (.bi .sub (.int 5) (.fn 1 (.bi .pair (.un .len (.bi .sel (.bi .sel (.var 0) (.var 1)) (.int 3))) (.int 0)))) (.fn 1 (.bi .pair (.un .len (.bi .sel (.bi .sel (.var 0) (.var 1)) (.int 3))) (.int 0)))))) (.tr .cut (.fn 6 (.bi .pair (.bi .sel (.bi .sel (.var 0) (.var 1)) (.int 3)) (.bi .pair (.int 0) (.bi .pair (.un .len (.bi .sel (.bi .sel (.var 0) (.var 1)) (.int 3))) (.int 0))))) (.int 0) (.un .len (.bi .sel (.bi .sel (.var 0) (.var 1)) (.int 3))))) := rfl
theorem wRT_y3 : nextJ (writesF 3) (writesF 3) wRT_h3 [(7, 21), (5, 15), (3, 3), (1, 1)] (roundC Try.prog [⟨18, [4, 1, 1], overL⟩] [(46, partsC), (22, sizeP), (23, sizeR), (47, putR), (47, putBad), (8, lentV), (17, keptV)] [(18, 5, .u8)] 3000 40 3 [4, 1, 0, 1, 1, 1, 1, 1] (tellA wRT_t3) (writesF 3)) = some wRT_d3 := by kernel_rfl
def wRT_t4 : List (Q × Bool) := [asWb25, asWb32, asWb33, asWb34, asWb48, asWb60, asWb61, asWb62, asWb50, asWb51, asWb52, asWb68, asWb53, asWb72, asWb73, asWb58, asWb42, asWb44]
def wRT_d4 : List Duty := [(false, (.bi .app (.bi .app (.var 4) (.fn 3 teWb1)) (.bi .sel (.bi .sel (.var 0) (.var 1)) (.int 3))), (.bi .app (.bi .app (.var 4) (.tr .cut (.fn 2 teWb1) (.bi .sub (.int 5) (.fn 1 teWb1)) (.bi .add (.bi .sub (.int 5) (.fn 1 teWb1)) (.fn 1 teWb1)))) (.bi .sel (.bi .sel (.var 0) (.var 1)) (.int 3))))]
def wRT_h4 : List (Nat × E) := [(4, (.bi .app (.bi .app (.var 4) (.tr .cut (.fn 2 (.bi .pair (.un .len (.bi .sel (.bi .sel (.var 0) (.var 1)) (.int 3))) (.int 0))) (.bi .sub (.int 5) (.fn 1 (.bi .pair (.un .len (.bi .sel (.bi .sel (.var 0) (.var 1)) (.int 3))) (.int 0)))) (.bi .add (.bi .sub (.int 5) (.fn 1 (.bi .pair (.un .len (.bi .sel (.bi .sel (.var 0) (.var 1)) (.int 3))) (.int 0)))) (.fn 1 (.bi .pair (.un .len (.bi .sel (.bi .sel (.var 0) (.var 1)) (.int 3))) (.int 0)))))) (.bi .sel (.bi .sel (.var 0) (.var 1)) (.int 3)))), (2, (.bi .add (.bi .add (.var 2) (.fn 1 (.bi .pair (.un .len (.bi .sel (.bi .sel (.var 0) (.var 1)) (.int 3))) (.int 0)))) (.un .len (.bi .sel (.bi .sel (.var 0) (.var 1)) (.int 3))))), (1, (.bi .add (.var 1) (.int 1))), (0, (.var 0))]
theorem wRT_h4_0 : lookE wRT_h4 0 = (.var 0) := rfl
theorem wRT_h4_1 : lookE wRT_h4 1 = (.bi .add (.var 1) (.int 1)) := rfl
theorem wRT_h4_2 : lookE wRT_h4 2 = (.bi .add (.bi .add (.var 2) (.fn 1 (.bi .pair (.un .len (.bi .sel (.bi .sel (.var 0) (.var 1)) (.int 3))) (.int 0)))) (.un .len (.bi .sel (.bi .sel (.var 0) (.var 1)) (.int 3)))) := rfl
theorem wRT_h4_4 : lookE wRT_h4 4 = (.bi .app (.bi .app (.var 4) (.tr .cut (.fn 2 (.bi .pair (.un .len (.bi .sel (.bi .sel (.var 0) (.var 1)) (.int 3))) (.int 0))) (.bi .sub (.int 5) (.fn 1 (.bi .pair (.un .len (.bi .sel (.bi .sel (.var 0) (.var 1)) (.int 3))) (.int 0)))) (.bi .add (.bi .sub (.int 5) (.fn 1 (.bi .pair (.un .len (.bi .sel (.bi .sel (.var 0) (.var 1)) (.int 3))) (.int 0)))) (.fn 1 (.bi .pair (.un .len (.bi .sel (.bi .sel (.var 0) (.var 1)) (.int 3))) (.int 0)))))) (.bi .sel (.bi .sel (.var 0) (.var 1)) (.int 3))) := rfl
theorem wRT_y4 : nextJ (writesF 3) (writesF 3) wRT_h4 [(7, 25), (5, 17), (3, 3), (1, 1)] (roundC Try.prog [⟨18, [4, 1, 1], overL⟩] [(46, partsC), (22, sizeP), (23, sizeR), (47, putR), (47, putBad), (8, lentV), (17, keptV)] [(18, 5, .u8)] 3000 40 3 [4, 1, 0, 1, 1, 1, 1, 1] (tellA wRT_t4) (writesF 3)) = some wRT_d4 := by kernel_rfl
def wRT_t5 : List (Q × Bool) := [asWb25, asWb32, asWb33, asWb34, asWb48, asWb60, asWb64, asWb65, asWb76, asWb42, asWb44]
def wRT_d5 : List Duty := []
def wRT_h5 : List (Nat × E) := [(4, (.bi .app (.var 4) (.tr .seg (.bi .sel (.bi .sel (.var 0) (.var 1)) (.int 4)) (.int 0) (.int 16)))), (2, (.bi .add (.var 2) (.int 16))), (1, (.bi .add (.var 1) (.int 1))), (0, (.var 0))]
theorem wRT_h5_0 : lookE wRT_h5 0 = (.var 0) := rfl
theorem wRT_h5_1 : lookE wRT_h5 1 = (.bi .add (.var 1) (.int 1)) := rfl
theorem wRT_h5_2 : lookE wRT_h5 2 = (.bi .add (.var 2) (.int 16)) := rfl
theorem wRT_h5_4 : lookE wRT_h5 4 = (.bi .app (.var 4) (.tr .seg (.bi .sel (.bi .sel (.var 0) (.var 1)) (.int 4)) (.int 0) (.int 16))) := rfl
theorem wRT_y5 : nextJ (writesF 3) (writesF 3) wRT_h5 [(7, 17), (5, 13), (3, 3), (1, 1)] (roundC Try.prog [⟨18, [4, 1, 1], overL⟩] [(46, partsC), (22, sizeP), (23, sizeR), (47, putR), (47, putBad), (8, lentV), (17, keptV)] [(18, 5, .u8)] 3000 40 3 [4, 1, 0, 1, 1, 1, 1, 1] (tellA wRT_t5) (writesF 3)) = some wRT_d5 := by kernel_rfl
def wRT_t6 : List (Q × Bool) := [asWb25, asWb32, asWb33, asWb34, asWb48, asWb60, asWb64, asWb66, asWb42, asWb44]
def wRT_d6 : List Duty := []
def wRT_h6 : List (Nat × E) := [(4, (.var 4)), (2, (.var 2)), (1, (.bi .add (.var 1) (.int 1))), (0, (.var 0))]
theorem wRT_h6_0 : lookE wRT_h6 0 = (.var 0) := rfl
theorem wRT_h6_1 : lookE wRT_h6 1 = (.bi .add (.var 1) (.int 1)) := rfl
theorem wRT_h6_2 : lookE wRT_h6 2 = (.var 2) := rfl
theorem wRT_h6_4 : lookE wRT_h6 4 = (.var 4) := rfl
theorem wRT_y6 : nextJ (writesF 3) (writesF 3) wRT_h6 [(7, 7), (5, 5), (3, 3), (1, 1)] (roundC Try.prog [⟨18, [4, 1, 1], overL⟩] [(46, partsC), (22, sizeP), (23, sizeR), (47, putR), (47, putBad), (8, lentV), (17, keptV)] [(18, 5, .u8)] 3000 40 3 [4, 1, 0, 1, 1, 1, 1, 1] (tellA wRT_t6) (writesF 3)) = some wRT_d6 := by kernel_rfl
def wRT_t7 : List (Q × Bool) := [asWb25, asWb67]
def wRT_d7 : List Duty := []
theorem wRT_y7 : endD (writesF 3) [(1, 1), (3, 3)] 1000 (roundC Try.prog [⟨18, [4, 1, 1], overL⟩] [(46, partsC), (22, sizeP), (23, sizeR), (47, putR), (47, putBad), (8, lentV), (17, keptV)] [(18, 5, .u8)] 3000 40 3 [4, 1, 0, 1, 1, 1, 1, 1] (tellA wRT_t7) (writesF 3)) = some wRT_d7 := by kernel_rfl
theorem writesF_holds : ∀ i, i < 4 → LHolds Try.prog (loopAt Try.prog 3 [4, 1, 0, 1, 1, 1, 1, 1]) (writesF i) F := by
  refine loop_famC sound (tableCons overL_holds (tableNil _ _)) (specsCons partsC_holds (specsCons sizeP_holds (specsCons sizeR_holds (specsCons putR_holds (specsCons putBad_holds (specsCons lentV_holds (specsCons keptV_holds (specsNil _ _)))))))) (oversCons overV_holds (oversNil _ _)) (fuel := 3000) (depth := 40) (by kernel_rfl) (fun i d => match i with | 0 => ((d 0).toList.length - (d 1).toInt).toNat | 1 => ((d 0).toList.length - (d 1).toInt).toNat | 2 => ((d 0).toList.length - (d 1).toInt).toNat | _ => ((d 0).toList.length - (d 1).toInt).toNat) ?_
  intro i hi d hp hR hA
  match i, hi with
  | 0, _ =>
      have hp := allTold'_iff.2 hp
      simp only [writesF, wNF, allTold', dutiesTold, factsA, factsC, factsP, factsR, AV.facts, RW.facts, inK, and_true, Q.holds', E.i, E.s, E.n, D.nat, E.den, BO.den, UO.den, TO.den, D.toInt_int, D.toList_list, D.ints_ofInts, i64min, i64max, u8min, u8max, u16min, u16max, u32min, u32max, u64min, u64max, i32min, i32max, Om.sub, selI, ints_app, ints_cut, ints_upd, ints_rep, ints_splice, ints_seg, len_ints] at hp hR hA
      simp only [F30, allTold', dutiesTold, factsA, factsC, factsP, factsR, AV.facts, RW.facts, inK, and_true, Q.holds', E.i, E.s, E.n, D.nat, E.den, BO.den, UO.den, TO.den, D.toInt_int, D.toList_list, D.ints_ofInts, i64min, i64max, u8min, u8max, u16min, u16max, u32min, u32max, u64min, u64max, i32min, i32max, Om.sub, selI, ints_app, ints_cut, ints_upd, ints_rep, ints_splice, ints_seg, len_ints] at hp
      obtain ⟨p1, p2, p3, p4⟩ := hp
      have g0 : (d 0).ints.length = (d 0).toList.length := (len_ints _).symm
      by_cases h : ((d 0).toList.length : Int) ≤ (d 1).toInt
      · refine ⟨tellA wNF_t7, tellA_ok (allTold'_iff.1 ?_), .inl ⟨_, _, _, wNF_y7, dutiesTold_ok ?_⟩⟩
        · simp only [wNF_t7, allTold', dutiesTold, factsA, factsC, factsP, factsR, AV.facts, RW.facts, inK, and_true, Q.holds', E.i, E.s, E.n, D.nat, E.den, BO.den, UO.den, TO.den, D.toInt_int, D.toList_list, D.ints_ofInts, i64min, i64max, u8min, u8max, u16min, u16max, u32min, u32max, u64min, u64max, i32min, i32max, Om.sub, selI, ints_app, ints_cut, ints_upd, ints_rep, ints_splice, ints_seg, len_ints]
          omega
        · simp only [wNF_d7, allTold', dutiesTold, factsA, factsC, factsP, factsR, AV.facts, RW.facts, inK, and_true, Q.holds', E.i, E.s, E.n, D.nat, E.den, BO.den, UO.den, TO.den, D.toInt_int, D.toList_list, D.ints_ofInts, i64min, i64max, u8min, u8max, u16min, u16max, u32min, u32max, u64min, u64max, i32min, i32max, Om.sub, selI, ints_app, ints_cut, ints_upd, ints_rep, ints_splice, ints_seg, len_ints]
      · have e := lens_step (l := (d 0).toList) (i := (d 1).toInt.toNat) (by omega) (by omega)
        have hnn2 := lens_nn (((d 0).toList.take 41).drop ((d 1).toInt.toNat + 1))
        have hi : ((d 1).toInt + 1).toNat = (d 1).toInt.toNat + 1 := by omega
        have z0 : Int.toNat 0 = 0 := rfl
        have z1 : Int.toNat 1 = 1 := rfl
        have z3 : Int.toNat 3 = 3 := rfl
        generalize hX : (d 0).toList[(d 1).toInt.toNat]?.getD (D.int 0) = X at *
        generalize hB : X.toList[3]?.getD (D.int 0) = B at *
        generalize hN : X.ints[1]?.getD 0 = N at *
        generalize hK : X.ints[0]?.getD 0 = K at *
        have g1 : B.ints.length = B.toList.length := (len_ints _).symm
        have hlc := lent_cut B.ints
        have hs1 := sz_in N
        have hs2 := sz_in (B.ints.length : Int)
        have hc2 := five_cut (n := (B.ints.length : Int)) (by omega) (by omega)
        have hq2 : (if 0 ≤ (B.ints.length : Int) ∧ (B.ints.length : Int) ≤ 2147483647 then szI (B.ints.length : Int) else 0) = szI (B.ints.length : Int) := if_pos ⟨by omega, by omega⟩
        by_cases k0 : K = 0
        · by_cases a : 0 ≤ N
          · by_cases b : N ≤ 2147483647
            · have hc1 := five_cut a b
              have hq1 : (if 0 ≤ N ∧ N ≤ 2147483647 then szI N else 0) = szI N := if_pos ⟨a, b⟩
              refine ⟨tellA wNF_t0, tellA_ok (allTold'_iff.1 ?_), .inr ⟨2, wNF_h0, _, _, by decide, wNF_y0, dutiesTold_ok ?_, allTold'_iff.1 ?_, ?_⟩⟩
              · simp only [wNF_t0, ints_list, List.map_append, List.map_drop, List.map_take, map_ints, z0, z1, z3, hX, hB, hN, hK, F1, F2, F3, F6, F40, F30, hlc, hc2, hq2, hi, hc1, hq1, allTold', dutiesTold, factsA, factsC, factsP, factsR, AV.facts, RW.facts, inK, and_true, Q.holds', E.i, E.s, E.n, D.nat, E.den, BO.den, UO.den, TO.den, D.toInt_int, D.toList_list, D.ints_ofInts, i64min, i64max, u8min, u8max, u16min, u16max, u32min, u32max, u64min, u64max, i32min, i32max, Om.sub, selI, ints_app, ints_cut, ints_upd, ints_rep, ints_splice, ints_seg, len_ints]
                all_goals (first | exact True.intro | omega | (and_intros <;> first | exact True.intro | omega | (rfl; done)))
              · simp only [wNF_d0, ints_list, List.map_append, List.map_drop, List.map_take, map_ints, z0, z1, z3, hX, hB, hN, hK, F1, F2, F3, F6, F40, F30, hlc, hc2, hq2, hi, hc1, hq1, allTold', dutiesTold, factsA, factsC, factsP, factsR, AV.facts, RW.facts, inK, and_true, Q.holds', E.i, E.s, E.n, D.nat, E.den, BO.den, UO.den, TO.den, D.toInt_int, D.toList_list, D.ints_ofInts, i64min, i64max, u8min, u8max, u16min, u16max, u32min, u32max, u64min, u64max, i32min, i32max, Om.sub, selI, ints_app, ints_cut, ints_upd, ints_rep, ints_splice, ints_seg, len_ints]
                all_goals (first | exact True.intro | omega | (and_intros <;> first | exact True.intro | omega | (rfl; done)))
              · simp only [writesF, wNF, wNT, wRF, wRT, wNF_h0_0, wNF_h0_1, wNF_h0_2, wNF_h0_4, ints_list, List.map_append, List.map_drop, List.map_take, map_ints, z0, z1, z3, hX, hB, hN, hK, F1, F2, F3, F6, F40, F30, hlc, hc2, hq2, hi, hc1, hq1, allTold', dutiesTold, factsA, factsC, factsP, factsR, AV.facts, RW.facts, inK, and_true, Q.holds', E.i, E.s, E.n, D.nat, E.den, BO.den, UO.den, TO.den, D.toInt_int, D.toList_list, D.ints_ofInts, i64min, i64max, u8min, u8max, u16min, u16max, u32min, u32max, u64min, u64max, i32min, i32max, Om.sub, selI, ints_app, ints_cut, ints_upd, ints_rep, ints_splice, ints_seg, len_ints]
                all_goals (first | exact True.intro | omega | (and_intros <;> first | exact True.intro | omega | (rfl; done)))
              · simp only [wNF_h0_0, wNF_h0_1, wNF_h0_2, wNF_h0_4, allTold', dutiesTold, factsA, factsC, factsP, factsR, AV.facts, RW.facts, inK, and_true, Q.holds', E.i, E.s, E.n, D.nat, E.den, BO.den, UO.den, TO.den, D.toInt_int, D.toList_list, D.ints_ofInts, i64min, i64max, u8min, u8max, u16min, u16max, u32min, u32max, u64min, u64max, i32min, i32max, Om.sub, selI, ints_app, ints_cut, ints_upd, ints_rep, ints_splice, ints_seg, len_ints]
                omega
            · have hq1 : (if 0 ≤ N ∧ N ≤ 2147483647 then szI N else 0) = 0 := if_neg (by omega)
              refine ⟨tellA wNF_t2, tellA_ok (allTold'_iff.1 ?_), .inr ⟨1, wNF_h2, _, _, by decide, wNF_y2, dutiesTold_ok ?_, allTold'_iff.1 ?_, ?_⟩⟩
              · simp only [wNF_t2, ints_list, List.map_append, List.map_drop, List.map_take, map_ints, z0, z1, z3, hX, hB, hN, hK, F1, F2, F3, F6, F40, F30, hlc, hc2, hq2, hi, hq1, allTold', dutiesTold, factsA, factsC, factsP, factsR, AV.facts, RW.facts, inK, and_true, Q.holds', E.i, E.s, E.n, D.nat, E.den, BO.den, UO.den, TO.den, D.toInt_int, D.toList_list, D.ints_ofInts, i64min, i64max, u8min, u8max, u16min, u16max, u32min, u32max, u64min, u64max, i32min, i32max, Om.sub, selI, ints_app, ints_cut, ints_upd, ints_rep, ints_splice, ints_seg, len_ints]
                all_goals (first | exact True.intro | omega | (and_intros <;> first | exact True.intro | omega | (rfl; done)))
              · simp only [wNF_d2, ints_list, List.map_append, List.map_drop, List.map_take, map_ints, z0, z1, z3, hX, hB, hN, hK, F1, F2, F3, F6, F40, F30, hlc, hc2, hq2, hi, hq1, allTold', dutiesTold, factsA, factsC, factsP, factsR, AV.facts, RW.facts, inK, and_true, Q.holds', E.i, E.s, E.n, D.nat, E.den, BO.den, UO.den, TO.den, D.toInt_int, D.toList_list, D.ints_ofInts, i64min, i64max, u8min, u8max, u16min, u16max, u32min, u32max, u64min, u64max, i32min, i32max, Om.sub, selI, ints_app, ints_cut, ints_upd, ints_rep, ints_splice, ints_seg, len_ints]
                all_goals (first | exact True.intro | omega | (and_intros <;> first | exact True.intro | omega | (rfl; done)))
              · simp only [writesF, wNF, wNT, wRF, wRT, wNF_h2_0, wNF_h2_1, ints_list, List.map_append, List.map_drop, List.map_take, map_ints, z0, z1, z3, hX, hB, hN, hK, F1, F2, F3, F6, F40, F30, hlc, hc2, hq2, hi, hq1, allTold', dutiesTold, factsA, factsC, factsP, factsR, AV.facts, RW.facts, inK, and_true, Q.holds', E.i, E.s, E.n, D.nat, E.den, BO.den, UO.den, TO.den, D.toInt_int, D.toList_list, D.ints_ofInts, i64min, i64max, u8min, u8max, u16min, u16max, u32min, u32max, u64min, u64max, i32min, i32max, Om.sub, selI, ints_app, ints_cut, ints_upd, ints_rep, ints_splice, ints_seg, len_ints]
                all_goals (first | exact True.intro | omega | (and_intros <;> first | exact True.intro | omega | (rfl; done)))
              · simp only [wNF_h2_0, wNF_h2_1, allTold', dutiesTold, factsA, factsC, factsP, factsR, AV.facts, RW.facts, inK, and_true, Q.holds', E.i, E.s, E.n, D.nat, E.den, BO.den, UO.den, TO.den, D.toInt_int, D.toList_list, D.ints_ofInts, i64min, i64max, u8min, u8max, u16min, u16max, u32min, u32max, u64min, u64max, i32min, i32max, Om.sub, selI, ints_app, ints_cut, ints_upd, ints_rep, ints_splice, ints_seg, len_ints]
                omega
          · have hq1 : (if 0 ≤ N ∧ N ≤ 2147483647 then szI N else 0) = 0 := if_neg (by omega)
            refine ⟨tellA wNF_t1, tellA_ok (allTold'_iff.1 ?_), .inr ⟨1, wNF_h1, _, _, by decide, wNF_y1, dutiesTold_ok ?_, allTold'_iff.1 ?_, ?_⟩⟩
            · simp only [wNF_t1, ints_list, List.map_append, List.map_drop, List.map_take, map_ints, z0, z1, z3, hX, hB, hN, hK, F1, F2, F3, F6, F40, F30, hlc, hc2, hq2, hi, hq1, allTold', dutiesTold, factsA, factsC, factsP, factsR, AV.facts, RW.facts, inK, and_true, Q.holds', E.i, E.s, E.n, D.nat, E.den, BO.den, UO.den, TO.den, D.toInt_int, D.toList_list, D.ints_ofInts, i64min, i64max, u8min, u8max, u16min, u16max, u32min, u32max, u64min, u64max, i32min, i32max, Om.sub, selI, ints_app, ints_cut, ints_upd, ints_rep, ints_splice, ints_seg, len_ints]
              all_goals (first | exact True.intro | omega | (and_intros <;> first | exact True.intro | omega | (rfl; done)))
            · simp only [wNF_d1, ints_list, List.map_append, List.map_drop, List.map_take, map_ints, z0, z1, z3, hX, hB, hN, hK, F1, F2, F3, F6, F40, F30, hlc, hc2, hq2, hi, hq1, allTold', dutiesTold, factsA, factsC, factsP, factsR, AV.facts, RW.facts, inK, and_true, Q.holds', E.i, E.s, E.n, D.nat, E.den, BO.den, UO.den, TO.den, D.toInt_int, D.toList_list, D.ints_ofInts, i64min, i64max, u8min, u8max, u16min, u16max, u32min, u32max, u64min, u64max, i32min, i32max, Om.sub, selI, ints_app, ints_cut, ints_upd, ints_rep, ints_splice, ints_seg, len_ints]
              all_goals (first | exact True.intro | omega | (and_intros <;> first | exact True.intro | omega | (rfl; done)))
            · simp only [writesF, wNF, wNT, wRF, wRT, wNF_h1_0, wNF_h1_1, ints_list, List.map_append, List.map_drop, List.map_take, map_ints, z0, z1, z3, hX, hB, hN, hK, F1, F2, F3, F6, F40, F30, hlc, hc2, hq2, hi, hq1, allTold', dutiesTold, factsA, factsC, factsP, factsR, AV.facts, RW.facts, inK, and_true, Q.holds', E.i, E.s, E.n, D.nat, E.den, BO.den, UO.den, TO.den, D.toInt_int, D.toList_list, D.ints_ofInts, i64min, i64max, u8min, u8max, u16min, u16max, u32min, u32max, u64min, u64max, i32min, i32max, Om.sub, selI, ints_app, ints_cut, ints_upd, ints_rep, ints_splice, ints_seg, len_ints]
              all_goals (first | exact True.intro | omega | (and_intros <;> first | exact True.intro | omega | (rfl; done)))
            · simp only [wNF_h1_0, wNF_h1_1, allTold', dutiesTold, factsA, factsC, factsP, factsR, AV.facts, RW.facts, inK, and_true, Q.holds', E.i, E.s, E.n, D.nat, E.den, BO.den, UO.den, TO.den, D.toInt_int, D.toList_list, D.ints_ofInts, i64min, i64max, u8min, u8max, u16min, u16max, u32min, u32max, u64min, u64max, i32min, i32max, Om.sub, selI, ints_app, ints_cut, ints_upd, ints_rep, ints_splice, ints_seg, len_ints]
              omega
        · by_cases k1 : K = 1
          · refine ⟨tellA wNF_t3, tellA_ok (allTold'_iff.1 ?_), .inr ⟨2, wNF_h3, _, _, by decide, wNF_y3, dutiesTold_ok ?_, allTold'_iff.1 ?_, ?_⟩⟩
            · simp only [wNF_t3, ints_list, List.map_append, List.map_drop, List.map_take, map_ints, z0, z1, z3, hX, hB, hN, hK, F1, F2, F3, F6, F40, F30, hlc, hc2, hq2, hi, allTold', dutiesTold, factsA, factsC, factsP, factsR, AV.facts, RW.facts, inK, and_true, Q.holds', E.i, E.s, E.n, D.nat, E.den, BO.den, UO.den, TO.den, D.toInt_int, D.toList_list, D.ints_ofInts, i64min, i64max, u8min, u8max, u16min, u16max, u32min, u32max, u64min, u64max, i32min, i32max, Om.sub, selI, ints_app, ints_cut, ints_upd, ints_rep, ints_splice, ints_seg, len_ints]
              all_goals (first | exact True.intro | omega | (and_intros <;> first | exact True.intro | omega | (rfl; done)))
            · simp only [wNF_d3, ints_list, List.map_append, List.map_drop, List.map_take, map_ints, z0, z1, z3, hX, hB, hN, hK, F1, F2, F3, F6, F40, F30, hlc, hc2, hq2, hi, allTold', dutiesTold, factsA, factsC, factsP, factsR, AV.facts, RW.facts, inK, and_true, Q.holds', E.i, E.s, E.n, D.nat, E.den, BO.den, UO.den, TO.den, D.toInt_int, D.toList_list, D.ints_ofInts, i64min, i64max, u8min, u8max, u16min, u16max, u32min, u32max, u64min, u64max, i32min, i32max, Om.sub, selI, ints_app, ints_cut, ints_upd, ints_rep, ints_splice, ints_seg, len_ints]
              all_goals (first | exact True.intro | omega | (and_intros <;> first | exact True.intro | omega | (rfl; done)))
            · simp only [writesF, wNF, wNT, wRF, wRT, wNF_h3_0, wNF_h3_1, wNF_h3_2, wNF_h3_4, ints_list, List.map_append, List.map_drop, List.map_take, map_ints, z0, z1, z3, hX, hB, hN, hK, F1, F2, F3, F6, F40, F30, hlc, hc2, hq2, hi, allTold', dutiesTold, factsA, factsC, factsP, factsR, AV.facts, RW.facts, inK, and_true, Q.holds', E.i, E.s, E.n, D.nat, E.den, BO.den, UO.den, TO.den, D.toInt_int, D.toList_list, D.ints_ofInts, i64min, i64max, u8min, u8max, u16min, u16max, u32min, u32max, u64min, u64max, i32min, i32max, Om.sub, selI, ints_app, ints_cut, ints_upd, ints_rep, ints_splice, ints_seg, len_ints]
              all_goals (first | exact True.intro | omega | (and_intros <;> first | exact True.intro | omega | (rfl; done)))
            · simp only [wNF_h3_0, wNF_h3_1, wNF_h3_2, wNF_h3_4, allTold', dutiesTold, factsA, factsC, factsP, factsR, AV.facts, RW.facts, inK, and_true, Q.holds', E.i, E.s, E.n, D.nat, E.den, BO.den, UO.den, TO.den, D.toInt_int, D.toList_list, D.ints_ofInts, i64min, i64max, u8min, u8max, u16min, u16max, u32min, u32max, u64min, u64max, i32min, i32max, Om.sub, selI, ints_app, ints_cut, ints_upd, ints_rep, ints_splice, ints_seg, len_ints]
              omega
          · by_cases k2 : K = 2
            · refine ⟨tellA wNF_t4, tellA_ok (allTold'_iff.1 ?_), .inr ⟨2, wNF_h4, _, _, by decide, wNF_y4, dutiesTold_ok ?_, allTold'_iff.1 ?_, ?_⟩⟩
              · simp only [wNF_t4, ints_list, List.map_append, List.map_drop, List.map_take, map_ints, z0, z1, z3, hX, hB, hN, hK, F1, F2, F3, F6, F40, F30, hlc, hc2, hq2, hi, allTold', dutiesTold, factsA, factsC, factsP, factsR, AV.facts, RW.facts, inK, and_true, Q.holds', E.i, E.s, E.n, D.nat, E.den, BO.den, UO.den, TO.den, D.toInt_int, D.toList_list, D.ints_ofInts, i64min, i64max, u8min, u8max, u16min, u16max, u32min, u32max, u64min, u64max, i32min, i32max, Om.sub, selI, ints_app, ints_cut, ints_upd, ints_rep, ints_splice, ints_seg, len_ints]
                all_goals (first | exact True.intro | omega | (and_intros <;> first | exact True.intro | omega | (rfl; done)))
              · simp only [wNF_d4, ints_list, List.map_append, List.map_drop, List.map_take, map_ints, z0, z1, z3, hX, hB, hN, hK, F1, F2, F3, F6, F40, F30, hlc, hc2, hq2, hi, allTold', dutiesTold, factsA, factsC, factsP, factsR, AV.facts, RW.facts, inK, and_true, Q.holds', E.i, E.s, E.n, D.nat, E.den, BO.den, UO.den, TO.den, D.toInt_int, D.toList_list, D.ints_ofInts, i64min, i64max, u8min, u8max, u16min, u16max, u32min, u32max, u64min, u64max, i32min, i32max, Om.sub, selI, ints_app, ints_cut, ints_upd, ints_rep, ints_splice, ints_seg, len_ints]
                all_goals (first | exact True.intro | omega | (and_intros <;> first | exact True.intro | omega | (rfl; done)))
              · simp only [writesF, wNF, wNT, wRF, wRT, wNF_h4_0, wNF_h4_1, wNF_h4_2, wNF_h4_4, ints_list, List.map_append, List.map_drop, List.map_take, map_ints, z0, z1, z3, hX, hB, hN, hK, F1, F2, F3, F6, F40, F30, hlc, hc2, hq2, hi, allTold', dutiesTold, factsA, factsC, factsP, factsR, AV.facts, RW.facts, inK, and_true, Q.holds', E.i, E.s, E.n, D.nat, E.den, BO.den, UO.den, TO.den, D.toInt_int, D.toList_list, D.ints_ofInts, i64min, i64max, u8min, u8max, u16min, u16max, u32min, u32max, u64min, u64max, i32min, i32max, Om.sub, selI, ints_app, ints_cut, ints_upd, ints_rep, ints_splice, ints_seg, len_ints]
                all_goals (first | exact True.intro | omega | (and_intros <;> first | exact True.intro | omega | (rfl; done)))
              · simp only [wNF_h4_0, wNF_h4_1, wNF_h4_2, wNF_h4_4, allTold', dutiesTold, factsA, factsC, factsP, factsR, AV.facts, RW.facts, inK, and_true, Q.holds', E.i, E.s, E.n, D.nat, E.den, BO.den, UO.den, TO.den, D.toInt_int, D.toList_list, D.ints_ofInts, i64min, i64max, u8min, u8max, u16min, u16max, u32min, u32max, u64min, u64max, i32min, i32max, Om.sub, selI, ints_app, ints_cut, ints_upd, ints_rep, ints_splice, ints_seg, len_ints]
                omega
            · by_cases k3 : K = 3
              · refine ⟨tellA wNF_t5, tellA_ok (allTold'_iff.1 ?_), .inr ⟨2, wNF_h5, _, _, by decide, wNF_y5, dutiesTold_ok ?_, allTold'_iff.1 ?_, ?_⟩⟩
                · simp only [wNF_t5, ints_list, List.map_append, List.map_drop, List.map_take, map_ints, z0, z1, z3, hX, hB, hN, hK, F1, F2, F3, F6, F40, F30, hlc, hc2, hq2, hi, allTold', dutiesTold, factsA, factsC, factsP, factsR, AV.facts, RW.facts, inK, and_true, Q.holds', E.i, E.s, E.n, D.nat, E.den, BO.den, UO.den, TO.den, D.toInt_int, D.toList_list, D.ints_ofInts, i64min, i64max, u8min, u8max, u16min, u16max, u32min, u32max, u64min, u64max, i32min, i32max, Om.sub, selI, ints_app, ints_cut, ints_upd, ints_rep, ints_splice, ints_seg, len_ints]
                  all_goals (first | exact True.intro | omega | (and_intros <;> first | exact True.intro | omega | (rfl; done)))
                · simp only [wNF_d5, ints_list, List.map_append, List.map_drop, List.map_take, map_ints, z0, z1, z3, hX, hB, hN, hK, F1, F2, F3, F6, F40, F30, hlc, hc2, hq2, hi, allTold', dutiesTold, factsA, factsC, factsP, factsR, AV.facts, RW.facts, inK, and_true, Q.holds', E.i, E.s, E.n, D.nat, E.den, BO.den, UO.den, TO.den, D.toInt_int, D.toList_list, D.ints_ofInts, i64min, i64max, u8min, u8max, u16min, u16max, u32min, u32max, u64min, u64max, i32min, i32max, Om.sub, selI, ints_app, ints_cut, ints_upd, ints_rep, ints_splice, ints_seg, len_ints]
                  all_goals (first | exact True.intro | omega | (and_intros <;> first | exact True.intro | omega | (rfl; done)))
                · simp only [writesF, wNF, wNT, wRF, wRT, wNF_h5_0, wNF_h5_1, wNF_h5_2, wNF_h5_4, ints_list, List.map_append, List.map_drop, List.map_take, map_ints, z0, z1, z3, hX, hB, hN, hK, F1, F2, F3, F6, F40, F30, hlc, hc2, hq2, hi, allTold', dutiesTold, factsA, factsC, factsP, factsR, AV.facts, RW.facts, inK, and_true, Q.holds', E.i, E.s, E.n, D.nat, E.den, BO.den, UO.den, TO.den, D.toInt_int, D.toList_list, D.ints_ofInts, i64min, i64max, u8min, u8max, u16min, u16max, u32min, u32max, u64min, u64max, i32min, i32max, Om.sub, selI, ints_app, ints_cut, ints_upd, ints_rep, ints_splice, ints_seg, len_ints]
                  all_goals (first | exact True.intro | omega | (and_intros <;> first | exact True.intro | omega | (rfl; done)))
                · simp only [wNF_h5_0, wNF_h5_1, wNF_h5_2, wNF_h5_4, allTold', dutiesTold, factsA, factsC, factsP, factsR, AV.facts, RW.facts, inK, and_true, Q.holds', E.i, E.s, E.n, D.nat, E.den, BO.den, UO.den, TO.den, D.toInt_int, D.toList_list, D.ints_ofInts, i64min, i64max, u8min, u8max, u16min, u16max, u32min, u32max, u64min, u64max, i32min, i32max, Om.sub, selI, ints_app, ints_cut, ints_upd, ints_rep, ints_splice, ints_seg, len_ints]
                  omega
              · refine ⟨tellA wNF_t6, tellA_ok (allTold'_iff.1 ?_), .inr ⟨0, wNF_h6, _, _, by decide, wNF_y6, dutiesTold_ok ?_, allTold'_iff.1 ?_, ?_⟩⟩
                · simp only [wNF_t6, ints_list, List.map_append, List.map_drop, List.map_take, map_ints, z0, z1, z3, hX, hB, hN, hK, F1, F2, F3, F6, F40, F30, hlc, hc2, hq2, hi, allTold', dutiesTold, factsA, factsC, factsP, factsR, AV.facts, RW.facts, inK, and_true, Q.holds', E.i, E.s, E.n, D.nat, E.den, BO.den, UO.den, TO.den, D.toInt_int, D.toList_list, D.ints_ofInts, i64min, i64max, u8min, u8max, u16min, u16max, u32min, u32max, u64min, u64max, i32min, i32max, Om.sub, selI, ints_app, ints_cut, ints_upd, ints_rep, ints_splice, ints_seg, len_ints]
                  all_goals (first | exact True.intro | omega | (and_intros <;> first | exact True.intro | omega | (rfl; done)))
                · simp only [wNF_d6, ints_list, List.map_append, List.map_drop, List.map_take, map_ints, z0, z1, z3, hX, hB, hN, hK, F1, F2, F3, F6, F40, F30, hlc, hc2, hq2, hi, allTold', dutiesTold, factsA, factsC, factsP, factsR, AV.facts, RW.facts, inK, and_true, Q.holds', E.i, E.s, E.n, D.nat, E.den, BO.den, UO.den, TO.den, D.toInt_int, D.toList_list, D.ints_ofInts, i64min, i64max, u8min, u8max, u16min, u16max, u32min, u32max, u64min, u64max, i32min, i32max, Om.sub, selI, ints_app, ints_cut, ints_upd, ints_rep, ints_splice, ints_seg, len_ints]
                  all_goals (first | exact True.intro | omega | (and_intros <;> first | exact True.intro | omega | (rfl; done)))
                · simp only [writesF, wNF, wNT, wRF, wRT, wNF_h6_0, wNF_h6_1, ints_list, List.map_append, List.map_drop, List.map_take, map_ints, z0, z1, z3, hX, hB, hN, hK, F1, F2, F3, F6, F40, F30, hlc, hc2, hq2, hi, allTold', dutiesTold, factsA, factsC, factsP, factsR, AV.facts, RW.facts, inK, and_true, Q.holds', E.i, E.s, E.n, D.nat, E.den, BO.den, UO.den, TO.den, D.toInt_int, D.toList_list, D.ints_ofInts, i64min, i64max, u8min, u8max, u16min, u16max, u32min, u32max, u64min, u64max, i32min, i32max, Om.sub, selI, ints_app, ints_cut, ints_upd, ints_rep, ints_splice, ints_seg, len_ints]
                  all_goals (first | exact True.intro | omega | (and_intros <;> first | exact True.intro | omega | (rfl; done)))
                · simp only [wNF_h6_0, wNF_h6_1, allTold', dutiesTold, factsA, factsC, factsP, factsR, AV.facts, RW.facts, inK, and_true, Q.holds', E.i, E.s, E.n, D.nat, E.den, BO.den, UO.den, TO.den, D.toInt_int, D.toList_list, D.ints_ofInts, i64min, i64max, u8min, u8max, u16min, u16max, u32min, u32max, u64min, u64max, i32min, i32max, Om.sub, selI, ints_app, ints_cut, ints_upd, ints_rep, ints_splice, ints_seg, len_ints]
                  omega
  | 1, _ =>
      have hp := allTold'_iff.2 hp
      simp only [writesF, wNT, allTold', dutiesTold, factsA, factsC, factsP, factsR, AV.facts, RW.facts, inK, and_true, Q.holds', E.i, E.s, E.n, D.nat, E.den, BO.den, UO.den, TO.den, D.toInt_int, D.toList_list, D.ints_ofInts, i64min, i64max, u8min, u8max, u16min, u16max, u32min, u32max, u64min, u64max, i32min, i32max, Om.sub, selI, ints_app, ints_cut, ints_upd, ints_rep, ints_splice, ints_seg, len_ints] at hp hR hA
      simp only [F30, allTold', dutiesTold, factsA, factsC, factsP, factsR, AV.facts, RW.facts, inK, and_true, Q.holds', E.i, E.s, E.n, D.nat, E.den, BO.den, UO.den, TO.den, D.toInt_int, D.toList_list, D.ints_ofInts, i64min, i64max, u8min, u8max, u16min, u16max, u32min, u32max, u64min, u64max, i32min, i32max, Om.sub, selI, ints_app, ints_cut, ints_upd, ints_rep, ints_splice, ints_seg, len_ints] at hp
      obtain ⟨p1, p2, p3, p4⟩ := hp
      have g0 : (d 0).ints.length = (d 0).toList.length := (len_ints _).symm
      by_cases h : ((d 0).toList.length : Int) ≤ (d 1).toInt
      · refine ⟨tellA wNT_t7, tellA_ok (allTold'_iff.1 ?_), .inl ⟨_, _, _, wNT_y7, dutiesTold_ok ?_⟩⟩
        · simp only [wNT_t7, allTold', dutiesTold, factsA, factsC, factsP, factsR, AV.facts, RW.facts, inK, and_true, Q.holds', E.i, E.s, E.n, D.nat, E.den, BO.den, UO.den, TO.den, D.toInt_int, D.toList_list, D.ints_ofInts, i64min, i64max, u8min, u8max, u16min, u16max, u32min, u32max, u64min, u64max, i32min, i32max, Om.sub, selI, ints_app, ints_cut, ints_upd, ints_rep, ints_splice, ints_seg, len_ints]
          omega
        · simp only [wNT_d7, allTold', dutiesTold, factsA, factsC, factsP, factsR, AV.facts, RW.facts, inK, and_true, Q.holds', E.i, E.s, E.n, D.nat, E.den, BO.den, UO.den, TO.den, D.toInt_int, D.toList_list, D.ints_ofInts, i64min, i64max, u8min, u8max, u16min, u16max, u32min, u32max, u64min, u64max, i32min, i32max, Om.sub, selI, ints_app, ints_cut, ints_upd, ints_rep, ints_splice, ints_seg, len_ints]
      · have e := lens_step (l := (d 0).toList) (i := (d 1).toInt.toNat) (by omega) (by omega)
        have hnn2 := lens_nn (((d 0).toList.take 41).drop ((d 1).toInt.toNat + 1))
        have hi : ((d 1).toInt + 1).toNat = (d 1).toInt.toNat + 1 := by omega
        have z0 : Int.toNat 0 = 0 := rfl
        have z1 : Int.toNat 1 = 1 := rfl
        have z3 : Int.toNat 3 = 3 := rfl
        generalize hX : (d 0).toList[(d 1).toInt.toNat]?.getD (D.int 0) = X at *
        generalize hB : X.toList[3]?.getD (D.int 0) = B at *
        generalize hN : X.ints[1]?.getD 0 = N at *
        generalize hK : X.ints[0]?.getD 0 = K at *
        have g1 : B.ints.length = B.toList.length := (len_ints _).symm
        have hlc := lent_cut B.ints
        have hs1 := sz_in N
        have hs2 := sz_in (B.ints.length : Int)
        have hc2 := five_cut (n := (B.ints.length : Int)) (by omega) (by omega)
        have hq2 : (if 0 ≤ (B.ints.length : Int) ∧ (B.ints.length : Int) ≤ 2147483647 then szI (B.ints.length : Int) else 0) = szI (B.ints.length : Int) := if_pos ⟨by omega, by omega⟩
        by_cases k0 : K = 0
        · by_cases a : 0 ≤ N
          · by_cases b : N ≤ 2147483647
            · have hc1 := five_cut a b
              have hq1 : (if 0 ≤ N ∧ N ≤ 2147483647 then szI N else 0) = szI N := if_pos ⟨a, b⟩
              refine ⟨tellA wNT_t0, tellA_ok (allTold'_iff.1 ?_), .inr ⟨3, wNT_h0, _, _, by decide, wNT_y0, dutiesTold_ok ?_, allTold'_iff.1 ?_, ?_⟩⟩
              · simp only [wNT_t0, ints_list, List.map_append, List.map_drop, List.map_take, map_ints, z0, z1, z3, hX, hB, hN, hK, F1, F2, F3, F6, F40, F30, hlc, hc2, hq2, hi, hc1, hq1, allTold', dutiesTold, factsA, factsC, factsP, factsR, AV.facts, RW.facts, inK, and_true, Q.holds', E.i, E.s, E.n, D.nat, E.den, BO.den, UO.den, TO.den, D.toInt_int, D.toList_list, D.ints_ofInts, i64min, i64max, u8min, u8max, u16min, u16max, u32min, u32max, u64min, u64max, i32min, i32max, Om.sub, selI, ints_app, ints_cut, ints_upd, ints_rep, ints_splice, ints_seg, len_ints]
                all_goals (first | exact True.intro | omega | (and_intros <;> first | exact True.intro | omega | (rfl; done)))
              · simp only [wNT_d0, ints_list, List.map_append, List.map_drop, List.map_take, map_ints, z0, z1, z3, hX, hB, hN, hK, F1, F2, F3, F6, F40, F30, hlc, hc2, hq2, hi, hc1, hq1, allTold', dutiesTold, factsA, factsC, factsP, factsR, AV.facts, RW.facts, inK, and_true, Q.holds', E.i, E.s, E.n, D.nat, E.den, BO.den, UO.den, TO.den, D.toInt_int, D.toList_list, D.ints_ofInts, i64min, i64max, u8min, u8max, u16min, u16max, u32min, u32max, u64min, u64max, i32min, i32max, Om.sub, selI, ints_app, ints_cut, ints_upd, ints_rep, ints_splice, ints_seg, len_ints]
                all_goals (first | exact True.intro | omega | (and_intros <;> first | exact True.intro | omega | (rfl; done)))
              · simp only [writesF, wNF, wNT, wRF, wRT, wNT_h0_0, wNT_h0_1, wNT_h0_2, wNT_h0_4, ints_list, List.map_append, List.map_drop, List.map_take, map_ints, z0, z1, z3, hX, hB, hN, hK, F1, F2, F3, F6, F40, F30, hlc, hc2, hq2, hi, hc1, hq1, allTold', dutiesTold, factsA, factsC, factsP, factsR, AV.facts, RW.facts, inK, and_true, Q.holds', E.i, E.s, E.n, D.nat, E.den, BO.den, UO.den, TO.den, D.toInt_int, D.toList_list, D.ints_ofInts, i64min, i64max, u8min, u8max, u16min, u16max, u32min, u32max, u64min, u64max, i32min, i32max, Om.sub, selI, ints_app, ints_cut, ints_upd, ints_rep, ints_splice, ints_seg, len_ints]
                all_goals (first | exact True.intro | omega | (and_intros <;> first | exact True.intro | omega | (rfl; done)))
              · simp only [wNT_h0_0, wNT_h0_1, wNT_h0_2, wNT_h0_4, allTold', dutiesTold, factsA, factsC, factsP, factsR, AV.facts, RW.facts, inK, and_true, Q.holds', E.i, E.s, E.n, D.nat, E.den, BO.den, UO.den, TO.den, D.toInt_int, D.toList_list, D.ints_ofInts, i64min, i64max, u8min, u8max, u16min, u16max, u32min, u32max, u64min, u64max, i32min, i32max, Om.sub, selI, ints_app, ints_cut, ints_upd, ints_rep, ints_splice, ints_seg, len_ints]
                omega
            · have hq1 : (if 0 ≤ N ∧ N ≤ 2147483647 then szI N else 0) = 0 := if_neg (by omega)
              refine ⟨tellA wNT_t2, tellA_ok (allTold'_iff.1 ?_), .inr ⟨1, wNT_h2, _, _, by decide, wNT_y2, dutiesTold_ok ?_, allTold'_iff.1 ?_, ?_⟩⟩
              · simp only [wNT_t2, ints_list, List.map_append, List.map_drop, List.map_take, map_ints, z0, z1, z3, hX, hB, hN, hK, F1, F2, F3, F6, F40, F30, hlc, hc2, hq2, hi, hq1, allTold', dutiesTold, factsA, factsC, factsP, factsR, AV.facts, RW.facts, inK, and_true, Q.holds', E.i, E.s, E.n, D.nat, E.den, BO.den, UO.den, TO.den, D.toInt_int, D.toList_list, D.ints_ofInts, i64min, i64max, u8min, u8max, u16min, u16max, u32min, u32max, u64min, u64max, i32min, i32max, Om.sub, selI, ints_app, ints_cut, ints_upd, ints_rep, ints_splice, ints_seg, len_ints]
                all_goals (first | exact True.intro | omega | (and_intros <;> first | exact True.intro | omega | (rfl; done)))
              · simp only [wNT_d2, ints_list, List.map_append, List.map_drop, List.map_take, map_ints, z0, z1, z3, hX, hB, hN, hK, F1, F2, F3, F6, F40, F30, hlc, hc2, hq2, hi, hq1, allTold', dutiesTold, factsA, factsC, factsP, factsR, AV.facts, RW.facts, inK, and_true, Q.holds', E.i, E.s, E.n, D.nat, E.den, BO.den, UO.den, TO.den, D.toInt_int, D.toList_list, D.ints_ofInts, i64min, i64max, u8min, u8max, u16min, u16max, u32min, u32max, u64min, u64max, i32min, i32max, Om.sub, selI, ints_app, ints_cut, ints_upd, ints_rep, ints_splice, ints_seg, len_ints]
                all_goals (first | exact True.intro | omega | (and_intros <;> first | exact True.intro | omega | (rfl; done)))
              · simp only [writesF, wNF, wNT, wRF, wRT, wNT_h2_0, wNT_h2_1, ints_list, List.map_append, List.map_drop, List.map_take, map_ints, z0, z1, z3, hX, hB, hN, hK, F1, F2, F3, F6, F40, F30, hlc, hc2, hq2, hi, hq1, allTold', dutiesTold, factsA, factsC, factsP, factsR, AV.facts, RW.facts, inK, and_true, Q.holds', E.i, E.s, E.n, D.nat, E.den, BO.den, UO.den, TO.den, D.toInt_int, D.toList_list, D.ints_ofInts, i64min, i64max, u8min, u8max, u16min, u16max, u32min, u32max, u64min, u64max, i32min, i32max, Om.sub, selI, ints_app, ints_cut, ints_upd, ints_rep, ints_splice, ints_seg, len_ints]
                all_goals (first | exact True.intro | omega | (and_intros <;> first | exact True.intro | omega | (rfl; done)))
              · simp only [wNT_h2_0, wNT_h2_1, allTold', dutiesTold, factsA, factsC, factsP, factsR, AV.facts, RW.facts, inK, and_true, Q.holds', E.i, E.s, E.n, D.nat, E.den, BO.den, UO.den, TO.den, D.toInt_int, D.toList_list, D.ints_ofInts, i64min, i64max, u8min, u8max, u16min, u16max, u32min, u32max, u64min, u64max, i32min, i32max, Om.sub, selI, ints_app, ints_cut, ints_upd, ints_rep, ints_splice, ints_seg, len_ints]
                omega
          · have hq1 : (if 0 ≤ N ∧ N ≤ 2147483647 then szI N else 0) = 0 := if_neg (by omega)
            refine ⟨tellA wNT_t1, tellA_ok (allTold'_iff.1 ?_), .inr ⟨1, wNT_h1, _, _, by decide, wNT_y1, dutiesTold_ok ?_, allTold'_iff.1 ?_, ?_⟩⟩
            · simp only [wNT_t1, ints_list, List.map_append, List.map_drop, List.map_take, map_ints, z0, z1, z3, hX, hB, hN, hK, F1, F2, F3, F6, F40, F30, hlc, hc2, hq2, hi, hq1, allTold', dutiesTold, factsA, factsC, factsP, factsR, AV.facts, RW.facts, inK, and_true, Q.holds', E.i, E.s, E.n, D.nat, E.den, BO.den, UO.den, TO.den, D.toInt_int, D.toList_list, D.ints_ofInts, i64min, i64max, u8min, u8max, u16min, u16max, u32min, u32max, u64min, u64max, i32min, i32max, Om.sub, selI, ints_app, ints_cut, ints_upd, ints_rep, ints_splice, ints_seg, len_ints]
              all_goals (first | exact True.intro | omega | (and_intros <;> first | exact True.intro | omega | (rfl; done)))
            · simp only [wNT_d1, ints_list, List.map_append, List.map_drop, List.map_take, map_ints, z0, z1, z3, hX, hB, hN, hK, F1, F2, F3, F6, F40, F30, hlc, hc2, hq2, hi, hq1, allTold', dutiesTold, factsA, factsC, factsP, factsR, AV.facts, RW.facts, inK, and_true, Q.holds', E.i, E.s, E.n, D.nat, E.den, BO.den, UO.den, TO.den, D.toInt_int, D.toList_list, D.ints_ofInts, i64min, i64max, u8min, u8max, u16min, u16max, u32min, u32max, u64min, u64max, i32min, i32max, Om.sub, selI, ints_app, ints_cut, ints_upd, ints_rep, ints_splice, ints_seg, len_ints]
              all_goals (first | exact True.intro | omega | (and_intros <;> first | exact True.intro | omega | (rfl; done)))
            · simp only [writesF, wNF, wNT, wRF, wRT, wNT_h1_0, wNT_h1_1, ints_list, List.map_append, List.map_drop, List.map_take, map_ints, z0, z1, z3, hX, hB, hN, hK, F1, F2, F3, F6, F40, F30, hlc, hc2, hq2, hi, hq1, allTold', dutiesTold, factsA, factsC, factsP, factsR, AV.facts, RW.facts, inK, and_true, Q.holds', E.i, E.s, E.n, D.nat, E.den, BO.den, UO.den, TO.den, D.toInt_int, D.toList_list, D.ints_ofInts, i64min, i64max, u8min, u8max, u16min, u16max, u32min, u32max, u64min, u64max, i32min, i32max, Om.sub, selI, ints_app, ints_cut, ints_upd, ints_rep, ints_splice, ints_seg, len_ints]
              all_goals (first | exact True.intro | omega | (and_intros <;> first | exact True.intro | omega | (rfl; done)))
            · simp only [wNT_h1_0, wNT_h1_1, allTold', dutiesTold, factsA, factsC, factsP, factsR, AV.facts, RW.facts, inK, and_true, Q.holds', E.i, E.s, E.n, D.nat, E.den, BO.den, UO.den, TO.den, D.toInt_int, D.toList_list, D.ints_ofInts, i64min, i64max, u8min, u8max, u16min, u16max, u32min, u32max, u64min, u64max, i32min, i32max, Om.sub, selI, ints_app, ints_cut, ints_upd, ints_rep, ints_splice, ints_seg, len_ints]
              omega
        · by_cases k1 : K = 1
          · refine ⟨tellA wNT_t3, tellA_ok (allTold'_iff.1 ?_), .inr ⟨3, wNT_h3, _, _, by decide, wNT_y3, dutiesTold_ok ?_, allTold'_iff.1 ?_, ?_⟩⟩
            · simp only [wNT_t3, ints_list, List.map_append, List.map_drop, List.map_take, map_ints, z0, z1, z3, hX, hB, hN, hK, F1, F2, F3, F6, F40, F30, hlc, hc2, hq2, hi, allTold', dutiesTold, factsA, factsC, factsP, factsR, AV.facts, RW.facts, inK, and_true, Q.holds', E.i, E.s, E.n, D.nat, E.den, BO.den, UO.den, TO.den, D.toInt_int, D.toList_list, D.ints_ofInts, i64min, i64max, u8min, u8max, u16min, u16max, u32min, u32max, u64min, u64max, i32min, i32max, Om.sub, selI, ints_app, ints_cut, ints_upd, ints_rep, ints_splice, ints_seg, len_ints]
              all_goals (first | exact True.intro | omega | (and_intros <;> first | exact True.intro | omega | (rfl; done)))
            · simp only [wNT_d3, ints_list, List.map_append, List.map_drop, List.map_take, map_ints, z0, z1, z3, hX, hB, hN, hK, F1, F2, F3, F6, F40, F30, hlc, hc2, hq2, hi, allTold', dutiesTold, factsA, factsC, factsP, factsR, AV.facts, RW.facts, inK, and_true, Q.holds', E.i, E.s, E.n, D.nat, E.den, BO.den, UO.den, TO.den, D.toInt_int, D.toList_list, D.ints_ofInts, i64min, i64max, u8min, u8max, u16min, u16max, u32min, u32max, u64min, u64max, i32min, i32max, Om.sub, selI, ints_app, ints_cut, ints_upd, ints_rep, ints_splice, ints_seg, len_ints]
              all_goals (first | exact True.intro | omega | (and_intros <;> first | exact True.intro | omega | (rfl; done)))
            · simp only [writesF, wNF, wNT, wRF, wRT, wNT_h3_0, wNT_h3_1, wNT_h3_2, wNT_h3_4, ints_list, List.map_append, List.map_drop, List.map_take, map_ints, z0, z1, z3, hX, hB, hN, hK, F1, F2, F3, F6, F40, F30, hlc, hc2, hq2, hi, allTold', dutiesTold, factsA, factsC, factsP, factsR, AV.facts, RW.facts, inK, and_true, Q.holds', E.i, E.s, E.n, D.nat, E.den, BO.den, UO.den, TO.den, D.toInt_int, D.toList_list, D.ints_ofInts, i64min, i64max, u8min, u8max, u16min, u16max, u32min, u32max, u64min, u64max, i32min, i32max, Om.sub, selI, ints_app, ints_cut, ints_upd, ints_rep, ints_splice, ints_seg, len_ints]
              all_goals (first | exact True.intro | omega | (and_intros <;> first | exact True.intro | omega | (rfl; done)))
            · simp only [wNT_h3_0, wNT_h3_1, wNT_h3_2, wNT_h3_4, allTold', dutiesTold, factsA, factsC, factsP, factsR, AV.facts, RW.facts, inK, and_true, Q.holds', E.i, E.s, E.n, D.nat, E.den, BO.den, UO.den, TO.den, D.toInt_int, D.toList_list, D.ints_ofInts, i64min, i64max, u8min, u8max, u16min, u16max, u32min, u32max, u64min, u64max, i32min, i32max, Om.sub, selI, ints_app, ints_cut, ints_upd, ints_rep, ints_splice, ints_seg, len_ints]
              omega
          · by_cases k2 : K = 2
            · refine ⟨tellA wNT_t4, tellA_ok (allTold'_iff.1 ?_), .inr ⟨3, wNT_h4, _, _, by decide, wNT_y4, dutiesTold_ok ?_, allTold'_iff.1 ?_, ?_⟩⟩
              · simp only [wNT_t4, ints_list, List.map_append, List.map_drop, List.map_take, map_ints, z0, z1, z3, hX, hB, hN, hK, F1, F2, F3, F6, F40, F30, hlc, hc2, hq2, hi, allTold', dutiesTold, factsA, factsC, factsP, factsR, AV.facts, RW.facts, inK, and_true, Q.holds', E.i, E.s, E.n, D.nat, E.den, BO.den, UO.den, TO.den, D.toInt_int, D.toList_list, D.ints_ofInts, i64min, i64max, u8min, u8max, u16min, u16max, u32min, u32max, u64min, u64max, i32min, i32max, Om.sub, selI, ints_app, ints_cut, ints_upd, ints_rep, ints_splice, ints_seg, len_ints]
                all_goals (first | exact True.intro | omega | (and_intros <;> first | exact True.intro | omega | (rfl; done)))
              · simp only [wNT_d4, ints_list, List.map_append, List.map_drop, List.map_take, map_ints, z0, z1, z3, hX, hB, hN, hK, F1, F2, F3, F6, F40, F30, hlc, hc2, hq2, hi, allTold', dutiesTold, factsA, factsC, factsP, factsR, AV.facts, RW.facts, inK, and_true, Q.holds', E.i, E.s, E.n, D.nat, E.den, BO.den, UO.den, TO.den, D.toInt_int, D.toList_list, D.ints_ofInts, i64min, i64max, u8min, u8max, u16min, u16max, u32min, u32max, u64min, u64max, i32min, i32max, Om.sub, selI, ints_app, ints_cut, ints_upd, ints_rep, ints_splice, ints_seg, len_ints]
                all_goals (first | exact True.intro | omega | (and_intros <;> first | exact True.intro | omega | (rfl; done)))
              · simp only [writesF, wNF, wNT, wRF, wRT, wNT_h4_0, wNT_h4_1, wNT_h4_2, wNT_h4_4, ints_list, List.map_append, List.map_drop, List.map_take, map_ints, z0, z1, z3, hX, hB, hN, hK, F1, F2, F3, F6, F40, F30, hlc, hc2, hq2, hi, allTold', dutiesTold, factsA, factsC, factsP, factsR, AV.facts, RW.facts, inK, and_true, Q.holds', E.i, E.s, E.n, D.nat, E.den, BO.den, UO.den, TO.den, D.toInt_int, D.toList_list, D.ints_ofInts, i64min, i64max, u8min, u8max, u16min, u16max, u32min, u32max, u64min, u64max, i32min, i32max, Om.sub, selI, ints_app, ints_cut, ints_upd, ints_rep, ints_splice, ints_seg, len_ints]
                all_goals (first | exact True.intro | omega | (and_intros <;> first | exact True.intro | omega | (rfl; done)))
              · simp only [wNT_h4_0, wNT_h4_1, wNT_h4_2, wNT_h4_4, allTold', dutiesTold, factsA, factsC, factsP, factsR, AV.facts, RW.facts, inK, and_true, Q.holds', E.i, E.s, E.n, D.nat, E.den, BO.den, UO.den, TO.den, D.toInt_int, D.toList_list, D.ints_ofInts, i64min, i64max, u8min, u8max, u16min, u16max, u32min, u32max, u64min, u64max, i32min, i32max, Om.sub, selI, ints_app, ints_cut, ints_upd, ints_rep, ints_splice, ints_seg, len_ints]
                omega
            · by_cases k3 : K = 3
              · refine ⟨tellA wNT_t5, tellA_ok (allTold'_iff.1 ?_), .inr ⟨3, wNT_h5, _, _, by decide, wNT_y5, dutiesTold_ok ?_, allTold'_iff.1 ?_, ?_⟩⟩
                · simp only [wNT_t5, ints_list, List.map_append, List.map_drop, List.map_take, map_ints, z0, z1, z3, hX, hB, hN, hK, F1, F2, F3, F6, F40, F30, hlc, hc2, hq2, hi, allTold', dutiesTold, factsA, factsC, factsP, factsR, AV.facts, RW.facts, inK, and_true, Q.holds', E.i, E.s, E.n, D.nat, E.den, BO.den, UO.den, TO.den, D.toInt_int, D.toList_list, D.ints_ofInts, i64min, i64max, u8min, u8max, u16min, u16max, u32min, u32max, u64min, u64max, i32min, i32max, Om.sub, selI, ints_app, ints_cut, ints_upd, ints_rep, ints_splice, ints_seg, len_ints]
                  all_goals (first | exact True.intro | omega | (and_intros <;> first | exact True.intro | omega | (rfl; done)))
                · simp only [wNT_d5, ints_list, List.map_append, List.map_drop, List.map_take, map_ints, z0, z1, z3, hX, hB, hN, hK, F1, F2, F3, F6, F40, F30, hlc, hc2, hq2, hi, allTold', dutiesTold, factsA, factsC, factsP, factsR, AV.facts, RW.facts, inK, and_true, Q.holds', E.i, E.s, E.n, D.nat, E.den, BO.den, UO.den, TO.den, D.toInt_int, D.toList_list, D.ints_ofInts, i64min, i64max, u8min, u8max, u16min, u16max, u32min, u32max, u64min, u64max, i32min, i32max, Om.sub, selI, ints_app, ints_cut, ints_upd, ints_rep, ints_splice, ints_seg, len_ints]
                  all_goals (first | exact True.intro | omega | (and_intros <;> first | exact True.intro | omega | (rfl; done)))
                · simp only [writesF, wNF, wNT, wRF, wRT, wNT_h5_0, wNT_h5_1, wNT_h5_2, wNT_h5_4, ints_list, List.map_append, List.map_drop, List.map_take, map_ints, z0, z1, z3, hX, hB, hN, hK, F1, F2, F3, F6, F40, F30, hlc, hc2, hq2, hi, allTold', dutiesTold, factsA, factsC, factsP, factsR, AV.facts, RW.facts, inK, and_true, Q.holds', E.i, E.s, E.n, D.nat, E.den, BO.den, UO.den, TO.den, D.toInt_int, D.toList_list, D.ints_ofInts, i64min, i64max, u8min, u8max, u16min, u16max, u32min, u32max, u64min, u64max, i32min, i32max, Om.sub, selI, ints_app, ints_cut, ints_upd, ints_rep, ints_splice, ints_seg, len_ints]
                  all_goals (first | exact True.intro | omega | (and_intros <;> first | exact True.intro | omega | (rfl; done)))
                · simp only [wNT_h5_0, wNT_h5_1, wNT_h5_2, wNT_h5_4, allTold', dutiesTold, factsA, factsC, factsP, factsR, AV.facts, RW.facts, inK, and_true, Q.holds', E.i, E.s, E.n, D.nat, E.den, BO.den, UO.den, TO.den, D.toInt_int, D.toList_list, D.ints_ofInts, i64min, i64max, u8min, u8max, u16min, u16max, u32min, u32max, u64min, u64max, i32min, i32max, Om.sub, selI, ints_app, ints_cut, ints_upd, ints_rep, ints_splice, ints_seg, len_ints]
                  omega
              · refine ⟨tellA wNT_t6, tellA_ok (allTold'_iff.1 ?_), .inr ⟨1, wNT_h6, _, _, by decide, wNT_y6, dutiesTold_ok ?_, allTold'_iff.1 ?_, ?_⟩⟩
                · simp only [wNT_t6, ints_list, List.map_append, List.map_drop, List.map_take, map_ints, z0, z1, z3, hX, hB, hN, hK, F1, F2, F3, F6, F40, F30, hlc, hc2, hq2, hi, allTold', dutiesTold, factsA, factsC, factsP, factsR, AV.facts, RW.facts, inK, and_true, Q.holds', E.i, E.s, E.n, D.nat, E.den, BO.den, UO.den, TO.den, D.toInt_int, D.toList_list, D.ints_ofInts, i64min, i64max, u8min, u8max, u16min, u16max, u32min, u32max, u64min, u64max, i32min, i32max, Om.sub, selI, ints_app, ints_cut, ints_upd, ints_rep, ints_splice, ints_seg, len_ints]
                  all_goals (first | exact True.intro | omega | (and_intros <;> first | exact True.intro | omega | (rfl; done)))
                · simp only [wNT_d6, ints_list, List.map_append, List.map_drop, List.map_take, map_ints, z0, z1, z3, hX, hB, hN, hK, F1, F2, F3, F6, F40, F30, hlc, hc2, hq2, hi, allTold', dutiesTold, factsA, factsC, factsP, factsR, AV.facts, RW.facts, inK, and_true, Q.holds', E.i, E.s, E.n, D.nat, E.den, BO.den, UO.den, TO.den, D.toInt_int, D.toList_list, D.ints_ofInts, i64min, i64max, u8min, u8max, u16min, u16max, u32min, u32max, u64min, u64max, i32min, i32max, Om.sub, selI, ints_app, ints_cut, ints_upd, ints_rep, ints_splice, ints_seg, len_ints]
                  all_goals (first | exact True.intro | omega | (and_intros <;> first | exact True.intro | omega | (rfl; done)))
                · simp only [writesF, wNF, wNT, wRF, wRT, wNT_h6_0, wNT_h6_1, ints_list, List.map_append, List.map_drop, List.map_take, map_ints, z0, z1, z3, hX, hB, hN, hK, F1, F2, F3, F6, F40, F30, hlc, hc2, hq2, hi, allTold', dutiesTold, factsA, factsC, factsP, factsR, AV.facts, RW.facts, inK, and_true, Q.holds', E.i, E.s, E.n, D.nat, E.den, BO.den, UO.den, TO.den, D.toInt_int, D.toList_list, D.ints_ofInts, i64min, i64max, u8min, u8max, u16min, u16max, u32min, u32max, u64min, u64max, i32min, i32max, Om.sub, selI, ints_app, ints_cut, ints_upd, ints_rep, ints_splice, ints_seg, len_ints]
                  all_goals (first | exact True.intro | omega | (and_intros <;> first | exact True.intro | omega | (rfl; done)))
                · simp only [wNT_h6_0, wNT_h6_1, allTold', dutiesTold, factsA, factsC, factsP, factsR, AV.facts, RW.facts, inK, and_true, Q.holds', E.i, E.s, E.n, D.nat, E.den, BO.den, UO.den, TO.den, D.toInt_int, D.toList_list, D.ints_ofInts, i64min, i64max, u8min, u8max, u16min, u16max, u32min, u32max, u64min, u64max, i32min, i32max, Om.sub, selI, ints_app, ints_cut, ints_upd, ints_rep, ints_splice, ints_seg, len_ints]
                  omega
  | 2, _ =>
      have hp := allTold'_iff.2 hp
      simp only [writesF, wRF, allTold', dutiesTold, factsA, factsC, factsP, factsR, AV.facts, RW.facts, inK, and_true, Q.holds', E.i, E.s, E.n, D.nat, E.den, BO.den, UO.den, TO.den, D.toInt_int, D.toList_list, D.ints_ofInts, i64min, i64max, u8min, u8max, u16min, u16max, u32min, u32max, u64min, u64max, i32min, i32max, Om.sub, selI, ints_app, ints_cut, ints_upd, ints_rep, ints_splice, ints_seg, len_ints] at hp hR hA
      simp only [F30, allTold', dutiesTold, factsA, factsC, factsP, factsR, AV.facts, RW.facts, inK, and_true, Q.holds', E.i, E.s, E.n, D.nat, E.den, BO.den, UO.den, TO.den, D.toInt_int, D.toList_list, D.ints_ofInts, i64min, i64max, u8min, u8max, u16min, u16max, u32min, u32max, u64min, u64max, i32min, i32max, Om.sub, selI, ints_app, ints_cut, ints_upd, ints_rep, ints_splice, ints_seg, len_ints] at hp
      obtain ⟨p1, p2, p3, p4, p5⟩ := hp
      have g0 : (d 0).ints.length = (d 0).toList.length := (len_ints _).symm
      by_cases h : ((d 0).toList.length : Int) ≤ (d 1).toInt
      · refine ⟨tellA wRF_t7, tellA_ok (allTold'_iff.1 ?_), .inl ⟨_, _, _, wRF_y7, dutiesTold_ok ?_⟩⟩
        · simp only [wRF_t7, allTold', dutiesTold, factsA, factsC, factsP, factsR, AV.facts, RW.facts, inK, and_true, Q.holds', E.i, E.s, E.n, D.nat, E.den, BO.den, UO.den, TO.den, D.toInt_int, D.toList_list, D.ints_ofInts, i64min, i64max, u8min, u8max, u16min, u16max, u32min, u32max, u64min, u64max, i32min, i32max, Om.sub, selI, ints_app, ints_cut, ints_upd, ints_rep, ints_splice, ints_seg, len_ints]
          omega
        · simp only [wRF_d7, allTold', dutiesTold, factsA, factsC, factsP, factsR, AV.facts, RW.facts, inK, and_true, Q.holds', E.i, E.s, E.n, D.nat, E.den, BO.den, UO.den, TO.den, D.toInt_int, D.toList_list, D.ints_ofInts, i64min, i64max, u8min, u8max, u16min, u16max, u32min, u32max, u64min, u64max, i32min, i32max, Om.sub, selI, ints_app, ints_cut, ints_upd, ints_rep, ints_splice, ints_seg, len_ints]
      · have e := lens_step (l := (d 0).toList) (i := (d 1).toInt.toNat) (by omega) (by omega)
        have hnn2 := lens_nn (((d 0).toList.take 41).drop ((d 1).toInt.toNat + 1))
        have hi : ((d 1).toInt + 1).toNat = (d 1).toInt.toNat + 1 := by omega
        have z0 : Int.toNat 0 = 0 := rfl
        have z1 : Int.toNat 1 = 1 := rfl
        have z3 : Int.toNat 3 = 3 := rfl
        generalize hX : (d 0).toList[(d 1).toInt.toNat]?.getD (D.int 0) = X at *
        generalize hB : X.toList[3]?.getD (D.int 0) = B at *
        generalize hN : X.ints[1]?.getD 0 = N at *
        generalize hK : X.ints[0]?.getD 0 = K at *
        have g1 : B.ints.length = B.toList.length := (len_ints _).symm
        have hlc := lent_cut B.ints
        have hs1 := sz_in N
        have hs2 := sz_in (B.ints.length : Int)
        have hc2 := five_cut (n := (B.ints.length : Int)) (by omega) (by omega)
        have hq2 : (if 0 ≤ (B.ints.length : Int) ∧ (B.ints.length : Int) ≤ 2147483647 then szI (B.ints.length : Int) else 0) = szI (B.ints.length : Int) := if_pos ⟨by omega, by omega⟩
        by_cases k0 : K = 0
        · by_cases a : 0 ≤ N
          · by_cases b : N ≤ 2147483647
            · have hc1 := five_cut a b
              have hq1 : (if 0 ≤ N ∧ N ≤ 2147483647 then szI N else 0) = szI N := if_pos ⟨a, b⟩
              refine ⟨tellA wRF_t0, tellA_ok (allTold'_iff.1 ?_), .inr ⟨2, wRF_h0, _, _, by decide, wRF_y0, dutiesTold_ok ?_, allTold'_iff.1 ?_, ?_⟩⟩
              · simp only [wRF_t0, ints_list, List.map_append, List.map_drop, List.map_take, map_ints, z0, z1, z3, hX, hB, hN, hK, F1, F2, F3, F6, F40, F30, hlc, hc2, hq2, hi, hc1, hq1, allTold', dutiesTold, factsA, factsC, factsP, factsR, AV.facts, RW.facts, inK, and_true, Q.holds', E.i, E.s, E.n, D.nat, E.den, BO.den, UO.den, TO.den, D.toInt_int, D.toList_list, D.ints_ofInts, i64min, i64max, u8min, u8max, u16min, u16max, u32min, u32max, u64min, u64max, i32min, i32max, Om.sub, selI, ints_app, ints_cut, ints_upd, ints_rep, ints_splice, ints_seg, len_ints]
                all_goals (first | exact True.intro | omega | (and_intros <;> first | exact True.intro | omega | (rfl; done)))
              · simp only [wRF_d0, ints_list, List.map_append, List.map_drop, List.map_take, map_ints, z0, z1, z3, hX, hB, hN, hK, F1, F2, F3, F6, F40, F30, hlc, hc2, hq2, hi, hc1, hq1, allTold', dutiesTold, factsA, factsC, factsP, factsR, AV.facts, RW.facts, inK, and_true, Q.holds', E.i, E.s, E.n, D.nat, E.den, BO.den, UO.den, TO.den, D.toInt_int, D.toList_list, D.ints_ofInts, i64min, i64max, u8min, u8max, u16min, u16max, u32min, u32max, u64min, u64max, i32min, i32max, Om.sub, selI, ints_app, ints_cut, ints_upd, ints_rep, ints_splice, ints_seg, len_ints]
                all_goals (first | exact True.intro | omega | (and_intros <;> first | exact True.intro | omega | (rfl; done)))
              · simp only [writesF, wNF, wNT, wRF, wRT, wRF_h0_0, wRF_h0_1, wRF_h0_2, wRF_h0_4, ints_list, List.map_append, List.map_drop, List.map_take, map_ints, z0, z1, z3, hX, hB, hN, hK, F1, F2, F3, F6, F40, F30, hlc, hc2, hq2, hi, hc1, hq1, allTold', dutiesTold, factsA, factsC, factsP, factsR, AV.facts, RW.facts, inK, and_true, Q.holds', E.i, E.s, E.n, D.nat, E.den, BO.den, UO.den, TO.den, D.toInt_int, D.toList_list, D.ints_ofInts, i64min, i64max, u8min, u8max, u16min, u16max, u32min, u32max, u64min, u64max, i32min, i32max, Om.sub, selI, ints_app, ints_cut, ints_upd, ints_rep, ints_splice, ints_seg, len_ints]
                all_goals (first | exact True.intro | omega | (and_intros <;> first | exact True.intro | omega | (rfl; done)))
              · simp only [wRF_h0_0, wRF_h0_1, wRF_h0_2, wRF_h0_4, allTold', dutiesTold, factsA, factsC, factsP, factsR, AV.facts, RW.facts, inK, and_true, Q.holds', E.i, E.s, E.n, D.nat, E.den, BO.den, UO.den, TO.den, D.toInt_int, D.toList_list, D.ints_ofInts, i64min, i64max, u8min, u8max, u16min, u16max, u32min, u32max, u64min, u64max, i32min, i32max, Om.sub, selI, ints_app, ints_cut, ints_upd, ints_rep, ints_splice, ints_seg, len_ints]
                omega
            · have hq1 : (if 0 ≤ N ∧ N ≤ 2147483647 then szI N else 0) = 0 := if_neg (by omega)
              refine ⟨tellA wRF_t2, tellA_ok (allTold'_iff.1 ?_), .inr ⟨3, wRF_h2, _, _, by decide, wRF_y2, dutiesTold_ok ?_, allTold'_iff.1 ?_, ?_⟩⟩
              · simp only [wRF_t2, ints_list, List.map_append, List.map_drop, List.map_take, map_ints, z0, z1, z3, hX, hB, hN, hK, F1, F2, F3, F6, F40, F30, hlc, hc2, hq2, hi, hq1, allTold', dutiesTold, factsA, factsC, factsP, factsR, AV.facts, RW.facts, inK, and_true, Q.holds', E.i, E.s, E.n, D.nat, E.den, BO.den, UO.den, TO.den, D.toInt_int, D.toList_list, D.ints_ofInts, i64min, i64max, u8min, u8max, u16min, u16max, u32min, u32max, u64min, u64max, i32min, i32max, Om.sub, selI, ints_app, ints_cut, ints_upd, ints_rep, ints_splice, ints_seg, len_ints]
                all_goals (first | exact True.intro | omega | (and_intros <;> first | exact True.intro | omega | (rfl; done)))
              · simp only [wRF_d2, ints_list, List.map_append, List.map_drop, List.map_take, map_ints, z0, z1, z3, hX, hB, hN, hK, F1, F2, F3, F6, F40, F30, hlc, hc2, hq2, hi, hq1, allTold', dutiesTold, factsA, factsC, factsP, factsR, AV.facts, RW.facts, inK, and_true, Q.holds', E.i, E.s, E.n, D.nat, E.den, BO.den, UO.den, TO.den, D.toInt_int, D.toList_list, D.ints_ofInts, i64min, i64max, u8min, u8max, u16min, u16max, u32min, u32max, u64min, u64max, i32min, i32max, Om.sub, selI, ints_app, ints_cut, ints_upd, ints_rep, ints_splice, ints_seg, len_ints]
                all_goals (first | exact True.intro | omega | (and_intros <;> first | exact True.intro | omega | (rfl; done)))
              · simp only [writesF, wNF, wNT, wRF, wRT, wRF_h2_0, wRF_h2_1, wRF_h2_2, wRF_h2_4, ints_list, List.map_append, List.map_drop, List.map_take, map_ints, z0, z1, z3, hX, hB, hN, hK, F1, F2, F3, F6, F40, F30, hlc, hc2, hq2, hi, hq1, allTold', dutiesTold, factsA, factsC, factsP, factsR, AV.facts, RW.facts, inK, and_true, Q.holds', E.i, E.s, E.n, D.nat, E.den, BO.den, UO.den, TO.den, D.toInt_int, D.toList_list, D.ints_ofInts, i64min, i64max, u8min, u8max, u16min, u16max, u32min, u32max, u64min, u64max, i32min, i32max, Om.sub, selI, ints_app, ints_cut, ints_upd, ints_rep, ints_splice, ints_seg, len_ints]
                all_goals (first | exact True.intro | omega | (and_intros <;> first | exact True.intro | omega | (rfl; done)))
              · simp only [wRF_h2_0, wRF_h2_1, wRF_h2_2, wRF_h2_4, allTold', dutiesTold, factsA, factsC, factsP, factsR, AV.facts, RW.facts, inK, and_true, Q.holds', E.i, E.s, E.n, D.nat, E.den, BO.den, UO.den, TO.den, D.toInt_int, D.toList_list, D.ints_ofInts, i64min, i64max, u8min, u8max, u16min, u16max, u32min, u32max, u64min, u64max, i32min, i32max, Om.sub, selI, ints_app, ints_cut, ints_upd, ints_rep, ints_splice, ints_seg, len_ints]
                omega
          · have hq1 : (if 0 ≤ N ∧ N ≤ 2147483647 then szI N else 0) = 0 := if_neg (by omega)
            refine ⟨tellA wRF_t1, tellA_ok (allTold'_iff.1 ?_), .inr ⟨3, wRF_h1, _, _, by decide, wRF_y1, dutiesTold_ok ?_, allTold'_iff.1 ?_, ?_⟩⟩
            · simp only [wRF_t1, ints_list, List.map_append, List.map_drop, List.map_take, map_ints, z0, z1, z3, hX, hB, hN, hK, F1, F2, F3, F6, F40, F30, hlc, hc2, hq2, hi, hq1, allTold', dutiesTold, factsA, factsC, factsP, factsR, AV.facts, RW.facts, inK, and_true, Q.holds', E.i, E.s, E.n, D.nat, E.den, BO.den, UO.den, TO.den, D.toInt_int, D.toList_list, D.ints_ofInts, i64min, i64max, u8min, u8max, u16min, u16max, u32min, u32max, u64min, u64max, i32min, i32max, Om.sub, selI, ints_app, ints_cut, ints_upd, ints_rep, ints_splice, ints_seg, len_ints]
              all_goals (first | exact True.intro | omega | (and_intros <;> first | exact True.intro | omega | (rfl; done)))
            · simp only [wRF_d1, ints_list, List.map_append, List.map_drop, List.map_take, map_ints, z0, z1, z3, hX, hB, hN, hK, F1, F2, F3, F6, F40, F30, hlc, hc2, hq2, hi, hq1, allTold', dutiesTold, factsA, factsC, factsP, factsR, AV.facts, RW.facts, inK, and_true, Q.holds', E.i, E.s, E.n, D.nat, E.den, BO.den, UO.den, TO.den, D.toInt_int, D.toList_list, D.ints_ofInts, i64min, i64max, u8min, u8max, u16min, u16max, u32min, u32max, u64min, u64max, i32min, i32max, Om.sub, selI, ints_app, ints_cut, ints_upd, ints_rep, ints_splice, ints_seg, len_ints]
              all_goals (first | exact True.intro | omega | (and_intros <;> first | exact True.intro | omega | (rfl; done)))
            · simp only [writesF, wNF, wNT, wRF, wRT, wRF_h1_0, wRF_h1_1, wRF_h1_2, wRF_h1_4, ints_list, List.map_append, List.map_drop, List.map_take, map_ints, z0, z1, z3, hX, hB, hN, hK, F1, F2, F3, F6, F40, F30, hlc, hc2, hq2, hi, hq1, allTold', dutiesTold, factsA, factsC, factsP, factsR, AV.facts, RW.facts, inK, and_true, Q.holds', E.i, E.s, E.n, D.nat, E.den, BO.den, UO.den, TO.den, D.toInt_int, D.toList_list, D.ints_ofInts, i64min, i64max, u8min, u8max, u16min, u16max, u32min, u32max, u64min, u64max, i32min, i32max, Om.sub, selI, ints_app, ints_cut, ints_upd, ints_rep, ints_splice, ints_seg, len_ints]
              all_goals (first | exact True.intro | omega | (and_intros <;> first | exact True.intro | omega | (rfl; done)))
            · simp only [wRF_h1_0, wRF_h1_1, wRF_h1_2, wRF_h1_4, allTold', dutiesTold, factsA, factsC, factsP, factsR, AV.facts, RW.facts, inK, and_true, Q.holds', E.i, E.s, E.n, D.nat, E.den, BO.den, UO.den, TO.den, D.toInt_int, D.toList_list, D.ints_ofInts, i64min, i64max, u8min, u8max, u16min, u16max, u32min, u32max, u64min, u64max, i32min, i32max, Om.sub, selI, ints_app, ints_cut, ints_upd, ints_rep, ints_splice, ints_seg, len_ints]
              omega
        · by_cases k1 : K = 1
          · refine ⟨tellA wRF_t3, tellA_ok (allTold'_iff.1 ?_), .inr ⟨2, wRF_h3, _, _, by decide, wRF_y3, dutiesTold_ok ?_, allTold'_iff.1 ?_, ?_⟩⟩
            · simp only [wRF_t3, ints_list, List.map_append, List.map_drop, List.map_take, map_ints, z0, z1, z3, hX, hB, hN, hK, F1, F2, F3, F6, F40, F30, hlc, hc2, hq2, hi, allTold', dutiesTold, factsA, factsC, factsP, factsR, AV.facts, RW.facts, inK, and_true, Q.holds', E.i, E.s, E.n, D.nat, E.den, BO.den, UO.den, TO.den, D.toInt_int, D.toList_list, D.ints_ofInts, i64min, i64max, u8min, u8max, u16min, u16max, u32min, u32max, u64min, u64max, i32min, i32max, Om.sub, selI, ints_app, ints_cut, ints_upd, ints_rep, ints_splice, ints_seg, len_ints]
              all_goals (first | exact True.intro | omega | (and_intros <;> first | exact True.intro | omega | (rfl; done)))
            · simp only [wRF_d3, ints_list, List.map_append, List.map_drop, List.map_take, map_ints, z0, z1, z3, hX, hB, hN, hK, F1, F2, F3, F6, F40, F30, hlc, hc2, hq2, hi, allTold', dutiesTold, factsA, factsC, factsP, factsR, AV.facts, RW.facts, inK, and_true, Q.holds', E.i, E.s, E.n, D.nat, E.den, BO.den, UO.den, TO.den, D.toInt_int, D.toList_list, D.ints_ofInts, i64min, i64max, u8min, u8max, u16min, u16max, u32min, u32max, u64min, u64max, i32min, i32max, Om.sub, selI, ints_app, ints_cut, ints_upd, ints_rep, ints_splice, ints_seg, len_ints]
              all_goals (first | exact True.intro | omega | (and_intros <;> first | exact True.intro | omega | (rfl; done)))
            · simp only [writesF, wNF, wNT, wRF, wRT, wRF_h3_0, wRF_h3_1, wRF_h3_2, wRF_h3_4, ints_list, List.map_append, List.map_drop, List.map_take, map_ints, z0, z1, z3, hX, hB, hN, hK, F1, F2, F3, F6, F40, F30, hlc, hc2, hq2, hi, allTold', dutiesTold, factsA, factsC, factsP, factsR, AV.facts, RW.facts, inK, and_true, Q.holds', E.i, E.s, E.n, D.nat, E.den, BO.den, UO.den, TO.den, D.toInt_int, D.toList_list, D.ints_ofInts, i64min, i64max, u8min, u8max, u16min, u16max, u32min, u32max, u64min, u64max, i32min, i32max, Om.sub, selI, ints_app, ints_cut, ints_upd, ints_rep, ints_splice, ints_seg, len_ints]
              all_goals (first | exact True.intro | omega | (and_intros <;> first | exact True.intro | omega | (rfl; done)))
            · simp only [wRF_h3_0, wRF_h3_1, wRF_h3_2, wRF_h3_4, allTold', dutiesTold, factsA, factsC, factsP, factsR, AV.facts, RW.facts, inK, and_true, Q.holds', E.i, E.s, E.n, D.nat, E.den, BO.den, UO.den, TO.den, D.toInt_int, D.toList_list, D.ints_ofInts, i64min, i64max, u8min, u8max, u16min, u16max, u32min, u32max, u64min, u64max, i32min, i32max, Om.sub, selI, ints_app, ints_cut, ints_upd, ints_rep, ints_splice, ints_seg, len_ints]
              omega
          · by_cases k2 : K = 2
            · refine ⟨tellA wRF_t4, tellA_ok (allTold'_iff.1 ?_), .inr ⟨2, wRF_h4, _, _, by decide, wRF_y4, dutiesTold_ok ?_, allTold'_iff.1 ?_, ?_⟩⟩
              · simp only [wRF_t4, ints_list, List.map_append, List.map_drop, List.map_take, map_ints, z0, z1, z3, hX, hB, hN, hK, F1, F2, F3, F6, F40, F30, hlc, hc2, hq2, hi, allTold', dutiesTold, factsA, factsC, factsP, factsR, AV.facts, RW.facts, inK, and_true, Q.holds', E.i, E.s, E.n, D.nat, E.den, BO.den, UO.den, TO.den, D.toInt_int, D.toList_list, D.ints_ofInts, i64min, i64max, u8min, u8max, u16min, u16max, u32min, u32max, u64min, u64max, i32min, i32max, Om.sub, selI, ints_app, ints_cut, ints_upd, ints_rep, ints_splice, ints_seg, len_ints]
                all_goals (first | exact True.intro | omega | (and_intros <;> first | exact True.intro | omega | (rfl; done)))
              · simp only [wRF_d4, ints_list, List.map_append, List.map_drop, List.map_take, map_ints, z0, z1, z3, hX, hB, hN, hK, F1, F2, F3, F6, F40, F30, hlc, hc2, hq2, hi, allTold', dutiesTold, factsA, factsC, factsP, factsR, AV.facts, RW.facts, inK, and_true, Q.holds', E.i, E.s, E.n, D.nat, E.den, BO.den, UO.den, TO.den, D.toInt_int, D.toList_list, D.ints_ofInts, i64min, i64max, u8min, u8max, u16min, u16max, u32min, u32max, u64min, u64max, i32min, i32max, Om.sub, selI, ints_app, ints_cut, ints_upd, ints_rep, ints_splice, ints_seg, len_ints]
                all_goals (first | exact True.intro | omega | (and_intros <;> first | exact True.intro | omega | (rfl; done)))
              · simp only [writesF, wNF, wNT, wRF, wRT, wRF_h4_0, wRF_h4_1, wRF_h4_2, wRF_h4_4, ints_list, List.map_append, List.map_drop, List.map_take, map_ints, z0, z1, z3, hX, hB, hN, hK, F1, F2, F3, F6, F40, F30, hlc, hc2, hq2, hi, allTold', dutiesTold, factsA, factsC, factsP, factsR, AV.facts, RW.facts, inK, and_true, Q.holds', E.i, E.s, E.n, D.nat, E.den, BO.den, UO.den, TO.den, D.toInt_int, D.toList_list, D.ints_ofInts, i64min, i64max, u8min, u8max, u16min, u16max, u32min, u32max, u64min, u64max, i32min, i32max, Om.sub, selI, ints_app, ints_cut, ints_upd, ints_rep, ints_splice, ints_seg, len_ints]
                all_goals (first | exact True.intro | omega | (and_intros <;> first | exact True.intro | omega | (rfl; done)))
              · simp only [wRF_h4_0, wRF_h4_1, wRF_h4_2, wRF_h4_4, allTold', dutiesTold, factsA, factsC, factsP, factsR, AV.facts, RW.facts, inK, and_true, Q.holds', E.i, E.s, E.n, D.nat, E.den, BO.den, UO.den, TO.den, D.toInt_int, D.toList_list, D.ints_ofInts, i64min, i64max, u8min, u8max, u16min, u16max, u32min, u32max, u64min, u64max, i32min, i32max, Om.sub, selI, ints_app, ints_cut, ints_upd, ints_rep, ints_splice, ints_seg, len_ints]
                omega
            · by_cases k3 : K = 3
              · refine ⟨tellA wRF_t5, tellA_ok (allTold'_iff.1 ?_), .inr ⟨2, wRF_h5, _, _, by decide, wRF_y5, dutiesTold_ok ?_, allTold'_iff.1 ?_, ?_⟩⟩
                · simp only [wRF_t5, ints_list, List.map_append, List.map_drop, List.map_take, map_ints, z0, z1, z3, hX, hB, hN, hK, F1, F2, F3, F6, F40, F30, hlc, hc2, hq2, hi, allTold', dutiesTold, factsA, factsC, factsP, factsR, AV.facts, RW.facts, inK, and_true, Q.holds', E.i, E.s, E.n, D.nat, E.den, BO.den, UO.den, TO.den, D.toInt_int, D.toList_list, D.ints_ofInts, i64min, i64max, u8min, u8max, u16min, u16max, u32min, u32max, u64min, u64max, i32min, i32max, Om.sub, selI, ints_app, ints_cut, ints_upd, ints_rep, ints_splice, ints_seg, len_ints]
                  all_goals (first | exact True.intro | omega | (and_intros <;> first | exact True.intro | omega | (rfl; done)))
                · simp only [wRF_d5, ints_list, List.map_append, List.map_drop, List.map_take, map_ints, z0, z1, z3, hX, hB, hN, hK, F1, F2, F3, F6, F40, F30, hlc, hc2, hq2, hi, allTold', dutiesTold, factsA, factsC, factsP, factsR, AV.facts, RW.facts, inK, and_true, Q.holds', E.i, E.s, E.n, D.nat, E.den, BO.den, UO.den, TO.den, D.toInt_int, D.toList_list, D.ints_ofInts, i64min, i64max, u8min, u8max, u16min, u16max, u32min, u32max, u64min, u64max, i32min, i32max, Om.sub, selI, ints_app, ints_cut, ints_upd, ints_rep, ints_splice, ints_seg, len_ints]
                  all_goals (first | exact True.intro | omega | (and_intros <;> first | exact True.intro | omega | (rfl; done)))
                · simp only [writesF, wNF, wNT, wRF, wRT, wRF_h5_0, wRF_h5_1, wRF_h5_2, wRF_h5_4, ints_list, List.map_append, List.map_drop, List.map_take, map_ints, z0, z1, z3, hX, hB, hN, hK, F1, F2, F3, F6, F40, F30, hlc, hc2, hq2, hi, allTold', dutiesTold, factsA, factsC, factsP, factsR, AV.facts, RW.facts, inK, and_true, Q.holds', E.i, E.s, E.n, D.nat, E.den, BO.den, UO.den, TO.den, D.toInt_int, D.toList_list, D.ints_ofInts, i64min, i64max, u8min, u8max, u16min, u16max, u32min, u32max, u64min, u64max, i32min, i32max, Om.sub, selI, ints_app, ints_cut, ints_upd, ints_rep, ints_splice, ints_seg, len_ints]
                  all_goals (first | exact True.intro | omega | (and_intros <;> first | exact True.intro | omega | (rfl; done)))
                · simp only [wRF_h5_0, wRF_h5_1, wRF_h5_2, wRF_h5_4, allTold', dutiesTold, factsA, factsC, factsP, factsR, AV.facts, RW.facts, inK, and_true, Q.holds', E.i, E.s, E.n, D.nat, E.den, BO.den, UO.den, TO.den, D.toInt_int, D.toList_list, D.ints_ofInts, i64min, i64max, u8min, u8max, u16min, u16max, u32min, u32max, u64min, u64max, i32min, i32max, Om.sub, selI, ints_app, ints_cut, ints_upd, ints_rep, ints_splice, ints_seg, len_ints]
                  omega
              · refine ⟨tellA wRF_t6, tellA_ok (allTold'_iff.1 ?_), .inr ⟨2, wRF_h6, _, _, by decide, wRF_y6, dutiesTold_ok ?_, allTold'_iff.1 ?_, ?_⟩⟩
                · simp only [wRF_t6, ints_list, List.map_append, List.map_drop, List.map_take, map_ints, z0, z1, z3, hX, hB, hN, hK, F1, F2, F3, F6, F40, F30, hlc, hc2, hq2, hi, allTold', dutiesTold, factsA, factsC, factsP, factsR, AV.facts, RW.facts, inK, and_true, Q.holds', E.i, E.s, E.n, D.nat, E.den, BO.den, UO.den, TO.den, D.toInt_int, D.toList_list, D.ints_ofInts, i64min, i64max, u8min, u8max, u16min, u16max, u32min, u32max, u64min, u64max, i32min, i32max, Om.sub, selI, ints_app, ints_cut, ints_upd, ints_rep, ints_splice, ints_seg, len_ints]
                  all_goals (first | exact True.intro | omega | (and_intros <;> first | exact True.intro | omega | (rfl; done)))
                · simp only [wRF_d6, ints_list, List.map_append, List.map_drop, List.map_take, map_ints, z0, z1, z3, hX, hB, hN, hK, F1, F2, F3, F6, F40, F30, hlc, hc2, hq2, hi, allTold', dutiesTold, factsA, factsC, factsP, factsR, AV.facts, RW.facts, inK, and_true, Q.holds', E.i, E.s, E.n, D.nat, E.den, BO.den, UO.den, TO.den, D.toInt_int, D.toList_list, D.ints_ofInts, i64min, i64max, u8min, u8max, u16min, u16max, u32min, u32max, u64min, u64max, i32min, i32max, Om.sub, selI, ints_app, ints_cut, ints_upd, ints_rep, ints_splice, ints_seg, len_ints]
                  all_goals (first | exact True.intro | omega | (and_intros <;> first | exact True.intro | omega | (rfl; done)))
                · simp only [writesF, wNF, wNT, wRF, wRT, wRF_h6_0, wRF_h6_1, wRF_h6_2, wRF_h6_4, ints_list, List.map_append, List.map_drop, List.map_take, map_ints, z0, z1, z3, hX, hB, hN, hK, F1, F2, F3, F6, F40, F30, hlc, hc2, hq2, hi, allTold', dutiesTold, factsA, factsC, factsP, factsR, AV.facts, RW.facts, inK, and_true, Q.holds', E.i, E.s, E.n, D.nat, E.den, BO.den, UO.den, TO.den, D.toInt_int, D.toList_list, D.ints_ofInts, i64min, i64max, u8min, u8max, u16min, u16max, u32min, u32max, u64min, u64max, i32min, i32max, Om.sub, selI, ints_app, ints_cut, ints_upd, ints_rep, ints_splice, ints_seg, len_ints]
                  all_goals (first | exact True.intro | omega | (and_intros <;> first | exact True.intro | omega | (rfl; done)))
                · simp only [wRF_h6_0, wRF_h6_1, wRF_h6_2, wRF_h6_4, allTold', dutiesTold, factsA, factsC, factsP, factsR, AV.facts, RW.facts, inK, and_true, Q.holds', E.i, E.s, E.n, D.nat, E.den, BO.den, UO.den, TO.den, D.toInt_int, D.toList_list, D.ints_ofInts, i64min, i64max, u8min, u8max, u16min, u16max, u32min, u32max, u64min, u64max, i32min, i32max, Om.sub, selI, ints_app, ints_cut, ints_upd, ints_rep, ints_splice, ints_seg, len_ints]
                  omega
  | 3, _ =>
      have hp := allTold'_iff.2 hp
      simp only [writesF, wRT, allTold', dutiesTold, factsA, factsC, factsP, factsR, AV.facts, RW.facts, inK, and_true, Q.holds', E.i, E.s, E.n, D.nat, E.den, BO.den, UO.den, TO.den, D.toInt_int, D.toList_list, D.ints_ofInts, i64min, i64max, u8min, u8max, u16min, u16max, u32min, u32max, u64min, u64max, i32min, i32max, Om.sub, selI, ints_app, ints_cut, ints_upd, ints_rep, ints_splice, ints_seg, len_ints] at hp hR hA
      simp only [F30, allTold', dutiesTold, factsA, factsC, factsP, factsR, AV.facts, RW.facts, inK, and_true, Q.holds', E.i, E.s, E.n, D.nat, E.den, BO.den, UO.den, TO.den, D.toInt_int, D.toList_list, D.ints_ofInts, i64min, i64max, u8min, u8max, u16min, u16max, u32min, u32max, u64min, u64max, i32min, i32max, Om.sub, selI, ints_app, ints_cut, ints_upd, ints_rep, ints_splice, ints_seg, len_ints] at hp
      obtain ⟨p1, p2, p3, p4, p5⟩ := hp
      have g0 : (d 0).ints.length = (d 0).toList.length := (len_ints _).symm
      by_cases h : ((d 0).toList.length : Int) ≤ (d 1).toInt
      · refine ⟨tellA wRT_t7, tellA_ok (allTold'_iff.1 ?_), .inl ⟨_, _, _, wRT_y7, dutiesTold_ok ?_⟩⟩
        · simp only [wRT_t7, allTold', dutiesTold, factsA, factsC, factsP, factsR, AV.facts, RW.facts, inK, and_true, Q.holds', E.i, E.s, E.n, D.nat, E.den, BO.den, UO.den, TO.den, D.toInt_int, D.toList_list, D.ints_ofInts, i64min, i64max, u8min, u8max, u16min, u16max, u32min, u32max, u64min, u64max, i32min, i32max, Om.sub, selI, ints_app, ints_cut, ints_upd, ints_rep, ints_splice, ints_seg, len_ints]
          omega
        · simp only [wRT_d7, allTold', dutiesTold, factsA, factsC, factsP, factsR, AV.facts, RW.facts, inK, and_true, Q.holds', E.i, E.s, E.n, D.nat, E.den, BO.den, UO.den, TO.den, D.toInt_int, D.toList_list, D.ints_ofInts, i64min, i64max, u8min, u8max, u16min, u16max, u32min, u32max, u64min, u64max, i32min, i32max, Om.sub, selI, ints_app, ints_cut, ints_upd, ints_rep, ints_splice, ints_seg, len_ints]
      · have e := lens_step (l := (d 0).toList) (i := (d 1).toInt.toNat) (by omega) (by omega)
        have hnn2 := lens_nn (((d 0).toList.take 41).drop ((d 1).toInt.toNat + 1))
        have hi : ((d 1).toInt + 1).toNat = (d 1).toInt.toNat + 1 := by omega
        have z0 : Int.toNat 0 = 0 := rfl
        have z1 : Int.toNat 1 = 1 := rfl
        have z3 : Int.toNat 3 = 3 := rfl
        generalize hX : (d 0).toList[(d 1).toInt.toNat]?.getD (D.int 0) = X at *
        generalize hB : X.toList[3]?.getD (D.int 0) = B at *
        generalize hN : X.ints[1]?.getD 0 = N at *
        generalize hK : X.ints[0]?.getD 0 = K at *
        have g1 : B.ints.length = B.toList.length := (len_ints _).symm
        have hlc := lent_cut B.ints
        have hs1 := sz_in N
        have hs2 := sz_in (B.ints.length : Int)
        have hc2 := five_cut (n := (B.ints.length : Int)) (by omega) (by omega)
        have hq2 : (if 0 ≤ (B.ints.length : Int) ∧ (B.ints.length : Int) ≤ 2147483647 then szI (B.ints.length : Int) else 0) = szI (B.ints.length : Int) := if_pos ⟨by omega, by omega⟩
        by_cases k0 : K = 0
        · by_cases a : 0 ≤ N
          · by_cases b : N ≤ 2147483647
            · have hc1 := five_cut a b
              have hq1 : (if 0 ≤ N ∧ N ≤ 2147483647 then szI N else 0) = szI N := if_pos ⟨a, b⟩
              refine ⟨tellA wRT_t0, tellA_ok (allTold'_iff.1 ?_), .inr ⟨3, wRT_h0, _, _, by decide, wRT_y0, dutiesTold_ok ?_, allTold'_iff.1 ?_, ?_⟩⟩
              · simp only [wRT_t0, ints_list, List.map_append, List.map_drop, List.map_take, map_ints, z0, z1, z3, hX, hB, hN, hK, F1, F2, F3, F6, F40, F30, hlc, hc2, hq2, hi, hc1, hq1, allTold', dutiesTold, factsA, factsC, factsP, factsR, AV.facts, RW.facts, inK, and_true, Q.holds', E.i, E.s, E.n, D.nat, E.den, BO.den, UO.den, TO.den, D.toInt_int, D.toList_list, D.ints_ofInts, i64min, i64max, u8min, u8max, u16min, u16max, u32min, u32max, u64min, u64max, i32min, i32max, Om.sub, selI, ints_app, ints_cut, ints_upd, ints_rep, ints_splice, ints_seg, len_ints]
                all_goals (first | exact True.intro | omega | (and_intros <;> first | exact True.intro | omega | (rfl; done)))
              · simp only [wRT_d0, ints_list, List.map_append, List.map_drop, List.map_take, map_ints, z0, z1, z3, hX, hB, hN, hK, F1, F2, F3, F6, F40, F30, hlc, hc2, hq2, hi, hc1, hq1, allTold', dutiesTold, factsA, factsC, factsP, factsR, AV.facts, RW.facts, inK, and_true, Q.holds', E.i, E.s, E.n, D.nat, E.den, BO.den, UO.den, TO.den, D.toInt_int, D.toList_list, D.ints_ofInts, i64min, i64max, u8min, u8max, u16min, u16max, u32min, u32max, u64min, u64max, i32min, i32max, Om.sub, selI, ints_app, ints_cut, ints_upd, ints_rep, ints_splice, ints_seg, len_ints]
                all_goals (first | exact True.intro | omega | (and_intros <;> first | exact True.intro | omega | (rfl; done)))
              · simp only [writesF, wNF, wNT, wRF, wRT, wRT_h0_0, wRT_h0_1, wRT_h0_2, wRT_h0_4, ints_list, List.map_append, List.map_drop, List.map_take, map_ints, z0, z1, z3, hX, hB, hN, hK, F1, F2, F3, F6, F40, F30, hlc, hc2, hq2, hi, hc1, hq1, allTold', dutiesTold, factsA, factsC, factsP, factsR, AV.facts, RW.facts, inK, and_true, Q.holds', E.i, E.s, E.n, D.nat, E.den, BO.den, UO.den, TO.den, D.toInt_int, D.toList_list, D.ints_ofInts, i64min, i64max, u8min, u8max, u16min, u16max, u32min, u32max, u64min, u64max, i32min, i32max, Om.sub, selI, ints_app, ints_cut, ints_upd, ints_rep, ints_splice, ints_seg, len_ints]
                all_goals (first | exact True.intro | omega | (and_intros <;> first | exact True.intro | omega | (rfl; done)))
              · simp only [wRT_h0_0, wRT_h0_1, wRT_h0_2, wRT_h0_4, allTold', dutiesTold, factsA, factsC, factsP, factsR, AV.facts, RW.facts, inK, and_true, Q.holds', E.i, E.s, E.n, D.nat, E.den, BO.den, UO.den, TO.den, D.toInt_int, D.toList_list, D.ints_ofInts, i64min, i64max, u8min, u8max, u16min, u16max, u32min, u32max, u64min, u64max, i32min, i32max, Om.sub, selI, ints_app, ints_cut, ints_upd, ints_rep, ints_splice, ints_seg, len_ints]
                omega
            · have hq1 : (if 0 ≤ N ∧ N ≤ 2147483647 then szI N else 0) = 0 := if_neg (by omega)
              refine ⟨tellA wRT_t2, tellA_ok (allTold'_iff.1 ?_), .inr ⟨3, wRT_h2, _, _, by decide, wRT_y2, dutiesTold_ok ?_, allTold'_iff.1 ?_, ?_⟩⟩
              · simp only [wRT_t2, ints_list, List.map_append, List.map_drop, List.map_take, map_ints, z0, z1, z3, hX, hB, hN, hK, F1, F2, F3, F6, F40, F30, hlc, hc2, hq2, hi, hq1, allTold', dutiesTold, factsA, factsC, factsP, factsR, AV.facts, RW.facts, inK, and_true, Q.holds', E.i, E.s, E.n, D.nat, E.den, BO.den, UO.den, TO.den, D.toInt_int, D.toList_list, D.ints_ofInts, i64min, i64max, u8min, u8max, u16min, u16max, u32min, u32max, u64min, u64max, i32min, i32max, Om.sub, selI, ints_app, ints_cut, ints_upd, ints_rep, ints_splice, ints_seg, len_ints]
                all_goals (first | exact True.intro | omega | (and_intros <;> first | exact True.intro | omega | (rfl; done)))
              · simp only [wRT_d2, ints_list, List.map_append, List.map_drop, List.map_take, map_ints, z0, z1, z3, hX, hB, hN, hK, F1, F2, F3, F6, F40, F30, hlc, hc2, hq2, hi, hq1, allTold', dutiesTold, factsA, factsC, factsP, factsR, AV.facts, RW.facts, inK, and_true, Q.holds', E.i, E.s, E.n, D.nat, E.den, BO.den, UO.den, TO.den, D.toInt_int, D.toList_list, D.ints_ofInts, i64min, i64max, u8min, u8max, u16min, u16max, u32min, u32max, u64min, u64max, i32min, i32max, Om.sub, selI, ints_app, ints_cut, ints_upd, ints_rep, ints_splice, ints_seg, len_ints]
                all_goals (first | exact True.intro | omega | (and_intros <;> first | exact True.intro | omega | (rfl; done)))
              · simp only [writesF, wNF, wNT, wRF, wRT, wRT_h2_0, wRT_h2_1, wRT_h2_2, wRT_h2_4, ints_list, List.map_append, List.map_drop, List.map_take, map_ints, z0, z1, z3, hX, hB, hN, hK, F1, F2, F3, F6, F40, F30, hlc, hc2, hq2, hi, hq1, allTold', dutiesTold, factsA, factsC, factsP, factsR, AV.facts, RW.facts, inK, and_true, Q.holds', E.i, E.s, E.n, D.nat, E.den, BO.den, UO.den, TO.den, D.toInt_int, D.toList_list, D.ints_ofInts, i64min, i64max, u8min, u8max, u16min, u16max, u32min, u32max, u64min, u64max, i32min, i32max, Om.sub, selI, ints_app, ints_cut, ints_upd, ints_rep, ints_splice, ints_seg, len_ints]
                all_goals (first | exact True.intro | omega | (and_intros <;> first | exact True.intro | omega | (rfl; done)))
              · simp only [wRT_h2_0, wRT_h2_1, wRT_h2_2, wRT_h2_4, allTold', dutiesTold, factsA, factsC, factsP, factsR, AV.facts, RW.facts, inK, and_true, Q.holds', E.i, E.s, E.n, D.nat, E.den, BO.den, UO.den, TO.den, D.toInt_int, D.toList_list, D.ints_ofInts, i64min, i64max, u8min, u8max, u16min, u16max, u32min, u32max, u64min, u64max, i32min, i32max, Om.sub, selI, ints_app, ints_cut, ints_upd, ints_rep, ints_splice, ints_seg, len_ints]
                omega
          · have hq1 : (if 0 ≤ N ∧ N ≤ 2147483647 then szI N else 0) = 0 := if_neg (by omega)
            refine ⟨tellA wRT_t1, tellA_ok (allTold'_iff.1 ?_), .inr ⟨3, wRT_h1, _, _, by decide, wRT_y1, dutiesTold_ok ?_, allTold'_iff.1 ?_, ?_⟩⟩
            · simp only [wRT_t1, ints_list, List.map_append, List.map_drop, List.map_take, map_ints, z0, z1, z3, hX, hB, hN, hK, F1, F2, F3, F6, F40, F30, hlc, hc2, hq2, hi, hq1, allTold', dutiesTold, factsA, factsC, factsP, factsR, AV.facts, RW.facts, inK, and_true, Q.holds', E.i, E.s, E.n, D.nat, E.den, BO.den, UO.den, TO.den, D.toInt_int, D.toList_list, D.ints_ofInts, i64min, i64max, u8min, u8max, u16min, u16max, u32min, u32max, u64min, u64max, i32min, i32max, Om.sub, selI, ints_app, ints_cut, ints_upd, ints_rep, ints_splice, ints_seg, len_ints]
              all_goals (first | exact True.intro | omega | (and_intros <;> first | exact True.intro | omega | (rfl; done)))
            · simp only [wRT_d1, ints_list, List.map_append, List.map_drop, List.map_take, map_ints, z0, z1, z3, hX, hB, hN, hK, F1, F2, F3, F6, F40, F30, hlc, hc2, hq2, hi, hq1, allTold', dutiesTold, factsA, factsC, factsP, factsR, AV.facts, RW.facts, inK, and_true, Q.holds', E.i, E.s, E.n, D.nat, E.den, BO.den, UO.den, TO.den, D.toInt_int, D.toList_list, D.ints_ofInts, i64min, i64max, u8min, u8max, u16min, u16max, u32min, u32max, u64min, u64max, i32min, i32max, Om.sub, selI, ints_app, ints_cut, ints_upd, ints_rep, ints_splice, ints_seg, len_ints]
              all_goals (first | exact True.intro | omega | (and_intros <;> first | exact True.intro | omega | (rfl; done)))
            · simp only [writesF, wNF, wNT, wRF, wRT, wRT_h1_0, wRT_h1_1, wRT_h1_2, wRT_h1_4, ints_list, List.map_append, List.map_drop, List.map_take, map_ints, z0, z1, z3, hX, hB, hN, hK, F1, F2, F3, F6, F40, F30, hlc, hc2, hq2, hi, hq1, allTold', dutiesTold, factsA, factsC, factsP, factsR, AV.facts, RW.facts, inK, and_true, Q.holds', E.i, E.s, E.n, D.nat, E.den, BO.den, UO.den, TO.den, D.toInt_int, D.toList_list, D.ints_ofInts, i64min, i64max, u8min, u8max, u16min, u16max, u32min, u32max, u64min, u64max, i32min, i32max, Om.sub, selI, ints_app, ints_cut, ints_upd, ints_rep, ints_splice, ints_seg, len_ints]
              all_goals (first | exact True.intro | omega | (and_intros <;> first | exact True.intro | omega | (rfl; done)))
            · simp only [wRT_h1_0, wRT_h1_1, wRT_h1_2, wRT_h1_4, allTold', dutiesTold, factsA, factsC, factsP, factsR, AV.facts, RW.facts, inK, and_true, Q.holds', E.i, E.s, E.n, D.nat, E.den, BO.den, UO.den, TO.den, D.toInt_int, D.toList_list, D.ints_ofInts, i64min, i64max, u8min, u8max, u16min, u16max, u32min, u32max, u64min, u64max, i32min, i32max, Om.sub, selI, ints_app, ints_cut, ints_upd, ints_rep, ints_splice, ints_seg, len_ints]
              omega
        · by_cases k1 : K = 1
          · refine ⟨tellA wRT_t3, tellA_ok (allTold'_iff.1 ?_), .inr ⟨3, wRT_h3, _, _, by decide, wRT_y3, dutiesTold_ok ?_, allTold'_iff.1 ?_, ?_⟩⟩
            · simp only [wRT_t3, ints_list, List.map_append, List.map_drop, List.map_take, map_ints, z0, z1, z3, hX, hB, hN, hK, F1, F2, F3, F6, F40, F30, hlc, hc2, hq2, hi, allTold', dutiesTold, factsA, factsC, factsP, factsR, AV.facts, RW.facts, inK, and_true, Q.holds', E.i, E.s, E.n, D.nat, E.den, BO.den, UO.den, TO.den, D.toInt_int, D.toList_list, D.ints_ofInts, i64min, i64max, u8min, u8max, u16min, u16max, u32min, u32max, u64min, u64max, i32min, i32max, Om.sub, selI, ints_app, ints_cut, ints_upd, ints_rep, ints_splice, ints_seg, len_ints]
              all_goals (first | exact True.intro | omega | (and_intros <;> first | exact True.intro | omega | (rfl; done)))
            · simp only [wRT_d3, ints_list, List.map_append, List.map_drop, List.map_take, map_ints, z0, z1, z3, hX, hB, hN, hK, F1, F2, F3, F6, F40, F30, hlc, hc2, hq2, hi, allTold', dutiesTold, factsA, factsC, factsP, factsR, AV.facts, RW.facts, inK, and_true, Q.holds', E.i, E.s, E.n, D.nat, E.den, BO.den, UO.den, TO.den, D.toInt_int, D.toList_list, D.ints_ofInts, i64min, i64max, u8min, u8max, u16min, u16max, u32min, u32max, u64min, u64max, i32min, i32max, Om.sub, selI, ints_app, ints_cut, ints_upd, ints_rep, ints_splice, ints_seg, len_ints]
              all_goals (first | exact True.intro | omega | (and_intros <;> first | exact True.intro | omega | (rfl; done)))
            · simp only [writesF, wNF, wNT, wRF, wRT, wRT_h3_0, wRT_h3_1, wRT_h3_2, wRT_h3_4, ints_list, List.map_append, List.map_drop, List.map_take, map_ints, z0, z1, z3, hX, hB, hN, hK, F1, F2, F3, F6, F40, F30, hlc, hc2, hq2, hi, allTold', dutiesTold, factsA, factsC, factsP, factsR, AV.facts, RW.facts, inK, and_true, Q.holds', E.i, E.s, E.n, D.nat, E.den, BO.den, UO.den, TO.den, D.toInt_int, D.toList_list, D.ints_ofInts, i64min, i64max, u8min, u8max, u16min, u16max, u32min, u32max, u64min, u64max, i32min, i32max, Om.sub, selI, ints_app, ints_cut, ints_upd, ints_rep, ints_splice, ints_seg, len_ints]
              all_goals (first | exact True.intro | omega | (and_intros <;> first | exact True.intro | omega | (rfl; done)))
            · simp only [wRT_h3_0, wRT_h3_1, wRT_h3_2, wRT_h3_4, allTold', dutiesTold, factsA, factsC, factsP, factsR, AV.facts, RW.facts, inK, and_true, Q.holds', E.i, E.s, E.n, D.nat, E.den, BO.den, UO.den, TO.den, D.toInt_int, D.toList_list, D.ints_ofInts, i64min, i64max, u8min, u8max, u16min, u16max, u32min, u32max, u64min, u64max, i32min, i32max, Om.sub, selI, ints_app, ints_cut, ints_upd, ints_rep, ints_splice, ints_seg, len_ints]
              omega
          · by_cases k2 : K = 2
            · refine ⟨tellA wRT_t4, tellA_ok (allTold'_iff.1 ?_), .inr ⟨3, wRT_h4, _, _, by decide, wRT_y4, dutiesTold_ok ?_, allTold'_iff.1 ?_, ?_⟩⟩
              · simp only [wRT_t4, ints_list, List.map_append, List.map_drop, List.map_take, map_ints, z0, z1, z3, hX, hB, hN, hK, F1, F2, F3, F6, F40, F30, hlc, hc2, hq2, hi, allTold', dutiesTold, factsA, factsC, factsP, factsR, AV.facts, RW.facts, inK, and_true, Q.holds', E.i, E.s, E.n, D.nat, E.den, BO.den, UO.den, TO.den, D.toInt_int, D.toList_list, D.ints_ofInts, i64min, i64max, u8min, u8max, u16min, u16max, u32min, u32max, u64min, u64max, i32min, i32max, Om.sub, selI, ints_app, ints_cut, ints_upd, ints_rep, ints_splice, ints_seg, len_ints]
                all_goals (first | exact True.intro | omega | (and_intros <;> first | exact True.intro | omega | (rfl; done)))
              · simp only [wRT_d4, ints_list, List.map_append, List.map_drop, List.map_take, map_ints, z0, z1, z3, hX, hB, hN, hK, F1, F2, F3, F6, F40, F30, hlc, hc2, hq2, hi, allTold', dutiesTold, factsA, factsC, factsP, factsR, AV.facts, RW.facts, inK, and_true, Q.holds', E.i, E.s, E.n, D.nat, E.den, BO.den, UO.den, TO.den, D.toInt_int, D.toList_list, D.ints_ofInts, i64min, i64max, u8min, u8max, u16min, u16max, u32min, u32max, u64min, u64max, i32min, i32max, Om.sub, selI, ints_app, ints_cut, ints_upd, ints_rep, ints_splice, ints_seg, len_ints]
                all_goals (first | exact True.intro | omega | (and_intros <;> first | exact True.intro | omega | (rfl; done)))
              · simp only [writesF, wNF, wNT, wRF, wRT, wRT_h4_0, wRT_h4_1, wRT_h4_2, wRT_h4_4, ints_list, List.map_append, List.map_drop, List.map_take, map_ints, z0, z1, z3, hX, hB, hN, hK, F1, F2, F3, F6, F40, F30, hlc, hc2, hq2, hi, allTold', dutiesTold, factsA, factsC, factsP, factsR, AV.facts, RW.facts, inK, and_true, Q.holds', E.i, E.s, E.n, D.nat, E.den, BO.den, UO.den, TO.den, D.toInt_int, D.toList_list, D.ints_ofInts, i64min, i64max, u8min, u8max, u16min, u16max, u32min, u32max, u64min, u64max, i32min, i32max, Om.sub, selI, ints_app, ints_cut, ints_upd, ints_rep, ints_splice, ints_seg, len_ints]
                all_goals (first | exact True.intro | omega | (and_intros <;> first | exact True.intro | omega | (rfl; done)))
              · simp only [wRT_h4_0, wRT_h4_1, wRT_h4_2, wRT_h4_4, allTold', dutiesTold, factsA, factsC, factsP, factsR, AV.facts, RW.facts, inK, and_true, Q.holds', E.i, E.s, E.n, D.nat, E.den, BO.den, UO.den, TO.den, D.toInt_int, D.toList_list, D.ints_ofInts, i64min, i64max, u8min, u8max, u16min, u16max, u32min, u32max, u64min, u64max, i32min, i32max, Om.sub, selI, ints_app, ints_cut, ints_upd, ints_rep, ints_splice, ints_seg, len_ints]
                omega
            · by_cases k3 : K = 3
              · refine ⟨tellA wRT_t5, tellA_ok (allTold'_iff.1 ?_), .inr ⟨3, wRT_h5, _, _, by decide, wRT_y5, dutiesTold_ok ?_, allTold'_iff.1 ?_, ?_⟩⟩
                · simp only [wRT_t5, ints_list, List.map_append, List.map_drop, List.map_take, map_ints, z0, z1, z3, hX, hB, hN, hK, F1, F2, F3, F6, F40, F30, hlc, hc2, hq2, hi, allTold', dutiesTold, factsA, factsC, factsP, factsR, AV.facts, RW.facts, inK, and_true, Q.holds', E.i, E.s, E.n, D.nat, E.den, BO.den, UO.den, TO.den, D.toInt_int, D.toList_list, D.ints_ofInts, i64min, i64max, u8min, u8max, u16min, u16max, u32min, u32max, u64min, u64max, i32min, i32max, Om.sub, selI, ints_app, ints_cut, ints_upd, ints_rep, ints_splice, ints_seg, len_ints]
                  all_goals (first | exact True.intro | omega | (and_intros <;> first | exact True.intro | omega | (rfl; done)))
                · simp only [wRT_d5, ints_list, List.map_append, List.map_drop, List.map_take, map_ints, z0, z1, z3, hX, hB, hN, hK, F1, F2, F3, F6, F40, F30, hlc, hc2, hq2, hi, allTold', dutiesTold, factsA, factsC, factsP, factsR, AV.facts, RW.facts, inK, and_true, Q.holds', E.i, E.s, E.n, D.nat, E.den, BO.den, UO.den, TO.den, D.toInt_int, D.toList_list, D.ints_ofInts, i64min, i64max, u8min, u8max, u16min, u16max, u32min, u32max, u64min, u64max, i32min, i32max, Om.sub, selI, ints_app, ints_cut, ints_upd, ints_rep, ints_splice, ints_seg, len_ints]
                  all_goals (first | exact True.intro | omega | (and_intros <;> first | exact True.intro | omega | (rfl; done)))
                · simp only [writesF, wNF, wNT, wRF, wRT, wRT_h5_0, wRT_h5_1, wRT_h5_2, wRT_h5_4, ints_list, List.map_append, List.map_drop, List.map_take, map_ints, z0, z1, z3, hX, hB, hN, hK, F1, F2, F3, F6, F40, F30, hlc, hc2, hq2, hi, allTold', dutiesTold, factsA, factsC, factsP, factsR, AV.facts, RW.facts, inK, and_true, Q.holds', E.i, E.s, E.n, D.nat, E.den, BO.den, UO.den, TO.den, D.toInt_int, D.toList_list, D.ints_ofInts, i64min, i64max, u8min, u8max, u16min, u16max, u32min, u32max, u64min, u64max, i32min, i32max, Om.sub, selI, ints_app, ints_cut, ints_upd, ints_rep, ints_splice, ints_seg, len_ints]
                  all_goals (first | exact True.intro | omega | (and_intros <;> first | exact True.intro | omega | (rfl; done)))
                · simp only [wRT_h5_0, wRT_h5_1, wRT_h5_2, wRT_h5_4, allTold', dutiesTold, factsA, factsC, factsP, factsR, AV.facts, RW.facts, inK, and_true, Q.holds', E.i, E.s, E.n, D.nat, E.den, BO.den, UO.den, TO.den, D.toInt_int, D.toList_list, D.ints_ofInts, i64min, i64max, u8min, u8max, u16min, u16max, u32min, u32max, u64min, u64max, i32min, i32max, Om.sub, selI, ints_app, ints_cut, ints_upd, ints_rep, ints_splice, ints_seg, len_ints]
                  omega
              · refine ⟨tellA wRT_t6, tellA_ok (allTold'_iff.1 ?_), .inr ⟨3, wRT_h6, _, _, by decide, wRT_y6, dutiesTold_ok ?_, allTold'_iff.1 ?_, ?_⟩⟩
                · simp only [wRT_t6, ints_list, List.map_append, List.map_drop, List.map_take, map_ints, z0, z1, z3, hX, hB, hN, hK, F1, F2, F3, F6, F40, F30, hlc, hc2, hq2, hi, allTold', dutiesTold, factsA, factsC, factsP, factsR, AV.facts, RW.facts, inK, and_true, Q.holds', E.i, E.s, E.n, D.nat, E.den, BO.den, UO.den, TO.den, D.toInt_int, D.toList_list, D.ints_ofInts, i64min, i64max, u8min, u8max, u16min, u16max, u32min, u32max, u64min, u64max, i32min, i32max, Om.sub, selI, ints_app, ints_cut, ints_upd, ints_rep, ints_splice, ints_seg, len_ints]
                  all_goals (first | exact True.intro | omega | (and_intros <;> first | exact True.intro | omega | (rfl; done)))
                · simp only [wRT_d6, ints_list, List.map_append, List.map_drop, List.map_take, map_ints, z0, z1, z3, hX, hB, hN, hK, F1, F2, F3, F6, F40, F30, hlc, hc2, hq2, hi, allTold', dutiesTold, factsA, factsC, factsP, factsR, AV.facts, RW.facts, inK, and_true, Q.holds', E.i, E.s, E.n, D.nat, E.den, BO.den, UO.den, TO.den, D.toInt_int, D.toList_list, D.ints_ofInts, i64min, i64max, u8min, u8max, u16min, u16max, u32min, u32max, u64min, u64max, i32min, i32max, Om.sub, selI, ints_app, ints_cut, ints_upd, ints_rep, ints_splice, ints_seg, len_ints]
                  all_goals (first | exact True.intro | omega | (and_intros <;> first | exact True.intro | omega | (rfl; done)))
                · simp only [writesF, wNF, wNT, wRF, wRT, wRT_h6_0, wRT_h6_1, wRT_h6_2, wRT_h6_4, ints_list, List.map_append, List.map_drop, List.map_take, map_ints, z0, z1, z3, hX, hB, hN, hK, F1, F2, F3, F6, F40, F30, hlc, hc2, hq2, hi, allTold', dutiesTold, factsA, factsC, factsP, factsR, AV.facts, RW.facts, inK, and_true, Q.holds', E.i, E.s, E.n, D.nat, E.den, BO.den, UO.den, TO.den, D.toInt_int, D.toList_list, D.ints_ofInts, i64min, i64max, u8min, u8max, u16min, u16max, u32min, u32max, u64min, u64max, i32min, i32max, Om.sub, selI, ints_app, ints_cut, ints_upd, ints_rep, ints_splice, ints_seg, len_ints]
                  all_goals (first | exact True.intro | omega | (and_intros <;> first | exact True.intro | omega | (rfl; done)))
                · simp only [wRT_h6_0, wRT_h6_1, wRT_h6_2, wRT_h6_4, allTold', dutiesTold, factsA, factsC, factsP, factsR, AV.facts, RW.facts, inK, and_true, Q.holds', E.i, E.s, E.n, D.nat, E.den, BO.den, UO.den, TO.den, D.toInt_int, D.toList_list, D.ints_ofInts, i64min, i64max, u8min, u8max, u16min, u16max, u32min, u32max, u64min, u64max, i32min, i32max, Om.sub, selI, ints_app, ints_cut, ints_upd, ints_rep, ints_splice, ints_seg, len_ints]
                  omega
theorem wNF_holds : LHolds Try.prog (loopAt Try.prog 3 [4, 1, 0, 1, 1, 1, 1, 1]) wNF F := writesF_holds 0 (by decide)
theorem wNT_holds : LHolds Try.prog (loopAt Try.prog 3 [4, 1, 0, 1, 1, 1, 1, 1]) wNT F := writesF_holds 1 (by decide)
theorem wRF_holds : LHolds Try.prog (loopAt Try.prog 3 [4, 1, 0, 1, 1, 1, 1, 1]) wRF F := writesF_holds 2 (by decide)
theorem wRT_holds : LHolds Try.prog (loopAt Try.prog 3 [4, 1, 0, 1, 1, 1, 1, 1]) wRT F := writesF_holds 3 (by decide)

def tab : List LEntry := [⟨18, [4, 1, 1], overL⟩, ⟨6, [4, 1, 0, 1, 1], largeL⟩, ⟨3, [4, 1, 0, 1, 1, 1, 1, 1], wNF⟩, ⟨3, [4, 1, 0, 1, 1, 1, 1, 1], wNT⟩, ⟨3, [4, 1, 0, 1, 1, 1, 1, 1], wRF⟩, ⟨3, [4, 1, 0, 1, 1, 1, 1, 1], wRT⟩]
def specs : List (FuncId × CSpec) := [(46, partsC), (7, awakeC), (22, sizeP), (23, sizeR), (47, putR), (47, putBad), (8, lentV), (17, keptV)]
def overs : Overs := [(18, 5, .u8)]
theorem tab_ok : TableOK Try.prog tab F := tableCons overL_holds (tableCons largeL_holds (tableCons wNF_holds (tableCons wNT_holds (tableCons wRF_holds (tableCons wRT_holds (tableNil _ _))))))
theorem specs_ok : SpecsOK Try.prog specs F := specsCons partsC_holds (specsCons awakeC_holds (specsCons sizeP_holds (specsCons sizeR_holds (specsCons putR_holds (specsCons putBad_holds (specsCons lentV_holds (specsCons keptV_holds (specsNil _ _))))))))
theorem overs_ok : OversOK Try.prog overs F := oversCons overV_holds (oversNil _ _)
def tabB : List LEntry := []
def specsB : List (FuncId × CSpec) := [(46, partsC)]
def oversB : Overs := []
theorem tabB_ok : TableOK Try.prog tabB F := tableNil _ _
theorem specsB_ok : SpecsOK Try.prog specsB F := specsCons partsC_holds (specsNil _ _)
theorem oversB_ok : OversOK Try.prog oversB F := oversNil _ _
end Go.Proofs.Ytoglpfjcdeaggaa.Wb
