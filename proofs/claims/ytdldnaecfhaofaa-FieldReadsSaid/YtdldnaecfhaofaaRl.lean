/-
  Contracts of this seat: what loops and calls leave, for all inputs. No condition.
-/
import Derived.Test.YtdldnaecfhaofaaSycp
import Derived.Test.YtdldnaecfhaofaaCo
import Derived.Test.YtdldnaecfhaofaaRa
import Derived.Test.YtdldnaecfhaofaaRx
set_option linter.unusedSimpArgs false
set_option linter.unusedVariables false
namespace Go.Proofs.Ytdldnaecfhaofaa.Rl
open Go.RowKit Go.Ev Go.Proofs.Ytdldnaecfhaofaa.Co

open Go.Proofs.Ytdldnaecfhaofaa.Ra
open Go.Proofs.Ytdldnaecfhaofaa.Rx

theorem lent_cut (x : List Int) : List.drop 0 (List.take (x.length : Int).toNat (lentI (prt x 0 x.length))) = x := by
  have e : prt x 0 x.length = x := by
    unfold prt
    rw [List.take_of_length_le (by omega)]
    rfl
  rw [e]
  unfold lentI
  rw [List.take_append_of_le_length (by omega), List.take_of_length_le (by omega)]
  rfl

abbrev txRl0 : E := (.bi .sel (.bi .sel (.var 0) (.var 2)) (.int 3))
abbrev txRl1 : E := (.bi .sel (.bi .sel (.var 0) (.var 1)) (.int 0))
abbrev txRl2 : E := (.bi .sel (.bi .sel (.var 0) (.var 1)) (.int 2))
abbrev txRl3 : E := (.bi .sel (.bi .sel (.var 0) (.var 1)) (.int 1))
abbrev txRl4 : E := (.bi .pair (.var 0) (.bi .pair (.var 2) (.int 0)))
abbrev txRl5 : E := (.bi .pair (.var 9) (.bi .pair (.var 10) (.int 0)))
abbrev txRl6 : E := (.bi .pair txRl3 (.bi .pair (.int 5) (.int 0)))
abbrev txRl7 : E := (.bi .pair txRl3 (.bi .pair (.int 3) (.int 0)))
abbrev txRl8 : E := (.bi .pair (.var 10) (.bi .pair txRl3 (.int 0)))
abbrev txRl9 : E := (.bi .pair (.var 5) (.bi .pair (.var 2) txRl5))
abbrev txRl10 : E := (.bi .pair (.var 2) (.bi .pair (.var 9) txRl8))
abbrev txRl11 : E := (.bi .pair (.var 10) (.bi .pair (.int 0) txRl7))
abbrev txRl12 : E := (.bi .pair (.var 10) (.bi .pair txRl2 txRl6))
abbrev txRl13 : E := (.bi .pair (.var 4) (.bi .pair (.var 5) txRl10))
abbrev txRl14 : E := (.bi .pair (.var 2) (.bi .pair (.var 9) txRl11))
abbrev txRl15 : E := (.bi .pair (.var 2) (.bi .pair (.var 9) txRl12))
abbrev txRl16 : E := (.bi .pair (.var 4) (.bi .pair (.var 5) txRl14))
abbrev txRl17 : E := (.bi .pair (.var 4) (.bi .pair (.var 5) txRl15))
def overL : LSpec := { n := 22, next := 1, pat := [(3, .sint .i64 (.var 2)), (2, .sslice 1 (.int 0) (.var 0) (.var 0) false)], rows := [(1, .seq ⟨5, .u8, .var 0, .var 1, false, false⟩)], pre := [(.le (.int 0) (.var 2), true), (.le (.var 2) (.var 0), true), (.le (.var 0) (.int 9223372036854775807), true)], x := 0, fin := [], frows := [], same := [], chg := [2, 3, 8, 9, 10, 11, 12, 13, 14, 15, 16, 17, 18, 19, 20, 21] }
abbrev asRl0 : Q × Bool := ((.fit .i64 (.var 0)), true)
abbrev asRl1 : Q × Bool := ((.le (.var 0) (.var 2)), false)
abbrev asRl2 : Q × Bool := ((.le (.int 0) (.var 2)), true)
abbrev asRl3 : Q × Bool := ((.fit .i64 (.bi .add (.var 2) (.int 1))), true)
def overL_t0 : List (Q × Bool) := [asRl0, asRl1, asRl2, asRl3]
def overL_d0 : List Duty := []
def overL_h0 : List (Nat × E) := [(1, (.tr .upd (.var 1) (.var 2) (.bi (.iop .xor .u8) (.bi .sel (.var 1) (.var 2)) (.int 90)))), (0, (.var 0)), (2, (.bi .add (.var 2) (.int 1)))]
theorem overL_h0_0 : lookE overL_h0 0 = (.var 0) := rfl
theorem overL_h0_1 : lookE overL_h0 1 = (.tr .upd (.var 1) (.var 2) (.bi (.iop .xor .u8) (.bi .sel (.var 1) (.var 2)) (.int 90))) := rfl
theorem overL_h0_2 : lookE overL_h0 2 = (.bi .add (.var 2) (.int 1)) := rfl
theorem overL_y0 : nextD overL overL_h0 [(1, 1)] (roundC Try.prog [] [] [] 3000 40 9 [4, 1, 1] (tellA overL_t0) overL) = some overL_d0 := by kernel_rfl
abbrev asRl4 : Q × Bool := ((.le (.var 0) (.var 2)), true)
def overL_t1 : List (Q × Bool) := [asRl0, asRl4]
def overL_d1 : List Duty := []
theorem overL_y1 : endD overL [(1, 1)] 1000 (roundC Try.prog [] [] [] 3000 40 9 [4, 1, 1] (tellA overL_t1) overL) = some overL_d1 := by kernel_rfl
theorem overL_holds : LHolds Try.prog (loopAt Try.prog 9 [4, 1, 1]) overL F := by
  refine loop_roundsC sound (tableNil _ _) (specsNil _ _) (oversNil _ _) (fuel := 3000) (depth := 40) (by kernel_rfl) (by kernel_rfl) (by kernel_rfl) (fun d => ((d 0).toInt - (d 2).toInt).toNat) fun d hp hR hA => ?_
  have hp := allTold'_iff.2 hp
  simp only [overL, allTold', dutiesTold, factsA, factsC, factsP, factsR, AV.facts, RW.facts, inK, and_true, Q.holds', E.i, E.s, E.n, D.nat, E.den, BO.den, UO.den, TO.den, D.toInt_int, D.toList_list, D.ints_ofInts, i64min, i64max, u8min, u8max, u16min, u16max, u32min, u32max, u64min, u64max, i32min, i32max, Om.sub, selI, ints_app, ints_cut, ints_upd, ints_rep, ints_splice, ints_seg, len_ints] at hp hR hA
  by_cases h : (d 0).toInt ≤ (d 2).toInt
  · refine ⟨tellA overL_t1, tellA_ok (allTold'_iff.1 ?_), .inl ⟨_, _, _, overL_y1, dutiesTold_ok ?_⟩⟩
    · simp only [overL_t1, allTold', dutiesTold, factsA, factsC, factsP, factsR, AV.facts, RW.facts, inK, and_true, Q.holds', E.i, E.s, E.n, D.nat, E.den, BO.den, UO.den, TO.den, D.toInt_int, D.toList_list, D.ints_ofInts, i64min, i64max, u8min, u8max, u16min, u16max, u32min, u32max, u64min, u64max, i32min, i32max, Om.sub, selI, ints_app, ints_cut, ints_upd, ints_rep, ints_splice, ints_seg, len_ints]
      omega
    · simp only [overL_d1, allTold', dutiesTold, factsA, factsC, factsP, factsR, AV.facts, RW.facts, inK, and_true, Q.holds', E.i, E.s, E.n, D.nat, E.den, BO.den, UO.den, TO.den, D.toInt_int, D.toList_list, D.ints_ofInts, i64min, i64max, u8min, u8max, u16min, u16max, u32min, u32max, u64min, u64max, i32min, i32max, Om.sub, selI, ints_app, ints_cut, ints_upd, ints_rep, ints_splice, ints_seg, len_ints]
  · refine ⟨tellA overL_t0, tellA_ok (allTold'_iff.1 ?_), .inr ⟨overL_h0, _, _, overL_y0, dutiesTold_ok ?_, allTold'_iff.1 ?_, ?_⟩⟩
    · simp only [overL_t0, allTold', dutiesTold, factsA, factsC, factsP, factsR, AV.facts, RW.facts, inK, and_true, Q.holds', E.i, E.s, E.n, D.nat, E.den, BO.den, UO.den, TO.den, D.toInt_int, D.toList_list, D.ints_ofInts, i64min, i64max, u8min, u8max, u16min, u16max, u32min, u32max, u64min, u64max, i32min, i32max, Om.sub, selI, ints_app, ints_cut, ints_upd, ints_rep, ints_splice, ints_seg, len_ints]
      omega
    · simp only [overL_d0, allTold', dutiesTold, factsA, factsC, factsP, factsR, AV.facts, RW.facts, inK, and_true, Q.holds', E.i, E.s, E.n, D.nat, E.den, BO.den, UO.den, TO.den, D.toInt_int, D.toList_list, D.ints_ofInts, i64min, i64max, u8min, u8max, u16min, u16max, u32min, u32max, u64min, u64max, i32min, i32max, Om.sub, selI, ints_app, ints_cut, ints_upd, ints_rep, ints_splice, ints_seg, len_ints]
    · simp only [overL, overL_h0_0, overL_h0_1, overL_h0_2, allTold', dutiesTold, factsA, factsC, factsP, factsR, AV.facts, RW.facts, inK, and_true, Q.holds', E.i, E.s, E.n, D.nat, E.den, BO.den, UO.den, TO.den, D.toInt_int, D.toList_list, D.ints_ofInts, i64min, i64max, u8min, u8max, u16min, u16max, u32min, u32max, u64min, u64max, i32min, i32max, Om.sub, selI, ints_app, ints_cut, ints_upd, ints_rep, ints_splice, ints_seg, len_ints]
      omega
    · simp only [overL_h0_0, overL_h0_1, overL_h0_2, allTold', dutiesTold, factsA, factsC, factsP, factsR, AV.facts, RW.facts, inK, and_true, Q.holds', E.i, E.s, E.n, D.nat, E.den, BO.den, UO.den, TO.den, D.toInt_int, D.toList_list, D.ints_ofInts, i64min, i64max, u8min, u8max, u16min, u16max, u32min, u32max, u64min, u64max, i32min, i32max, Om.sub, selI, ints_app, ints_cut, ints_upd, ints_rep, ints_splice, ints_seg, len_ints]
      omega

def overV : CSpec := overC 5 .u8
abbrev asRl5 : Q × Bool := ((.le (.int 0) (.var 0)), true)
abbrev asRl6 : Q × Bool := ((.le (.var 0) (.int 9223372036854775807)), true)
def overV_t0 : List (Q × Bool) := [asRl0, asRl5, asRl6]
def overV_d0 : List Duty := []
theorem overV_y0 : endC overV [] 1000 (callC Try.prog (tellA overV_t0) [⟨9, [4, 1, 1], overL⟩] [] [] 3000 40 9 overV) = some overV_d0 := by kernel_rfl
theorem overV_holds : CHolds Try.prog 9 (overC 5 .u8) F := by
  refine cholds_of sound (tableCons overL_holds (tableNil _ _)) (specsNil _ _) (oversNil _ _) (fuel := 3000) (depth := 40) (by kernel_rfl) fun d hp hR hA => ?_
  have hp := allTold'_iff.2 hp
  simp only [overC, allTold', dutiesTold, factsA, factsC, factsP, factsR, AV.facts, RW.facts, inK, and_true, Q.holds', E.i, E.s, E.n, D.nat, E.den, BO.den, UO.den, TO.den, D.toInt_int, D.toList_list, D.ints_ofInts, i64min, i64max, u8min, u8max, u16min, u16max, u32min, u32max, u64min, u64max, i32min, i32max, Om.sub, selI, ints_app, ints_cut, ints_upd, ints_rep, ints_splice, ints_seg, len_ints] at hp hR hA
  refine ⟨tellA overV_t0, _, _, _, tellA_ok (allTold'_iff.1 ?_), overV_y0, dutiesTold_ok ?_⟩
  · simp only [overV_t0, allTold', dutiesTold, factsA, factsC, factsP, factsR, AV.facts, RW.facts, inK, and_true, Q.holds', E.i, E.s, E.n, D.nat, E.den, BO.den, UO.den, TO.den, D.toInt_int, D.toList_list, D.ints_ofInts, i64min, i64max, u8min, u8max, u16min, u16max, u32min, u32max, u64min, u64max, i32min, i32max, Om.sub, selI, ints_app, ints_cut, ints_upd, ints_rep, ints_splice, ints_seg, len_ints]
    omega
  · simp only [overV_d0, allTold', dutiesTold, factsA, factsC, factsP, factsR, AV.facts, RW.facts, inK, and_true, Q.holds', E.i, E.s, E.n, D.nat, E.den, BO.den, UO.den, TO.den, D.toInt_int, D.toList_list, D.ints_ofInts, i64min, i64max, u8min, u8max, u16min, u16max, u32min, u32max, u64min, u64max, i32min, i32max, Om.sub, selI, ints_app, ints_cut, ints_upd, ints_rep, ints_splice, ints_seg, len_ints]

def lentC : CSpec := { args := [.sslice 3 (.var 1) (.var 2) (.var 3) false], next := 2, rows := [(3, .eseq ⟨.u8, .var 4, .var 5⟩)], pre := [(.le (.bi .add (.var 1) (.var 2)) (.var 4), true), (.le (.var 2) (.int 1000000), true)], res := .sslice 5 (.int 0) (.var 2) (.bi .add (.var 2) (.int 3)) false, frows := [(5, .seq ⟨5, .u8, .bi .add (.var 2) (.int 3), .fn 6 (argsE [.var 5, .var 1, .bi .add (.var 1) (.var 2)]), false, false⟩)], same := [] }
abbrev asRl7 : Q × Bool := ((.fit .i64 (.var 2)), true)
abbrev asRl8 : Q × Bool := ((.fit .i64 (.bi .add (.var 2) (.int 3))), true)
abbrev asRl9 : Q × Bool := ((.le (.int 0) (.bi .add (.var 2) (.int 3))), true)
abbrev asRl10 : Q × Bool := ((.le (.bi .add (.var 2) (.int 3)) (.int 281474976710656)), true)
abbrev asRl11 : Q × Bool := ((.le (.bi .add (.var 2) (.int 3)) (.int 9223372036854775807)), true)
abbrev asRl12 : Q × Bool := ((.le (.bi .add (.var 1) (.var 2)) (.var 4)), true)
abbrev asRl13 : Q × Bool := ((.le (.var 2) (.bi .add (.var 2) (.int 3))), true)
abbrev asRl14 : Q × Bool := ((.le (.bi .add (.var 2) (.int 3)) (.var 2)), false)
abbrev asRl15 : Q × Bool := ((.fit .i64 (.bi .add (.bi (.iop .rem .i64) (.var 2) (.int 90)) (.int 160))), true)
abbrev asRl16 : Q × Bool := ((.le (.bi .add (.var 2) (.int 3)) (.bi .add (.var 2) (.int 1))), false)
abbrev asRl17 : Q × Bool := ((.fit .i64 (.bi .add (.bi (.iop .rem .i64) (.bi .add (.var 2) (.int 1)) (.int 90)) (.int 160))), true)
abbrev asRl18 : Q × Bool := ((.le (.int 0) (.bi .add (.var 2) (.int 1))), true)
abbrev asRl19 : Q × Bool := ((.fit .i64 (.bi .add (.var 2) (.int 2))), true)
abbrev asRl20 : Q × Bool := ((.le (.bi .add (.var 2) (.int 3)) (.bi .add (.var 2) (.int 2))), false)
abbrev asRl21 : Q × Bool := ((.fit .i64 (.bi .add (.bi (.iop .rem .i64) (.bi .add (.var 2) (.int 2)) (.int 90)) (.int 160))), true)
abbrev asRl22 : Q × Bool := ((.le (.int 0) (.bi .add (.var 2) (.int 2))), true)
def lentC_t0 : List (Q × Bool) := [asRl7, asRl8, asRl9, asRl10, asRl11, asRl12, asRl13, asRl14, asRl15, asRl2, asRl3, asRl16, asRl17, asRl18, asRl19, asRl20, asRl21, asRl22]
def lentC_d0 : List Duty := [(false, (.tr .upd (.tr .upd (.tr .upd (.tr .splice (.bi .rep (.bi .add (.var 2) (.int 3)) (.int 0)) (.int 0) (.tr .cut (.var 5) (.var 1) (.bi .add (.var 1) (.var 2)))) (.var 2) (.un (.wrap .u8) (.bi .add (.bi (.iop .rem .i64) (.var 2) (.int 90)) (.int 160)))) (.bi .add (.var 2) (.int 1)) (.un (.wrap .u8) (.bi .add (.bi (.iop .rem .i64) (.bi .add (.var 2) (.int 1)) (.int 90)) (.int 160)))) (.bi .add (.var 2) (.int 2)) (.un (.wrap .u8) (.bi .add (.bi (.iop .rem .i64) (.bi .add (.var 2) (.int 2)) (.int 90)) (.int 160)))), (.fn 6 (.bi .pair (.var 5) (.bi .pair (.var 1) (.bi .pair (.bi .add (.var 1) (.var 2)) (.int 0))))))]
theorem lentC_y0 : endC lentC [(5, 5)] 1000 (callC Try.prog (tellA lentC_t0) [] [] [] 3000 40 6 lentC) = some lentC_d0 := by kernel_rfl
theorem lentC_holds : CHolds Try.prog 6 lentC F := by
  refine cholds_of sound (tableNil _ _) (specsNil _ _) (oversNil _ _) (fuel := 3000) (depth := 40) (by kernel_rfl) fun d hp hR hA => ?_
  have hp := allTold'_iff.2 hp
  simp only [lentC, allTold', dutiesTold, factsA, factsC, factsP, factsR, AV.facts, RW.facts, inK, and_true, Q.holds', E.i, E.s, E.n, D.nat, E.den, BO.den, UO.den, TO.den, D.toInt_int, D.toList_list, D.ints_ofInts, i64min, i64max, u8min, u8max, u16min, u16max, u32min, u32max, u64min, u64max, i32min, i32max, Om.sub, selI, ints_app, ints_cut, ints_upd, ints_rep, ints_splice, ints_seg, len_ints] at hp hR hA
  refine ⟨tellA lentC_t0, _, _, _, tellA_ok (allTold'_iff.1 ?_), lentC_y0, dutiesTold_ok ?_⟩
  · simp only [lentC_t0, allTold', dutiesTold, factsA, factsC, factsP, factsR, AV.facts, RW.facts, inK, and_true, Q.holds', E.i, E.s, E.n, D.nat, E.den, BO.den, UO.den, TO.den, D.toInt_int, D.toList_list, D.ints_ofInts, i64min, i64max, u8min, u8max, u16min, u16max, u32min, u32max, u64min, u64max, i32min, i32max, Om.sub, selI, ints_app, ints_cut, ints_upd, ints_rep, ints_splice, ints_seg, len_ints]
    rw [rem_emod _ (by omega), rem_emod _ (by omega), rem_emod _ (by omega)]
    omega
  · simp only [lentC_d0, F6, ints_list, List.map_set, List.map_append, List.map_drop, List.map_take, List.map_replicate, List.length_drop, map_ints, allTold', dutiesTold, factsA, factsC, factsP, factsR, AV.facts, RW.facts, inK, and_true, Q.holds', E.i, E.s, E.n, D.nat, E.den, BO.den, UO.den, TO.den, D.toInt_int, D.toList_list, D.ints_ofInts, i64min, i64max, u8min, u8max, u16min, u16max, u32min, u32max, u64min, u64max, i32min, i32max, Om.sub, selI, ints_app, ints_cut, ints_upd, ints_rep, ints_splice, ints_seg, len_ints]
    rw [rem_emod _ (by omega), rem_emod _ (by omega), rem_emod _ (by omega)]
    obtain ⟨n, hn⟩ := Int.eq_ofNat_of_zero_le hA.1
    rw [hn] at hp hA ⊢
    have hl := prt_length (x := (d 5).ints) (o := (d 1).toInt) (t := (d 1).toInt + n) (by omega) (by omega) (by omega)
    have e1 : (List.drop (d 1).toInt.toNat (List.take ((d 1).toInt + n).toNat (d 5).ints)) = prt (d 5).ints (d 1).toInt ((d 1).toInt + n) := rfl
    have e2 : (List.take ((d 1).toInt + n).toNat (d 5).toList).length - (d 1).toInt.toNat = (prt (d 5).ints (d 1).toInt ((d 1).toInt + n)).length := by
      rw [← e1]; simp [D.ints]
    have h3 := lent_set (List.replicate (n + 3) 0) (prt (d 5).ints (d 1).toInt ((d 1).toInt + n)) n (by omega)
    rw [show ((n : Int) + 3).toNat = n + 3 by omega, show ((n : Int) + 2).toNat = n + 2 by omega, show ((n : Int) + 1).toNat = n + 1 by omega, show ((n : Int)).toNat = n by omega, show Int.toNat 0 = 0 from rfl, e1, e2, h3]
    unfold lentI markI
    rw [wrap_fit (by simp only [u8min, u8max]; omega), wrap_fit (by simp only [u8min, u8max]; omega), wrap_fit (by simp only [u8min, u8max]; omega)]
    rw [show ((prt (d 5).ints (d 1).toInt ((d 1).toInt + n)).length : Int) = n by omega]
    simp only [Int.add_comm]

def keptC : CSpec := { args := [.sslice 5 (.int 0) (.var 2) (.bi .add (.var 2) (.int 3)) false, .sslice 3 (.var 1) (.var 2) (.var 3) false], next := 3, rows := [(3, .eseq ⟨.u8, .var 4, .var 5⟩), (5, .eseq ⟨.u8, .bi .add (.var 2) (.int 3), .fn 6 (argsE [.var 5, .var 1, .bi .add (.var 1) (.var 2)])⟩)], pre := [(.le (.bi .add (.var 1) (.var 2)) (.var 4), true), (.le (.var 2) (.int 1000000), true)], res := .bool true, frows := [], same := [] }
abbrev asRl23 : Q × Bool := ((.le (.var 2) (.int 1000000)), true)
def keptC_t0 : List (Q × Bool) := [asRl7, asRl8, asRl9, asRl12, asRl23]
def keptC_d0 : List Duty := []
theorem keptC_y0 : endC keptC [] 1000 (callC Try.prog (tellA keptC_t0) [] [(6, lentC)] [] 3000 40 8 keptC) = some keptC_d0 := by kernel_rfl
theorem keptC_holds : CHolds Try.prog 8 keptC F := by
  refine cholds_of sound (tableNil _ _) (specsCons lentC_holds (specsNil _ _)) (oversNil _ _) (fuel := 3000) (depth := 40) (by kernel_rfl) fun d hp hR hA => ?_
  have hp := allTold'_iff.2 hp
  simp only [keptC, allTold', dutiesTold, factsA, factsC, factsP, factsR, AV.facts, RW.facts, inK, and_true, Q.holds', E.i, E.s, E.n, D.nat, E.den, BO.den, UO.den, TO.den, D.toInt_int, D.toList_list, D.ints_ofInts, i64min, i64max, u8min, u8max, u16min, u16max, u32min, u32max, u64min, u64max, i32min, i32max, Om.sub, selI, ints_app, ints_cut, ints_upd, ints_rep, ints_splice, ints_seg, len_ints] at hp hR hA
  refine ⟨tellA keptC_t0, _, _, _, tellA_ok (allTold'_iff.1 ?_), keptC_y0, dutiesTold_ok ?_⟩
  · simp only [keptC_t0, allTold', dutiesTold, factsA, factsC, factsP, factsR, AV.facts, RW.facts, inK, and_true, Q.holds', E.i, E.s, E.n, D.nat, E.den, BO.den, UO.den, TO.den, D.toInt_int, D.toList_list, D.ints_ofInts, i64min, i64max, u8min, u8max, u16min, u16max, u32min, u32max, u64min, u64max, i32min, i32max, Om.sub, selI, ints_app, ints_cut, ints_upd, ints_rep, ints_splice, ints_seg, len_ints]
    omega
  · simp only [keptC_d0, allTold', dutiesTold, factsA, factsC, factsP, factsR, AV.facts, RW.facts, inK, and_true, Q.holds', E.i, E.s, E.n, D.nat, E.den, BO.den, UO.den, TO.den, D.toInt_int, D.toList_list, D.ints_ofInts, i64min, i64max, u8min, u8max, u16min, u16max, u32min, u32max, u64min, u64max, i32min, i32max, Om.sub, selI, ints_app, ints_cut, ints_upd, ints_rep, ints_splice, ints_seg, len_ints]

def largeL : LSpec := { n := 30, next := 0, pat := [(0, .pv (.agg [.int .i64, .int .i64, .int .i64, .sl (.int .u8), .agg [.int .u8, .int .u8, .int .u8, .int .u8, .int .u8, .int .u8, .int .u8, .int .u8, .int .u8, .int .u8, .int .u8, .int .u8, .int .u8, .int .u8, .int .u8, .int .u8]]) (.var 0)), (3, .sint .i64 (.var 1)), (4, .sint .i64 (.var 2))], rows := [], pre := [(.le (.int 0) (.var 2), true), (.le (.var 2) (.int 41), true), (.le (.int 0) (.var 1), true), (.le (.int 0) (.fn 30 txRl4), true), (.le (.bi .add (.var 1) (.fn 30 txRl4)) (.int 4611686018427387904), true), (.le (.un .len (.var 0)) (.int 9223372036854775807), true)], x := 0, fin := [(3, .sint .i64 (.bi .add (.var 1) (.fn 30 txRl4))), (0, .pv (.agg [.int .i64, .int .i64, .int .i64, .sl (.int .u8), .agg [.int .u8, .int .u8, .int .u8, .int .u8, .int .u8, .int .u8, .int .u8, .int .u8, .int .u8, .int .u8, .int .u8, .int .u8, .int .u8, .int .u8, .int .u8, .int .u8]]) (.var 0))], frows := [], same := [], chg := [0, 3, 4, 5, 6, 7, 8, 9, 10, 11, 12, 13, 14, 15, 16, 17, 18, 19, 20, 21, 22] }
abbrev asRl24 : Q × Bool := ((.fit .i64 (.un .len (.var 0))), true)
abbrev asRl25 : Q × Bool := ((.le (.un .len (.var 0)) (.var 2)), false)
abbrev asRl26 : Q × Bool := ((.le (.int 41) (.var 2)), false)
abbrev asRl27 : Q × Bool := ((.fit .i64 (.un .len txRl0)), true)
abbrev asRl28 : Q × Bool := ((.fit .i64 (.bi .add (.var 1) (.un .len txRl0))), true)
def largeL_t0 : List (Q × Bool) := [asRl24, asRl25, asRl26, asRl2, asRl27, asRl28, asRl3]
def largeL_d0 : List Duty := [(true, (.bi .add (.bi .add (.var 1) (.un .len txRl0)) (.fn 30 (.bi .pair (.var 0) (.bi .pair (.bi .add (.var 2) (.int 1)) (.int 0))))), (.bi .add (.var 1) (.fn 30 txRl4)))]
def largeL_h0 : List (Nat × E) := [(2, (.bi .add (.var 2) (.int 1))), (1, (.bi .add (.var 1) (.un .len txRl0))), (0, (.var 0))]
theorem largeL_h0_0 : lookE largeL_h0 0 = (.var 0) := rfl
theorem largeL_h0_1 : lookE largeL_h0 1 = (.bi .add (.var 1) (.un .len txRl0)) := rfl
theorem largeL_h0_2 : lookE largeL_h0 2 = (.bi .add (.var 2) (.int 1)) := rfl
theorem largeL_y0 : nextD largeL largeL_h0 [] (roundC Try.prog [] [] [] 3000 40 4 [4, 1, 0, 1, 1] (tellA largeL_t0) largeL) = some largeL_d0 := by kernel_rfl
abbrev asRl29 : Q × Bool := ((.le (.un .len (.var 0)) (.var 2)), true)
def largeL_t1 : List (Q × Bool) := [asRl24, asRl29]
def largeL_d1 : List Duty := [(true, (.var 1), (.bi .add (.var 1) (.fn 30 txRl4)))]
theorem largeL_y1 : endD largeL [] 1000 (roundC Try.prog [] [] [] 3000 40 4 [4, 1, 0, 1, 1] (tellA largeL_t1) largeL) = some largeL_d1 := by kernel_rfl
abbrev asRl30 : Q × Bool := ((.le (.int 41) (.var 2)), true)
def largeL_t2 : List (Q × Bool) := [asRl24, asRl25, asRl30]
def largeL_d2 : List Duty := [(true, (.var 1), (.bi .add (.var 1) (.fn 30 txRl4)))]
theorem largeL_y2 : endD largeL [] 1000 (roundC Try.prog [] [] [] 3000 40 4 [4, 1, 0, 1, 1] (tellA largeL_t2) largeL) = some largeL_d2 := by kernel_rfl
theorem largeL_holds : LHolds Try.prog (loopAt Try.prog 4 [4, 1, 0, 1, 1]) largeL F := by
  refine loop_roundsC sound (tableNil _ _) (specsNil _ _) (oversNil _ _) (fuel := 3000) (depth := 40) (by kernel_rfl) (by kernel_rfl) (by kernel_rfl) (fun d => (41 - (d 2).toInt).toNat) fun d hp hR hA => ?_
  have hp := allTold'_iff.2 hp
  simp only [largeL, allTold', dutiesTold, factsA, factsC, factsP, factsR, AV.facts, RW.facts, inK, and_true, Q.holds', E.i, E.s, E.n, D.nat, E.den, BO.den, UO.den, TO.den, D.toInt_int, D.toList_list, D.ints_ofInts, i64min, i64max, u8min, u8max, u16min, u16max, u32min, u32max, u64min, u64max, i32min, i32max, Om.sub, selI, ints_app, ints_cut, ints_upd, ints_rep, ints_splice, ints_seg, len_ints] at hp hR hA
  simp only [F30, allTold', dutiesTold, factsA, factsC, factsP, factsR, AV.facts, RW.facts, inK, and_true, Q.holds', E.i, E.s, E.n, D.nat, E.den, BO.den, UO.den, TO.den, D.toInt_int, D.toList_list, D.ints_ofInts, i64min, i64max, u8min, u8max, u16min, u16max, u32min, u32max, u64min, u64max, i32min, i32max, Om.sub, selI, ints_app, ints_cut, ints_upd, ints_rep, ints_splice, ints_seg, len_ints] at hp
  have g0 : (d 0).ints.length = (d 0).toList.length := (len_ints _).symm
  have z3 : Int.toNat 3 = 3 := rfl
  have hnn := lens_nn (((d 0).toList.take 41).drop (d 2).toInt.toNat)
  by_cases h : ((d 0).toList.length : Int) ≤ (d 2).toInt
  · refine ⟨tellA largeL_t1, tellA_ok (allTold'_iff.1 ?_), .inl ⟨_, _, _, largeL_y1, dutiesTold_ok ?_⟩⟩
    · simp only [largeL_t1, allTold', dutiesTold, factsA, factsC, factsP, factsR, AV.facts, RW.facts, inK, and_true, Q.holds', E.i, E.s, E.n, D.nat, E.den, BO.den, UO.den, TO.den, D.toInt_int, D.toList_list, D.ints_ofInts, i64min, i64max, u8min, u8max, u16min, u16max, u32min, u32max, u64min, u64max, i32min, i32max, Om.sub, selI, ints_app, ints_cut, ints_upd, ints_rep, ints_splice, ints_seg, len_ints]
      omega
    · simp only [largeL_d1, F30, allTold', dutiesTold, factsA, factsC, factsP, factsR, AV.facts, RW.facts, inK, and_true, Q.holds', E.i, E.s, E.n, D.nat, E.den, BO.den, UO.den, TO.den, D.toInt_int, D.toList_list, D.ints_ofInts, i64min, i64max, u8min, u8max, u16min, u16max, u32min, u32max, u64min, u64max, i32min, i32max, Om.sub, selI, ints_app, ints_cut, ints_upd, ints_rep, ints_splice, ints_seg, len_ints]
      rw [lens_end (.inl (by omega))]
      omega
  · by_cases h2 : 41 ≤ (d 2).toInt
    · refine ⟨tellA largeL_t2, tellA_ok (allTold'_iff.1 ?_), .inl ⟨_, _, _, largeL_y2, dutiesTold_ok ?_⟩⟩
      · simp only [largeL_t2, allTold', dutiesTold, factsA, factsC, factsP, factsR, AV.facts, RW.facts, inK, and_true, Q.holds', E.i, E.s, E.n, D.nat, E.den, BO.den, UO.den, TO.den, D.toInt_int, D.toList_list, D.ints_ofInts, i64min, i64max, u8min, u8max, u16min, u16max, u32min, u32max, u64min, u64max, i32min, i32max, Om.sub, selI, ints_app, ints_cut, ints_upd, ints_rep, ints_splice, ints_seg, len_ints]
        omega
      · simp only [largeL_d2, F30, allTold', dutiesTold, factsA, factsC, factsP, factsR, AV.facts, RW.facts, inK, and_true, Q.holds', E.i, E.s, E.n, D.nat, E.den, BO.den, UO.den, TO.den, D.toInt_int, D.toList_list, D.ints_ofInts, i64min, i64max, u8min, u8max, u16min, u16max, u32min, u32max, u64min, u64max, i32min, i32max, Om.sub, selI, ints_app, ints_cut, ints_upd, ints_rep, ints_splice, ints_seg, len_ints]
        rw [lens_end (.inr (by omega))]
        omega
    · have e := lens_step (l := (d 0).toList) (i := (d 2).toInt.toNat) (by omega) (by omega)
      have hnn2 := lens_nn (((d 0).toList.take 41).drop ((d 2).toInt.toNat + 1))
      have hi : ((d 2).toInt + 1).toNat = (d 2).toInt.toNat + 1 := by omega
      generalize hX : (d 0).toList[(d 2).toInt.toNat]?.getD (D.int 0) = X at *
      generalize hB : X.toList[3]?.getD (D.int 0) = B at *
      have g1 : B.ints.length = B.toList.length := (len_ints _).symm
      refine ⟨tellA largeL_t0, tellA_ok (allTold'_iff.1 ?_), .inr ⟨largeL_h0, _, _, largeL_y0, dutiesTold_ok ?_, allTold'_iff.1 ?_, ?_⟩⟩
      · simp only [largeL_t0, z3, hX, hB, allTold', dutiesTold, factsA, factsC, factsP, factsR, AV.facts, RW.facts, inK, and_true, Q.holds', E.i, E.s, E.n, D.nat, E.den, BO.den, UO.den, TO.den, D.toInt_int, D.toList_list, D.ints_ofInts, i64min, i64max, u8min, u8max, u16min, u16max, u32min, u32max, u64min, u64max, i32min, i32max, Om.sub, selI, ints_app, ints_cut, ints_upd, ints_rep, ints_splice, ints_seg, len_ints]
        omega
      · simp only [largeL_d0, F30, z3, hX, hB, hi, allTold', dutiesTold, factsA, factsC, factsP, factsR, AV.facts, RW.facts, inK, and_true, Q.holds', E.i, E.s, E.n, D.nat, E.den, BO.den, UO.den, TO.den, D.toInt_int, D.toList_list, D.ints_ofInts, i64min, i64max, u8min, u8max, u16min, u16max, u32min, u32max, u64min, u64max, i32min, i32max, Om.sub, selI, ints_app, ints_cut, ints_upd, ints_rep, ints_splice, ints_seg, len_ints]
        omega
      · simp only [largeL, largeL_h0_0, largeL_h0_1, largeL_h0_2, F30, z3, hX, hB, hi, allTold', dutiesTold, factsA, factsC, factsP, factsR, AV.facts, RW.facts, inK, and_true, Q.holds', E.i, E.s, E.n, D.nat, E.den, BO.den, UO.den, TO.den, D.toInt_int, D.toList_list, D.ints_ofInts, i64min, i64max, u8min, u8max, u16min, u16max, u32min, u32max, u64min, u64max, i32min, i32max, Om.sub, selI, ints_app, ints_cut, ints_upd, ints_rep, ints_splice, ints_seg, len_ints]
        omega
      · simp only [largeL_h0_0, largeL_h0_1, largeL_h0_2, allTold', dutiesTold, factsA, factsC, factsP, factsR, AV.facts, RW.facts, inK, and_true, Q.holds', E.i, E.s, E.n, D.nat, E.den, BO.den, UO.den, TO.den, D.toInt_int, D.toList_list, D.ints_ofInts, i64min, i64max, u8min, u8max, u16min, u16max, u32min, u32max, u64min, u64max, i32min, i32max, Om.sub, selI, ints_app, ints_cut, ints_upd, ints_rep, ints_splice, ints_seg, len_ints]
        omega

def readsL : LSpec := { n := 169, next := 4, pat := [(1, .pv (.agg [.int .i64, .int .i64, .int .i64, .sl (.int .u8), .agg [.int .u8, .int .u8, .int .u8, .int .u8, .int .u8, .int .u8, .int .u8, .int .u8, .int .u8, .int .u8, .int .u8, .int .u8, .int .u8, .int .u8, .int .u8, .int .u8]]) (.var 0)), (6, .ptr 1 0), (7, .ptr 3 0), (8, .sint .i64 (.var 1))], rows := [(1, .cells 53 0 false false [.ptr 1 0, .sslice 5 (.int 0) (.var 2) (.var 2) true, .sint .i64 (.var 5), .sint .i64 (.var 9), .sint .i64 (.var 10)]), (3, .cells 47 0 false false [.sslice 7 (.int 0) (.var 2) (.var 3) false, .sint .i64 (.var 5), .sint .i64 (.var 9), .sint .i64 (.var 10)]), (5, .seq ⟨5, .u8, .var 2, .var 4, true, false⟩), (7, .eseq ⟨.u8, .var 2, .var 4⟩)], pre := [(.le (.int 0) (.var 1), true), (.le (.var 1) (.un .len (.var 0)), true), (.le (.un .len (.var 0)) (.int 40), true), (.le (.int 0) (.var 5), true), (.le (.var 5) (.var 2), true), (.le (.int 1) (.var 2), true), (.le (.var 2) (.int 2000), true), (.le (.var 2) (.var 3), true)], x := 0, fin := [], frows := [], same := [1, 3], chg := [1, 6, 7, 8, 9, 10, 35, 36, 37, 38, 39, 40, 41, 42, 43, 44, 45, 46, 47, 48, 49, 50, 51, 52, 53, 54, 55, 56, 57, 58, 59, 60, 61, 62, 63, 64, 65, 66, 67, 68, 69, 70, 71, 72, 73, 74, 75, 76, 77, 78, 79, 80, 81, 82, 83, 84, 85, 86, 87, 88, 89, 90, 91, 92, 93, 94, 95, 96, 97, 98, 99, 100, 101, 102, 103, 104, 105, 106, 107, 108, 109, 110, 111, 112, 113, 114, 115, 116, 117, 118, 119, 120, 121, 122, 123, 124, 125, 126, 127, 128, 129, 130, 131, 132, 133, 134, 135, 136, 137, 138, 139, 140, 141, 142, 143, 144, 145, 146, 147, 148, 149, 150, 151, 152, 153, 154, 155, 156, 157, 158, 159, 160, 161, 162, 163, 164, 165, 166, 167] }
abbrev asRl31 : Q × Bool := ((.le (.un .len (.var 0)) (.var 1)), false)
abbrev asRl32 : Q × Bool := ((.le (.int 0) (.var 1)), true)
abbrev asRl33 : Q × Bool := ((.eq txRl1 (.int 0)), true)
abbrev asRl34 : Q × Bool := ((.le (.int 0) (.var 5)), true)
abbrev asRl35 : Q × Bool := ((.le (.var 5) (.var 2)), true)
abbrev asRl36 : Q × Bool := ((.le (.var 2) (.var 3)), true)
abbrev asRl37 : Q × Bool := ((.le (.int 1) (.var 3)), true)
abbrev asRl38 : Q × Bool := ((.fit .i64 (.bi .sub (.var 2) (.fn 51 txRl17))), true)
abbrev asRl39 : Q × Bool := ((.le (.int 0) (.fn 51 txRl17)), true)
abbrev asRl40 : Q × Bool := ((.le (.fn 51 txRl17) (.var 2)), true)
abbrev asRl41 : Q × Bool := ((.fit .i64 (.bi .add (.var 1) (.int 1))), true)
def readsL_t0 : List (Q × Bool) := [asRl24, asRl31, asRl32, asRl33, asRl34, asRl35, asRl23, asRl36, asRl37, asRl7, asRl38, asRl39, asRl40, asRl41]
def readsL_d0 : List Duty := []
def readsL_h0 : List (Nat × E) := [(4, (.var 4)), (3, (.var 3)), (10, (.fn 53 txRl17)), (9, (.fn 52 txRl17)), (5, (.fn 51 txRl17)), (2, (.var 2)), (1, (.bi .add (.var 1) (.int 1))), (0, (.var 0))]
theorem readsL_h0_0 : lookE readsL_h0 0 = (.var 0) := rfl
theorem readsL_h0_1 : lookE readsL_h0 1 = (.bi .add (.var 1) (.int 1)) := rfl
theorem readsL_h0_2 : lookE readsL_h0 2 = (.var 2) := rfl
theorem readsL_h0_3 : lookE readsL_h0 3 = (.var 3) := rfl
theorem readsL_h0_4 : lookE readsL_h0 4 = (.var 4) := rfl
theorem readsL_h0_5 : lookE readsL_h0 5 = (.fn 51 txRl17) := rfl
theorem readsL_h0_9 : lookE readsL_h0 9 = (.fn 52 txRl17) := rfl
theorem readsL_h0_10 : lookE readsL_h0 10 = (.fn 53 txRl17) := rfl
theorem readsL_y0 : nextD readsL readsL_h0 [(7, 7), (5, 5), (3, 3), (1, 1)] (roundC Try.prog [⟨9, [4, 1, 1], overL⟩] [(11, intP), (20, countP), (13, bytesP), (13, bytesN), (16, textP), (18, idP), (26, endP), (36, numberR), (15, bytesR), (15, bytesRN), (17, textR), (19, idR), (27, endR)] [(9, 5, .u8)] 3000 40 3 [4, 1, 0, 1, 1, 1, 1, 1, 1, 1] (tellA readsL_t0) readsL) = some readsL_d0 := by kernel_rfl
abbrev asRl42 : Q × Bool := ((.eq txRl1 (.int 0)), false)
abbrev asRl43 : Q × Bool := ((.eq txRl1 (.int 1)), true)
abbrev asRl44 : Q × Bool := ((.eq (.fn 56 txRl13) (.int 0)), true)
abbrev asRl45 : Q × Bool := ((.fit .i64 (.bi .sub (.var 2) (.fn 55 txRl13))), true)
abbrev asRl46 : Q × Bool := ((.le (.int 0) (.fn 55 txRl13)), true)
abbrev asRl47 : Q × Bool := ((.le (.fn 55 txRl13) (.var 2)), true)
def readsL_t1 : List (Q × Bool) := [asRl24, asRl31, asRl32, asRl42, asRl43, asRl34, asRl35, asRl23, asRl44, asRl36, asRl37, asRl7, asRl45, asRl46, asRl47, asRl41]
def readsL_d1 : List Duty := []
def readsL_h1 : List (Nat × E) := [(4, (.var 4)), (3, (.var 3)), (10, (.fn 57 txRl13)), (9, (.fn 56 txRl13)), (5, (.fn 55 txRl13)), (2, (.var 2)), (1, (.bi .add (.var 1) (.int 1))), (0, (.var 0))]
theorem readsL_h1_0 : lookE readsL_h1 0 = (.var 0) := rfl
theorem readsL_h1_1 : lookE readsL_h1 1 = (.bi .add (.var 1) (.int 1)) := rfl
theorem readsL_h1_2 : lookE readsL_h1 2 = (.var 2) := rfl
theorem readsL_h1_3 : lookE readsL_h1 3 = (.var 3) := rfl
theorem readsL_h1_4 : lookE readsL_h1 4 = (.var 4) := rfl
theorem readsL_h1_5 : lookE readsL_h1 5 = (.fn 55 txRl13) := rfl
theorem readsL_h1_9 : lookE readsL_h1 9 = (.fn 56 txRl13) := rfl
theorem readsL_h1_10 : lookE readsL_h1 10 = (.fn 57 txRl13) := rfl
theorem readsL_y1 : nextD readsL readsL_h1 [(7, 7), (5, 5), (3, 3), (1, 1)] (roundC Try.prog [⟨9, [4, 1, 1], overL⟩] [(11, intP), (20, countP), (13, bytesP), (13, bytesN), (16, textP), (18, idP), (26, endP), (36, numberR), (15, bytesR), (15, bytesRN), (17, textR), (19, idR), (27, endR)] [(9, 5, .u8)] 3000 40 3 [4, 1, 0, 1, 1, 1, 1, 1, 1, 1] (tellA readsL_t1) readsL) = some readsL_d1 := by kernel_rfl
abbrev asRl48 : Q × Bool := ((.eq (.fn 56 txRl13) (.int 0)), false)
def readsL_t2 : List (Q × Bool) := [asRl24, asRl31, asRl32, asRl42, asRl43, asRl34, asRl35, asRl23, asRl48, asRl36, asRl37, asRl7, asRl45, asRl46, asRl47, asRl41]
def readsL_d2 : List Duty := []
def readsL_h2 : List (Nat × E) := [(4, (.var 4)), (3, (.var 3)), (10, (.fn 57 txRl13)), (9, (.fn 56 txRl13)), (5, (.fn 55 txRl13)), (2, (.var 2)), (1, (.bi .add (.var 1) (.int 1))), (0, (.var 0))]
theorem readsL_h2_0 : lookE readsL_h2 0 = (.var 0) := rfl
theorem readsL_h2_1 : lookE readsL_h2 1 = (.bi .add (.var 1) (.int 1)) := rfl
theorem readsL_h2_2 : lookE readsL_h2 2 = (.var 2) := rfl
theorem readsL_h2_3 : lookE readsL_h2 3 = (.var 3) := rfl
theorem readsL_h2_4 : lookE readsL_h2 4 = (.var 4) := rfl
theorem readsL_h2_5 : lookE readsL_h2 5 = (.fn 55 txRl13) := rfl
theorem readsL_h2_9 : lookE readsL_h2 9 = (.fn 56 txRl13) := rfl
theorem readsL_h2_10 : lookE readsL_h2 10 = (.fn 57 txRl13) := rfl
theorem readsL_y2 : nextD readsL readsL_h2 [(7, 7), (5, 5), (3, 3), (1, 1)] (roundC Try.prog [⟨9, [4, 1, 1], overL⟩] [(11, intP), (20, countP), (13, bytesP), (13, bytesN), (16, textP), (18, idP), (26, endP), (36, numberR), (15, bytesR), (15, bytesRN), (17, textR), (19, idR), (27, endR)] [(9, 5, .u8)] 3000 40 3 [4, 1, 0, 1, 1, 1, 1, 1, 1, 1] (tellA readsL_t2) readsL) = some readsL_d2 := by kernel_rfl
abbrev asRl49 : Q × Bool := ((.eq txRl1 (.int 1)), false)
abbrev asRl50 : Q × Bool := ((.eq txRl1 (.int 2)), true)
def readsL_t3 : List (Q × Bool) := [asRl24, asRl31, asRl32, asRl42, asRl49, asRl50, asRl34, asRl35, asRl23, asRl36, asRl37, asRl7, asRl45, asRl46, asRl47, asRl41]
def readsL_d3 : List Duty := []
def readsL_h3 : List (Nat × E) := [(4, (.var 4)), (3, (.var 3)), (10, (.fn 57 txRl13)), (9, (.fn 56 txRl13)), (5, (.fn 55 txRl13)), (2, (.var 2)), (1, (.bi .add (.var 1) (.int 1))), (0, (.var 0))]
theorem readsL_h3_0 : lookE readsL_h3 0 = (.var 0) := rfl
theorem readsL_h3_1 : lookE readsL_h3 1 = (.bi .add (.var 1) (.int 1)) := rfl
theorem readsL_h3_2 : lookE readsL_h3 2 = (.var 2) := rfl
theorem readsL_h3_3 : lookE readsL_h3 3 = (.var 3) := rfl
theorem readsL_h3_4 : lookE readsL_h3 4 = (.var 4) := rfl
theorem readsL_h3_5 : lookE readsL_h3 5 = (.fn 55 txRl13) := rfl
theorem readsL_h3_9 : lookE readsL_h3 9 = (.fn 56 txRl13) := rfl
theorem readsL_h3_10 : lookE readsL_h3 10 = (.fn 57 txRl13) := rfl
theorem readsL_y3 : nextD readsL readsL_h3 [(7, 7), (5, 5), (3, 3), (1, 1)] (roundC Try.prog [⟨9, [4, 1, 1], overL⟩] [(11, intP), (20, countP), (13, bytesP), (13, bytesN), (16, textP), (18, idP), (26, endP), (36, numberR), (15, bytesR), (15, bytesRN), (17, textR), (19, idR), (27, endR)] [(9, 5, .u8)] 3000 40 3 [4, 1, 0, 1, 1, 1, 1, 1, 1, 1] (tellA readsL_t3) readsL) = some readsL_d3 := by kernel_rfl
abbrev asRl51 : Q × Bool := ((.eq txRl1 (.int 2)), false)
abbrev asRl52 : Q × Bool := ((.eq txRl1 (.int 3)), true)
abbrev asRl53 : Q × Bool := ((.fit .i64 (.bi .sub (.var 2) (.fn 61 (.bi .pair (.var 4) txRl9)))), true)
abbrev asRl54 : Q × Bool := ((.le (.int 0) (.fn 61 (.bi .pair (.var 4) txRl9))), true)
abbrev asRl55 : Q × Bool := ((.le (.fn 61 (.bi .pair (.var 4) txRl9)) (.var 2)), true)
def readsL_t4 : List (Q × Bool) := [asRl24, asRl31, asRl32, asRl42, asRl49, asRl51, asRl52, asRl34, asRl35, asRl23, asRl36, asRl37, asRl7, asRl53, asRl54, asRl55, asRl41]
def readsL_d4 : List Duty := []
def readsL_h4 : List (Nat × E) := [(4, (.var 4)), (3, (.var 3)), (10, (.fn 63 (.bi .pair (.var 4) txRl9))), (9, (.fn 62 (.bi .pair (.var 4) txRl9))), (5, (.fn 61 (.bi .pair (.var 4) txRl9))), (2, (.var 2)), (1, (.bi .add (.var 1) (.int 1))), (0, (.var 0))]
theorem readsL_h4_0 : lookE readsL_h4 0 = (.var 0) := rfl
theorem readsL_h4_1 : lookE readsL_h4 1 = (.bi .add (.var 1) (.int 1)) := rfl
theorem readsL_h4_2 : lookE readsL_h4 2 = (.var 2) := rfl
theorem readsL_h4_3 : lookE readsL_h4 3 = (.var 3) := rfl
theorem readsL_h4_4 : lookE readsL_h4 4 = (.var 4) := rfl
theorem readsL_h4_5 : lookE readsL_h4 5 = (.fn 61 (.bi .pair (.var 4) txRl9)) := rfl
theorem readsL_h4_9 : lookE readsL_h4 9 = (.fn 62 (.bi .pair (.var 4) txRl9)) := rfl
theorem readsL_h4_10 : lookE readsL_h4 10 = (.fn 63 (.bi .pair (.var 4) txRl9)) := rfl
theorem readsL_y4 : nextD readsL readsL_h4 [(7, 7), (5, 5), (3, 3), (1, 1)] (roundC Try.prog [⟨9, [4, 1, 1], overL⟩] [(11, intP), (20, countP), (13, bytesP), (13, bytesN), (16, textP), (18, idP), (26, endP), (36, numberR), (15, bytesR), (15, bytesRN), (17, textR), (19, idR), (27, endR)] [(9, 5, .u8)] 3000 40 3 [4, 1, 0, 1, 1, 1, 1, 1, 1, 1] (tellA readsL_t4) readsL) = some readsL_d4 := by kernel_rfl
abbrev asRl56 : Q × Bool := ((.eq txRl1 (.int 3)), false)
abbrev asRl57 : Q × Bool := ((.eq txRl1 (.int 4)), true)
abbrev asRl58 : Q × Bool := ((.fit .i64 (.bi .sub (.var 2) (.fn 51 txRl16))), true)
abbrev asRl59 : Q × Bool := ((.le (.int 0) (.fn 51 txRl16)), true)
abbrev asRl60 : Q × Bool := ((.le (.fn 51 txRl16) (.var 2)), true)
def readsL_t5 : List (Q × Bool) := [asRl24, asRl31, asRl32, asRl42, asRl49, asRl51, asRl56, asRl57, asRl34, asRl35, asRl23, asRl36, asRl37, asRl7, asRl58, asRl59, asRl60, asRl41]
def readsL_d5 : List Duty := []
def readsL_h5 : List (Nat × E) := [(4, (.var 4)), (3, (.var 3)), (10, (.fn 53 txRl16)), (9, (.fn 52 txRl16)), (5, (.fn 51 txRl16)), (2, (.var 2)), (1, (.bi .add (.var 1) (.int 1))), (0, (.var 0))]
theorem readsL_h5_0 : lookE readsL_h5 0 = (.var 0) := rfl
theorem readsL_h5_1 : lookE readsL_h5 1 = (.bi .add (.var 1) (.int 1)) := rfl
theorem readsL_h5_2 : lookE readsL_h5 2 = (.var 2) := rfl
theorem readsL_h5_3 : lookE readsL_h5 3 = (.var 3) := rfl
theorem readsL_h5_4 : lookE readsL_h5 4 = (.var 4) := rfl
theorem readsL_h5_5 : lookE readsL_h5 5 = (.fn 51 txRl16) := rfl
theorem readsL_h5_9 : lookE readsL_h5 9 = (.fn 52 txRl16) := rfl
theorem readsL_h5_10 : lookE readsL_h5 10 = (.fn 53 txRl16) := rfl
theorem readsL_y5 : nextD readsL readsL_h5 [(7, 7), (5, 5), (3, 3), (1, 1)] (roundC Try.prog [⟨9, [4, 1, 1], overL⟩] [(11, intP), (20, countP), (13, bytesP), (13, bytesN), (16, textP), (18, idP), (26, endP), (36, numberR), (15, bytesR), (15, bytesRN), (17, textR), (19, idR), (27, endR)] [(9, 5, .u8)] 3000 40 3 [4, 1, 0, 1, 1, 1, 1, 1, 1, 1] (tellA readsL_t5) readsL) = some readsL_d5 := by kernel_rfl
abbrev asRl61 : Q × Bool := ((.eq txRl1 (.int 4)), false)
abbrev asRl62 : Q × Bool := ((.fit .i64 (.bi .sub (.var 2) (.var 5))), true)
def readsL_t6 : List (Q × Bool) := [asRl24, asRl31, asRl32, asRl42, asRl49, asRl51, asRl56, asRl61, asRl7, asRl62, asRl34, asRl35, asRl23, asRl36, asRl37, asRl41]
def readsL_d6 : List Duty := []
def readsL_h6 : List (Nat × E) := [(4, (.var 4)), (3, (.var 3)), (10, (.var 10)), (9, (.var 9)), (5, (.var 5)), (2, (.var 2)), (1, (.bi .add (.var 1) (.int 1))), (0, (.var 0))]
theorem readsL_h6_0 : lookE readsL_h6 0 = (.var 0) := rfl
theorem readsL_h6_1 : lookE readsL_h6 1 = (.bi .add (.var 1) (.int 1)) := rfl
theorem readsL_h6_2 : lookE readsL_h6 2 = (.var 2) := rfl
theorem readsL_h6_3 : lookE readsL_h6 3 = (.var 3) := rfl
theorem readsL_h6_4 : lookE readsL_h6 4 = (.var 4) := rfl
theorem readsL_h6_5 : lookE readsL_h6 5 = (.var 5) := rfl
theorem readsL_h6_9 : lookE readsL_h6 9 = (.var 9) := rfl
theorem readsL_h6_10 : lookE readsL_h6 10 = (.var 10) := rfl
theorem readsL_y6 : nextD readsL readsL_h6 [(7, 7), (5, 5), (3, 3), (1, 1)] (roundC Try.prog [⟨9, [4, 1, 1], overL⟩] [(11, intP), (20, countP), (13, bytesP), (13, bytesN), (16, textP), (18, idP), (26, endP), (36, numberR), (15, bytesR), (15, bytesRN), (17, textR), (19, idR), (27, endR)] [(9, 5, .u8)] 3000 40 3 [4, 1, 0, 1, 1, 1, 1, 1, 1, 1] (tellA readsL_t6) readsL) = some readsL_d6 := by kernel_rfl
abbrev asRl63 : Q × Bool := ((.le (.un .len (.var 0)) (.var 1)), true)
def readsL_t7 : List (Q × Bool) := [asRl24, asRl63]
def readsL_d7 : List Duty := []
theorem readsL_y7 : endD readsL [(7, 7), (5, 5), (3, 3), (1, 1)] 1000 (roundC Try.prog [⟨9, [4, 1, 1], overL⟩] [(11, intP), (20, countP), (13, bytesP), (13, bytesN), (16, textP), (18, idP), (26, endP), (36, numberR), (15, bytesR), (15, bytesRN), (17, textR), (19, idR), (27, endR)] [(9, 5, .u8)] 3000 40 3 [4, 1, 0, 1, 1, 1, 1, 1, 1, 1] (tellA readsL_t7) readsL) = some readsL_d7 := by kernel_rfl
theorem readsL_holds : LHolds Try.prog (loopAt Try.prog 3 [4, 1, 0, 1, 1, 1, 1, 1, 1, 1]) readsL F := by
  refine loop_roundsC sound (tableCons overL_holds (tableNil _ _)) (specsCons intP_holds (specsCons countP_holds (specsCons bytesP_holds (specsCons bytesN_holds (specsCons textP_holds (specsCons idP_holds (specsCons endP_holds (specsCons numberR_holds (specsCons bytesR_holds (specsCons bytesRN_holds (specsCons textR_holds (specsCons idR_holds (specsCons endR_holds (specsNil _ _)))))))))))))) (oversCons overV_holds (oversNil _ _)) (fuel := 3000) (depth := 40) (by kernel_rfl) (by kernel_rfl) (by kernel_rfl) (fun d => ((d 0).toList.length - (d 1).toInt).toNat) fun d hp hR hA => ?_
  have hp := allTold'_iff.2 hp
  simp only [readsL, allTold', dutiesTold, factsA, factsC, factsP, factsR, AV.facts, RW.facts, inK, and_true, Q.holds', E.i, E.s, E.n, D.nat, E.den, BO.den, UO.den, TO.den, D.toInt_int, D.toList_list, D.ints_ofInts, i64min, i64max, u8min, u8max, u16min, u16max, u32min, u32max, u64min, u64max, i32min, i32max, Om.sub, selI, ints_app, ints_cut, ints_upd, ints_rep, ints_splice, ints_seg, len_ints] at hp hR hA
  have g0 : (d 0).ints.length = (d 0).toList.length := (len_ints _).symm
  have z0 : Int.toNat 0 = 0 := rfl
  have z1 : Int.toNat 1 = 1 := rfl
  have z2 : Int.toNat 2 = 2 := rfl
  have hx := hR.2.2.1.2
  have si := fun lo hi ab => rdS_in (x := (d 4).ints) (a := (d 5).toInt) (t := (d 2).toInt) (e := (d 9).toInt) (f := (d 10).toInt) (lo := lo) (hi := hi) (ab := ab) (by omega) (by omega) (by omega) hx
  have bi := fun mo => rdB_in (x := (d 4).ints) (a := (d 5).toInt) (t := (d 2).toInt) (e := (d 9).toInt) (f := (d 10).toInt) (mo := mo) (by omega) (by omega) (by omega) hx
  have ii := rdI_in (x := (d 4).ints) (a := (d 5).toInt) (t := (d 2).toInt) (e := (d 9).toInt) (f := (d 10).toInt) (by omega) (by omega)
  by_cases h : ((d 0).toList.length : Int) ≤ (d 1).toInt
  · refine ⟨tellA readsL_t7, tellA_ok (allTold'_iff.1 ?_), .inl ⟨_, _, _, readsL_y7, dutiesTold_ok ?_⟩⟩
    · simp only [readsL_t7, allTold', dutiesTold, factsA, factsC, factsP, factsR, AV.facts, RW.facts, inK, and_true, Q.holds', E.i, E.s, E.n, D.nat, E.den, BO.den, UO.den, TO.den, D.toInt_int, D.toList_list, D.ints_ofInts, i64min, i64max, u8min, u8max, u16min, u16max, u32min, u32max, u64min, u64max, i32min, i32max, Om.sub, selI, ints_app, ints_cut, ints_upd, ints_rep, ints_splice, ints_seg, len_ints]
      omega
    · simp only [readsL_d7, allTold', dutiesTold, factsA, factsC, factsP, factsR, AV.facts, RW.facts, inK, and_true, Q.holds', E.i, E.s, E.n, D.nat, E.den, BO.den, UO.den, TO.den, D.toInt_int, D.toList_list, D.ints_ofInts, i64min, i64max, u8min, u8max, u16min, u16max, u32min, u32max, u64min, u64max, i32min, i32max, Om.sub, selI, ints_app, ints_cut, ints_upd, ints_rep, ints_splice, ints_seg, len_ints]
  · generalize hX : (d 0).toList[(d 1).toInt.toNat]?.getD (D.int 0) = X at *
    generalize hL : X.ints[2]?.getD 0 = L at *
    generalize hN : X.ints[1]?.getD 0 = N at *
    generalize hK : X.ints[0]?.getD 0 = K at *
    by_cases k0 : K = 0
    · have s := si L N 5
      refine ⟨tellA readsL_t0, tellA_ok (allTold'_iff.1 ?_), .inr ⟨readsL_h0, _, _, readsL_y0, dutiesTold_ok ?_, allTold'_iff.1 ?_, ?_⟩⟩
      · simp only [readsL_t0, z0, z1, z2, hX, hL, hN, hK, F51, F54, F55, F56, F61, allTold', dutiesTold, factsA, factsC, factsP, factsR, AV.facts, RW.facts, inK, and_true, Q.holds', E.i, E.s, E.n, D.nat, E.den, BO.den, UO.den, TO.den, D.toInt_int, D.toList_list, D.ints_ofInts, i64min, i64max, u8min, u8max, u16min, u16max, u32min, u32max, u64min, u64max, i32min, i32max, Om.sub, selI, ints_app, ints_cut, ints_upd, ints_rep, ints_splice, ints_seg, len_ints]
        first | done | exact True.intro | omega | (and_intros <;> first | exact True.intro | omega | (rfl; done))
      · simp only [readsL_d0, z0, z1, z2, hX, hL, hN, hK, F51, F54, F55, F56, F61, allTold', dutiesTold, factsA, factsC, factsP, factsR, AV.facts, RW.facts, inK, and_true, Q.holds', E.i, E.s, E.n, D.nat, E.den, BO.den, UO.den, TO.den, D.toInt_int, D.toList_list, D.ints_ofInts, i64min, i64max, u8min, u8max, u16min, u16max, u32min, u32max, u64min, u64max, i32min, i32max, Om.sub, selI, ints_app, ints_cut, ints_upd, ints_rep, ints_splice, ints_seg, len_ints]
        first | done | exact True.intro | omega | (and_intros <;> first | exact True.intro | omega | (rfl; done))
      · simp only [readsL, readsL_h0_0, readsL_h0_1, readsL_h0_2, readsL_h0_3, readsL_h0_4, readsL_h0_5, readsL_h0_9, readsL_h0_10, z0, z1, z2, hX, hL, hN, hK, F51, F54, F55, F56, F61, allTold', dutiesTold, factsA, factsC, factsP, factsR, AV.facts, RW.facts, inK, and_true, Q.holds', E.i, E.s, E.n, D.nat, E.den, BO.den, UO.den, TO.den, D.toInt_int, D.toList_list, D.ints_ofInts, i64min, i64max, u8min, u8max, u16min, u16max, u32min, u32max, u64min, u64max, i32min, i32max, Om.sub, selI, ints_app, ints_cut, ints_upd, ints_rep, ints_splice, ints_seg, len_ints]
        first | done | exact True.intro | omega | (and_intros <;> first | exact True.intro | omega | (rfl; done))
      · simp only [readsL_h0_0, readsL_h0_1, readsL_h0_2, readsL_h0_3, readsL_h0_4, readsL_h0_5, readsL_h0_9, readsL_h0_10, allTold', dutiesTold, factsA, factsC, factsP, factsR, AV.facts, RW.facts, inK, and_true, Q.holds', E.i, E.s, E.n, D.nat, E.den, BO.den, UO.den, TO.den, D.toInt_int, D.toList_list, D.ints_ofInts, i64min, i64max, u8min, u8max, u16min, u16max, u32min, u32max, u64min, u64max, i32min, i32max, Om.sub, selI, ints_app, ints_cut, ints_upd, ints_rep, ints_splice, ints_seg, len_ints]
        omega
    · by_cases k1 : K = 1
      · have s := bi N
        by_cases g : (rdB (d 4).ints (d 5).toInt (d 2).toInt (d 9).toInt (d 10).toInt N).2.2.1 = 0
        · refine ⟨tellA readsL_t1, tellA_ok (allTold'_iff.1 ?_), .inr ⟨readsL_h1, _, _, readsL_y1, dutiesTold_ok ?_, allTold'_iff.1 ?_, ?_⟩⟩
          · simp only [readsL_t1, z0, z1, z2, hX, hL, hN, hK, F51, F54, F55, F56, F61, allTold', dutiesTold, factsA, factsC, factsP, factsR, AV.facts, RW.facts, inK, and_true, Q.holds', E.i, E.s, E.n, D.nat, E.den, BO.den, UO.den, TO.den, D.toInt_int, D.toList_list, D.ints_ofInts, i64min, i64max, u8min, u8max, u16min, u16max, u32min, u32max, u64min, u64max, i32min, i32max, Om.sub, selI, ints_app, ints_cut, ints_upd, ints_rep, ints_splice, ints_seg, len_ints]
            first | done | exact True.intro | omega | (and_intros <;> first | exact True.intro | omega | (rfl; done))
          · simp only [readsL_d1, z0, z1, z2, hX, hL, hN, hK, F51, F54, F55, F56, F61, allTold', dutiesTold, factsA, factsC, factsP, factsR, AV.facts, RW.facts, inK, and_true, Q.holds', E.i, E.s, E.n, D.nat, E.den, BO.den, UO.den, TO.den, D.toInt_int, D.toList_list, D.ints_ofInts, i64min, i64max, u8min, u8max, u16min, u16max, u32min, u32max, u64min, u64max, i32min, i32max, Om.sub, selI, ints_app, ints_cut, ints_upd, ints_rep, ints_splice, ints_seg, len_ints]
            first | done | exact True.intro | omega | (and_intros <;> first | exact True.intro | omega | (rfl; done))
          · simp only [readsL, readsL_h1_0, readsL_h1_1, readsL_h1_2, readsL_h1_3, readsL_h1_4, readsL_h1_5, readsL_h1_9, readsL_h1_10, z0, z1, z2, hX, hL, hN, hK, F51, F54, F55, F56, F61, allTold', dutiesTold, factsA, factsC, factsP, factsR, AV.facts, RW.facts, inK, and_true, Q.holds', E.i, E.s, E.n, D.nat, E.den, BO.den, UO.den, TO.den, D.toInt_int, D.toList_list, D.ints_ofInts, i64min, i64max, u8min, u8max, u16min, u16max, u32min, u32max, u64min, u64max, i32min, i32max, Om.sub, selI, ints_app, ints_cut, ints_upd, ints_rep, ints_splice, ints_seg, len_ints]
            first | done | exact True.intro | omega | (and_intros <;> first | exact True.intro | omega | (rfl; done))
          · simp only [readsL_h1_0, readsL_h1_1, readsL_h1_2, readsL_h1_3, readsL_h1_4, readsL_h1_5, readsL_h1_9, readsL_h1_10, allTold', dutiesTold, factsA, factsC, factsP, factsR, AV.facts, RW.facts, inK, and_true, Q.holds', E.i, E.s, E.n, D.nat, E.den, BO.den, UO.den, TO.den, D.toInt_int, D.toList_list, D.ints_ofInts, i64min, i64max, u8min, u8max, u16min, u16max, u32min, u32max, u64min, u64max, i32min, i32max, Om.sub, selI, ints_app, ints_cut, ints_upd, ints_rep, ints_splice, ints_seg, len_ints]
            omega
        · refine ⟨tellA readsL_t2, tellA_ok (allTold'_iff.1 ?_), .inr ⟨readsL_h2, _, _, readsL_y2, dutiesTold_ok ?_, allTold'_iff.1 ?_, ?_⟩⟩
          · simp only [readsL_t2, z0, z1, z2, hX, hL, hN, hK, F51, F54, F55, F56, F61, allTold', dutiesTold, factsA, factsC, factsP, factsR, AV.facts, RW.facts, inK, and_true, Q.holds', E.i, E.s, E.n, D.nat, E.den, BO.den, UO.den, TO.den, D.toInt_int, D.toList_list, D.ints_ofInts, i64min, i64max, u8min, u8max, u16min, u16max, u32min, u32max, u64min, u64max, i32min, i32max, Om.sub, selI, ints_app, ints_cut, ints_upd, ints_rep, ints_splice, ints_seg, len_ints]
            first | done | exact True.intro | omega | (and_intros <;> first | exact True.intro | omega | (rfl; done))
          · simp only [readsL_d2, z0, z1, z2, hX, hL, hN, hK, F51, F54, F55, F56, F61, allTold', dutiesTold, factsA, factsC, factsP, factsR, AV.facts, RW.facts, inK, and_true, Q.holds', E.i, E.s, E.n, D.nat, E.den, BO.den, UO.den, TO.den, D.toInt_int, D.toList_list, D.ints_ofInts, i64min, i64max, u8min, u8max, u16min, u16max, u32min, u32max, u64min, u64max, i32min, i32max, Om.sub, selI, ints_app, ints_cut, ints_upd, ints_rep, ints_splice, ints_seg, len_ints]
            first | done | exact True.intro | omega | (and_intros <;> first | exact True.intro | omega | (rfl; done))
          · simp only [readsL, readsL_h2_0, readsL_h2_1, readsL_h2_2, readsL_h2_3, readsL_h2_4, readsL_h2_5, readsL_h2_9, readsL_h2_10, z0, z1, z2, hX, hL, hN, hK, F51, F54, F55, F56, F61, allTold', dutiesTold, factsA, factsC, factsP, factsR, AV.facts, RW.facts, inK, and_true, Q.holds', E.i, E.s, E.n, D.nat, E.den, BO.den, UO.den, TO.den, D.toInt_int, D.toList_list, D.ints_ofInts, i64min, i64max, u8min, u8max, u16min, u16max, u32min, u32max, u64min, u64max, i32min, i32max, Om.sub, selI, ints_app, ints_cut, ints_upd, ints_rep, ints_splice, ints_seg, len_ints]
            first | done | exact True.intro | omega | (and_intros <;> first | exact True.intro | omega | (rfl; done))
          · simp only [readsL_h2_0, readsL_h2_1, readsL_h2_2, readsL_h2_3, readsL_h2_4, readsL_h2_5, readsL_h2_9, readsL_h2_10, allTold', dutiesTold, factsA, factsC, factsP, factsR, AV.facts, RW.facts, inK, and_true, Q.holds', E.i, E.s, E.n, D.nat, E.den, BO.den, UO.den, TO.den, D.toInt_int, D.toList_list, D.ints_ofInts, i64min, i64max, u8min, u8max, u16min, u16max, u32min, u32max, u64min, u64max, i32min, i32max, Om.sub, selI, ints_app, ints_cut, ints_upd, ints_rep, ints_splice, ints_seg, len_ints]
            omega
      · by_cases k2 : K = 2
        · have s := bi N
          refine ⟨tellA readsL_t3, tellA_ok (allTold'_iff.1 ?_), .inr ⟨readsL_h3, _, _, readsL_y3, dutiesTold_ok ?_, allTold'_iff.1 ?_, ?_⟩⟩
          · simp only [readsL_t3, z0, z1, z2, hX, hL, hN, hK, F51, F54, F55, F56, F61, allTold', dutiesTold, factsA, factsC, factsP, factsR, AV.facts, RW.facts, inK, and_true, Q.holds', E.i, E.s, E.n, D.nat, E.den, BO.den, UO.den, TO.den, D.toInt_int, D.toList_list, D.ints_ofInts, i64min, i64max, u8min, u8max, u16min, u16max, u32min, u32max, u64min, u64max, i32min, i32max, Om.sub, selI, ints_app, ints_cut, ints_upd, ints_rep, ints_splice, ints_seg, len_ints]
            first | done | exact True.intro | omega | (and_intros <;> first | exact True.intro | omega | (rfl; done))
          · simp only [readsL_d3, z0, z1, z2, hX, hL, hN, hK, F51, F54, F55, F56, F61, allTold', dutiesTold, factsA, factsC, factsP, factsR, AV.facts, RW.facts, inK, and_true, Q.holds', E.i, E.s, E.n, D.nat, E.den, BO.den, UO.den, TO.den, D.toInt_int, D.toList_list, D.ints_ofInts, i64min, i64max, u8min, u8max, u16min, u16max, u32min, u32max, u64min, u64max, i32min, i32max, Om.sub, selI, ints_app, ints_cut, ints_upd, ints_rep, ints_splice, ints_seg, len_ints]
            first | done | exact True.intro | omega | (and_intros <;> first | exact True.intro | omega | (rfl; done))
          · simp only [readsL, readsL_h3_0, readsL_h3_1, readsL_h3_2, readsL_h3_3, readsL_h3_4, readsL_h3_5, readsL_h3_9, readsL_h3_10, z0, z1, z2, hX, hL, hN, hK, F51, F54, F55, F56, F61, allTold', dutiesTold, factsA, factsC, factsP, factsR, AV.facts, RW.facts, inK, and_true, Q.holds', E.i, E.s, E.n, D.nat, E.den, BO.den, UO.den, TO.den, D.toInt_int, D.toList_list, D.ints_ofInts, i64min, i64max, u8min, u8max, u16min, u16max, u32min, u32max, u64min, u64max, i32min, i32max, Om.sub, selI, ints_app, ints_cut, ints_upd, ints_rep, ints_splice, ints_seg, len_ints]
            first | done | exact True.intro | omega | (and_intros <;> first | exact True.intro | omega | (rfl; done))
          · simp only [readsL_h3_0, readsL_h3_1, readsL_h3_2, readsL_h3_3, readsL_h3_4, readsL_h3_5, readsL_h3_9, readsL_h3_10, allTold', dutiesTold, factsA, factsC, factsP, factsR, AV.facts, RW.facts, inK, and_true, Q.holds', E.i, E.s, E.n, D.nat, E.den, BO.den, UO.den, TO.den, D.toInt_int, D.toList_list, D.ints_ofInts, i64min, i64max, u8min, u8max, u16min, u16max, u32min, u32max, u64min, u64max, i32min, i32max, Om.sub, selI, ints_app, ints_cut, ints_upd, ints_rep, ints_splice, ints_seg, len_ints]
            omega
        · by_cases k3 : K = 3
          · refine ⟨tellA readsL_t4, tellA_ok (allTold'_iff.1 ?_), .inr ⟨readsL_h4, _, _, readsL_y4, dutiesTold_ok ?_, allTold'_iff.1 ?_, ?_⟩⟩
            · simp only [readsL_t4, z0, z1, z2, hX, hL, hN, hK, F51, F54, F55, F56, F61, allTold', dutiesTold, factsA, factsC, factsP, factsR, AV.facts, RW.facts, inK, and_true, Q.holds', E.i, E.s, E.n, D.nat, E.den, BO.den, UO.den, TO.den, D.toInt_int, D.toList_list, D.ints_ofInts, i64min, i64max, u8min, u8max, u16min, u16max, u32min, u32max, u64min, u64max, i32min, i32max, Om.sub, selI, ints_app, ints_cut, ints_upd, ints_rep, ints_splice, ints_seg, len_ints]
              first | done | exact True.intro | omega | (and_intros <;> first | exact True.intro | omega | (rfl; done))
            · simp only [readsL_d4, z0, z1, z2, hX, hL, hN, hK, F51, F54, F55, F56, F61, allTold', dutiesTold, factsA, factsC, factsP, factsR, AV.facts, RW.facts, inK, and_true, Q.holds', E.i, E.s, E.n, D.nat, E.den, BO.den, UO.den, TO.den, D.toInt_int, D.toList_list, D.ints_ofInts, i64min, i64max, u8min, u8max, u16min, u16max, u32min, u32max, u64min, u64max, i32min, i32max, Om.sub, selI, ints_app, ints_cut, ints_upd, ints_rep, ints_splice, ints_seg, len_ints]
              first | done | exact True.intro | omega | (and_intros <;> first | exact True.intro | omega | (rfl; done))
            · simp only [readsL, readsL_h4_0, readsL_h4_1, readsL_h4_2, readsL_h4_3, readsL_h4_4, readsL_h4_5, readsL_h4_9, readsL_h4_10, z0, z1, z2, hX, hL, hN, hK, F51, F54, F55, F56, F61, allTold', dutiesTold, factsA, factsC, factsP, factsR, AV.facts, RW.facts, inK, and_true, Q.holds', E.i, E.s, E.n, D.nat, E.den, BO.den, UO.den, TO.den, D.toInt_int, D.toList_list, D.ints_ofInts, i64min, i64max, u8min, u8max, u16min, u16max, u32min, u32max, u64min, u64max, i32min, i32max, Om.sub, selI, ints_app, ints_cut, ints_upd, ints_rep, ints_splice, ints_seg, len_ints]
              first | done | exact True.intro | omega | (and_intros <;> first | exact True.intro | omega | (rfl; done))
            · simp only [readsL_h4_0, readsL_h4_1, readsL_h4_2, readsL_h4_3, readsL_h4_4, readsL_h4_5, readsL_h4_9, readsL_h4_10, allTold', dutiesTold, factsA, factsC, factsP, factsR, AV.facts, RW.facts, inK, and_true, Q.holds', E.i, E.s, E.n, D.nat, E.den, BO.den, UO.den, TO.den, D.toInt_int, D.toList_list, D.ints_ofInts, i64min, i64max, u8min, u8max, u16min, u16max, u32min, u32max, u64min, u64max, i32min, i32max, Om.sub, selI, ints_app, ints_cut, ints_upd, ints_rep, ints_splice, ints_seg, len_ints]
              omega
          · by_cases k4 : K = 4
            · have s := si 0 N 3
              refine ⟨tellA readsL_t5, tellA_ok (allTold'_iff.1 ?_), .inr ⟨readsL_h5, _, _, readsL_y5, dutiesTold_ok ?_, allTold'_iff.1 ?_, ?_⟩⟩
              · simp only [readsL_t5, z0, z1, z2, hX, hL, hN, hK, F51, F54, F55, F56, F61, allTold', dutiesTold, factsA, factsC, factsP, factsR, AV.facts, RW.facts, inK, and_true, Q.holds', E.i, E.s, E.n, D.nat, E.den, BO.den, UO.den, TO.den, D.toInt_int, D.toList_list, D.ints_ofInts, i64min, i64max, u8min, u8max, u16min, u16max, u32min, u32max, u64min, u64max, i32min, i32max, Om.sub, selI, ints_app, ints_cut, ints_upd, ints_rep, ints_splice, ints_seg, len_ints]
                first | done | exact True.intro | omega | (and_intros <;> first | exact True.intro | omega | (rfl; done))
              · simp only [readsL_d5, z0, z1, z2, hX, hL, hN, hK, F51, F54, F55, F56, F61, allTold', dutiesTold, factsA, factsC, factsP, factsR, AV.facts, RW.facts, inK, and_true, Q.holds', E.i, E.s, E.n, D.nat, E.den, BO.den, UO.den, TO.den, D.toInt_int, D.toList_list, D.ints_ofInts, i64min, i64max, u8min, u8max, u16min, u16max, u32min, u32max, u64min, u64max, i32min, i32max, Om.sub, selI, ints_app, ints_cut, ints_upd, ints_rep, ints_splice, ints_seg, len_ints]
                first | done | exact True.intro | omega | (and_intros <;> first | exact True.intro | omega | (rfl; done))
              · simp only [readsL, readsL_h5_0, readsL_h5_1, readsL_h5_2, readsL_h5_3, readsL_h5_4, readsL_h5_5, readsL_h5_9, readsL_h5_10, z0, z1, z2, hX, hL, hN, hK, F51, F54, F55, F56, F61, allTold', dutiesTold, factsA, factsC, factsP, factsR, AV.facts, RW.facts, inK, and_true, Q.holds', E.i, E.s, E.n, D.nat, E.den, BO.den, UO.den, TO.den, D.toInt_int, D.toList_list, D.ints_ofInts, i64min, i64max, u8min, u8max, u16min, u16max, u32min, u32max, u64min, u64max, i32min, i32max, Om.sub, selI, ints_app, ints_cut, ints_upd, ints_rep, ints_splice, ints_seg, len_ints]
                first | done | exact True.intro | omega | (and_intros <;> first | exact True.intro | omega | (rfl; done))
              · simp only [readsL_h5_0, readsL_h5_1, readsL_h5_2, readsL_h5_3, readsL_h5_4, readsL_h5_5, readsL_h5_9, readsL_h5_10, allTold', dutiesTold, factsA, factsC, factsP, factsR, AV.facts, RW.facts, inK, and_true, Q.holds', E.i, E.s, E.n, D.nat, E.den, BO.den, UO.den, TO.den, D.toInt_int, D.toList_list, D.ints_ofInts, i64min, i64max, u8min, u8max, u16min, u16max, u32min, u32max, u64min, u64max, i32min, i32max, Om.sub, selI, ints_app, ints_cut, ints_upd, ints_rep, ints_splice, ints_seg, len_ints]
                omega
            · refine ⟨tellA readsL_t6, tellA_ok (allTold'_iff.1 ?_), .inr ⟨readsL_h6, _, _, readsL_y6, dutiesTold_ok ?_, allTold'_iff.1 ?_, ?_⟩⟩
              · simp only [readsL_t6, z0, z1, z2, hX, hL, hN, hK, F51, F54, F55, F56, F61, allTold', dutiesTold, factsA, factsC, factsP, factsR, AV.facts, RW.facts, inK, and_true, Q.holds', E.i, E.s, E.n, D.nat, E.den, BO.den, UO.den, TO.den, D.toInt_int, D.toList_list, D.ints_ofInts, i64min, i64max, u8min, u8max, u16min, u16max, u32min, u32max, u64min, u64max, i32min, i32max, Om.sub, selI, ints_app, ints_cut, ints_upd, ints_rep, ints_splice, ints_seg, len_ints]
                first | done | exact True.intro | omega | (and_intros <;> first | exact True.intro | omega | (rfl; done))
              · simp only [readsL_d6, z0, z1, z2, hX, hL, hN, hK, F51, F54, F55, F56, F61, allTold', dutiesTold, factsA, factsC, factsP, factsR, AV.facts, RW.facts, inK, and_true, Q.holds', E.i, E.s, E.n, D.nat, E.den, BO.den, UO.den, TO.den, D.toInt_int, D.toList_list, D.ints_ofInts, i64min, i64max, u8min, u8max, u16min, u16max, u32min, u32max, u64min, u64max, i32min, i32max, Om.sub, selI, ints_app, ints_cut, ints_upd, ints_rep, ints_splice, ints_seg, len_ints]
                first | done | exact True.intro | omega | (and_intros <;> first | exact True.intro | omega | (rfl; done))
              · simp only [readsL, readsL_h6_0, readsL_h6_1, readsL_h6_2, readsL_h6_3, readsL_h6_4, readsL_h6_5, readsL_h6_9, readsL_h6_10, z0, z1, z2, hX, hL, hN, hK, F51, F54, F55, F56, F61, allTold', dutiesTold, factsA, factsC, factsP, factsR, AV.facts, RW.facts, inK, and_true, Q.holds', E.i, E.s, E.n, D.nat, E.den, BO.den, UO.den, TO.den, D.toInt_int, D.toList_list, D.ints_ofInts, i64min, i64max, u8min, u8max, u16min, u16max, u32min, u32max, u64min, u64max, i32min, i32max, Om.sub, selI, ints_app, ints_cut, ints_upd, ints_rep, ints_splice, ints_seg, len_ints]
                first | done | exact True.intro | omega | (and_intros <;> first | exact True.intro | omega | (rfl; done))
              · simp only [readsL_h6_0, readsL_h6_1, readsL_h6_2, readsL_h6_3, readsL_h6_4, readsL_h6_5, readsL_h6_9, readsL_h6_10, allTold', dutiesTold, factsA, factsC, factsP, factsR, AV.facts, RW.facts, inK, and_true, Q.holds', E.i, E.s, E.n, D.nat, E.den, BO.den, UO.den, TO.den, D.toInt_int, D.toList_list, D.ints_ofInts, i64min, i64max, u8min, u8max, u16min, u16max, u32min, u32max, u64min, u64max, i32min, i32max, Om.sub, selI, ints_app, ints_cut, ints_upd, ints_rep, ints_splice, ints_seg, len_ints]
                omega

def readsE : LSpec := { n := 169, next := 4, pat := [(1, .pv (.agg [.int .i64, .int .i64, .int .i64, .sl (.int .u8), .agg [.int .u8, .int .u8, .int .u8, .int .u8, .int .u8, .int .u8, .int .u8, .int .u8, .int .u8, .int .u8, .int .u8, .int .u8, .int .u8, .int .u8, .int .u8, .int .u8]]) (.var 0)), (6, .ptr 1 0), (7, .ptr 3 0), (8, .sint .i64 (.var 1))], rows := [(1, .cells 53 0 false false [.ptr 1 0, .slice 5 0 0 0 false, .int .i64 0, .sint .i64 (.var 9), .sint .i64 (.var 10)]), (3, .cells 47 0 false false [.empty, .int .i64 0, .sint .i64 (.var 9), .sint .i64 (.var 10)]), (5, .cells 5 0 false false [])], pre := [(.le (.int 0) (.var 1), true), (.le (.var 1) (.un .len (.var 0)), true), (.le (.un .len (.var 0)) (.int 40), true)], x := 0, fin := [], frows := [], same := [1, 3], chg := [1, 6, 7, 8, 9, 10, 35, 36, 37, 38, 39, 40, 41, 42, 43, 44, 45, 46, 47, 48, 49, 50, 51, 52, 53, 54, 55, 56, 57, 58, 59, 60, 61, 62, 63, 64, 65, 66, 67, 68, 69, 70, 71, 72, 73, 74, 75, 76, 77, 78, 79, 80, 81, 82, 83, 84, 85, 86, 87, 88, 89, 90, 91, 92, 93, 94, 95, 96, 97, 98, 99, 100, 101, 102, 103, 104, 105, 106, 107, 108, 109, 110, 111, 112, 113, 114, 115, 116, 117, 118, 119, 120, 121, 122, 123, 124, 125, 126, 127, 128, 129, 130, 131, 132, 133, 134, 135, 136, 137, 138, 139, 140, 141, 142, 143, 144, 145, 146, 147, 148, 149, 150, 151, 152, 153, 154, 155, 156, 157, 158, 159, 160, 161, 162, 163, 164, 165, 166, 167] }
abbrev asRl64 : Q × Bool := ((.eq (.var 9) (.int 0)), true)
def readsE_t0 : List (Q × Bool) := [asRl24, asRl31, asRl32, asRl33, asRl64, asRl41]
def readsE_d0 : List Duty := []
def readsE_h0 : List (Nat × E) := [(10, (.int 0)), (9, (.int 4)), (1, (.bi .add (.var 1) (.int 1))), (0, (.var 0))]
theorem readsE_h0_0 : lookE readsE_h0 0 = (.var 0) := rfl
theorem readsE_h0_1 : lookE readsE_h0 1 = (.bi .add (.var 1) (.int 1)) := rfl
theorem readsE_h0_9 : lookE readsE_h0 9 = (.int 4) := rfl
theorem readsE_h0_10 : lookE readsE_h0 10 = (.int 0) := rfl
theorem readsE_y0 : nextD readsE readsE_h0 [(5, 5), (3, 3), (1, 1)] (roundC Try.prog [] [] [] 3000 40 3 [4, 1, 0, 1, 1, 1, 1, 1, 1, 1] (tellA readsE_t0) readsE) = some readsE_d0 := by kernel_rfl
def readsE_t1 : List (Q × Bool) := [asRl24, asRl31, asRl32, asRl42, asRl43, asRl64, asRl41]
def readsE_d1 : List Duty := []
def readsE_h1 : List (Nat × E) := [(10, (.int 0)), (9, (.int 4)), (1, (.bi .add (.var 1) (.int 1))), (0, (.var 0))]
theorem readsE_h1_0 : lookE readsE_h1 0 = (.var 0) := rfl
theorem readsE_h1_1 : lookE readsE_h1 1 = (.bi .add (.var 1) (.int 1)) := rfl
theorem readsE_h1_9 : lookE readsE_h1 9 = (.int 4) := rfl
theorem readsE_h1_10 : lookE readsE_h1 10 = (.int 0) := rfl
theorem readsE_y1 : nextD readsE readsE_h1 [(5, 5), (3, 3), (1, 1)] (roundC Try.prog [] [] [] 3000 40 3 [4, 1, 0, 1, 1, 1, 1, 1, 1, 1] (tellA readsE_t1) readsE) = some readsE_d1 := by kernel_rfl
def readsE_t2 : List (Q × Bool) := [asRl24, asRl31, asRl32, asRl42, asRl49, asRl50, asRl64, asRl41]
def readsE_d2 : List Duty := []
def readsE_h2 : List (Nat × E) := [(10, (.int 0)), (9, (.int 4)), (1, (.bi .add (.var 1) (.int 1))), (0, (.var 0))]
theorem readsE_h2_0 : lookE readsE_h2 0 = (.var 0) := rfl
theorem readsE_h2_1 : lookE readsE_h2 1 = (.bi .add (.var 1) (.int 1)) := rfl
theorem readsE_h2_9 : lookE readsE_h2 9 = (.int 4) := rfl
theorem readsE_h2_10 : lookE readsE_h2 10 = (.int 0) := rfl
theorem readsE_y2 : nextD readsE readsE_h2 [(5, 5), (3, 3), (1, 1)] (roundC Try.prog [] [] [] 3000 40 3 [4, 1, 0, 1, 1, 1, 1, 1, 1, 1] (tellA readsE_t2) readsE) = some readsE_d2 := by kernel_rfl
def readsE_t3 : List (Q × Bool) := [asRl24, asRl31, asRl32, asRl42, asRl49, asRl51, asRl52, asRl64, asRl41]
def readsE_d3 : List Duty := []
def readsE_h3 : List (Nat × E) := [(10, (.int 0)), (9, (.int 4)), (1, (.bi .add (.var 1) (.int 1))), (0, (.var 0))]
theorem readsE_h3_0 : lookE readsE_h3 0 = (.var 0) := rfl
theorem readsE_h3_1 : lookE readsE_h3 1 = (.bi .add (.var 1) (.int 1)) := rfl
theorem readsE_h3_9 : lookE readsE_h3 9 = (.int 4) := rfl
theorem readsE_h3_10 : lookE readsE_h3 10 = (.int 0) := rfl
theorem readsE_y3 : nextD readsE readsE_h3 [(5, 5), (3, 3), (1, 1)] (roundC Try.prog [] [] [] 3000 40 3 [4, 1, 0, 1, 1, 1, 1, 1, 1, 1] (tellA readsE_t3) readsE) = some readsE_d3 := by kernel_rfl
def readsE_t4 : List (Q × Bool) := [asRl24, asRl31, asRl32, asRl42, asRl49, asRl51, asRl56, asRl57, asRl64, asRl41]
def readsE_d4 : List Duty := []
def readsE_h4 : List (Nat × E) := [(10, (.int 0)), (9, (.int 4)), (1, (.bi .add (.var 1) (.int 1))), (0, (.var 0))]
theorem readsE_h4_0 : lookE readsE_h4 0 = (.var 0) := rfl
theorem readsE_h4_1 : lookE readsE_h4 1 = (.bi .add (.var 1) (.int 1)) := rfl
theorem readsE_h4_9 : lookE readsE_h4 9 = (.int 4) := rfl
theorem readsE_h4_10 : lookE readsE_h4 10 = (.int 0) := rfl
theorem readsE_y4 : nextD readsE readsE_h4 [(5, 5), (3, 3), (1, 1)] (roundC Try.prog [] [] [] 3000 40 3 [4, 1, 0, 1, 1, 1, 1, 1, 1, 1] (tellA readsE_t4) readsE) = some readsE_d4 := by kernel_rfl
def readsE_t5 : List (Q × Bool) := [asRl24, asRl31, asRl32, asRl42, asRl49, asRl51, asRl56, asRl61, asRl64, asRl41]
def readsE_d5 : List Duty := []
def readsE_h5 : List (Nat × E) := [(10, (.var 10)), (9, (.var 9)), (1, (.bi .add (.var 1) (.int 1))), (0, (.var 0))]
theorem readsE_h5_0 : lookE readsE_h5 0 = (.var 0) := rfl
theorem readsE_h5_1 : lookE readsE_h5 1 = (.bi .add (.var 1) (.int 1)) := rfl
theorem readsE_h5_9 : lookE readsE_h5 9 = (.var 9) := rfl
theorem readsE_h5_10 : lookE readsE_h5 10 = (.var 10) := rfl
theorem readsE_y5 : nextD readsE readsE_h5 [(5, 5), (3, 3), (1, 1)] (roundC Try.prog [] [] [] 3000 40 3 [4, 1, 0, 1, 1, 1, 1, 1, 1, 1] (tellA readsE_t5) readsE) = some readsE_d5 := by kernel_rfl
abbrev asRl65 : Q × Bool := ((.eq (.var 9) (.int 0)), false)
def readsE_t6 : List (Q × Bool) := [asRl24, asRl31, asRl32, asRl33, asRl65, asRl41]
def readsE_d6 : List Duty := []
def readsE_h6 : List (Nat × E) := [(10, (.var 10)), (9, (.var 9)), (1, (.bi .add (.var 1) (.int 1))), (0, (.var 0))]
theorem readsE_h6_0 : lookE readsE_h6 0 = (.var 0) := rfl
theorem readsE_h6_1 : lookE readsE_h6 1 = (.bi .add (.var 1) (.int 1)) := rfl
theorem readsE_h6_9 : lookE readsE_h6 9 = (.var 9) := rfl
theorem readsE_h6_10 : lookE readsE_h6 10 = (.var 10) := rfl
theorem readsE_y6 : nextD readsE readsE_h6 [(5, 5), (3, 3), (1, 1)] (roundC Try.prog [] [] [] 3000 40 3 [4, 1, 0, 1, 1, 1, 1, 1, 1, 1] (tellA readsE_t6) readsE) = some readsE_d6 := by kernel_rfl
def readsE_t7 : List (Q × Bool) := [asRl24, asRl31, asRl32, asRl42, asRl43, asRl65, asRl41]
def readsE_d7 : List Duty := []
def readsE_h7 : List (Nat × E) := [(10, (.var 10)), (9, (.var 9)), (1, (.bi .add (.var 1) (.int 1))), (0, (.var 0))]
theorem readsE_h7_0 : lookE readsE_h7 0 = (.var 0) := rfl
theorem readsE_h7_1 : lookE readsE_h7 1 = (.bi .add (.var 1) (.int 1)) := rfl
theorem readsE_h7_9 : lookE readsE_h7 9 = (.var 9) := rfl
theorem readsE_h7_10 : lookE readsE_h7 10 = (.var 10) := rfl
theorem readsE_y7 : nextD readsE readsE_h7 [(5, 5), (3, 3), (1, 1)] (roundC Try.prog [] [] [] 3000 40 3 [4, 1, 0, 1, 1, 1, 1, 1, 1, 1] (tellA readsE_t7) readsE) = some readsE_d7 := by kernel_rfl
def readsE_t8 : List (Q × Bool) := [asRl24, asRl31, asRl32, asRl42, asRl49, asRl50, asRl65, asRl41]
def readsE_d8 : List Duty := []
def readsE_h8 : List (Nat × E) := [(10, (.var 10)), (9, (.var 9)), (1, (.bi .add (.var 1) (.int 1))), (0, (.var 0))]
theorem readsE_h8_0 : lookE readsE_h8 0 = (.var 0) := rfl
theorem readsE_h8_1 : lookE readsE_h8 1 = (.bi .add (.var 1) (.int 1)) := rfl
theorem readsE_h8_9 : lookE readsE_h8 9 = (.var 9) := rfl
theorem readsE_h8_10 : lookE readsE_h8 10 = (.var 10) := rfl
theorem readsE_y8 : nextD readsE readsE_h8 [(5, 5), (3, 3), (1, 1)] (roundC Try.prog [] [] [] 3000 40 3 [4, 1, 0, 1, 1, 1, 1, 1, 1, 1] (tellA readsE_t8) readsE) = some readsE_d8 := by kernel_rfl
def readsE_t9 : List (Q × Bool) := [asRl24, asRl31, asRl32, asRl42, asRl49, asRl51, asRl52, asRl65, asRl41]
def readsE_d9 : List Duty := []
def readsE_h9 : List (Nat × E) := [(10, (.var 10)), (9, (.var 9)), (1, (.bi .add (.var 1) (.int 1))), (0, (.var 0))]
theorem readsE_h9_0 : lookE readsE_h9 0 = (.var 0) := rfl
theorem readsE_h9_1 : lookE readsE_h9 1 = (.bi .add (.var 1) (.int 1)) := rfl
theorem readsE_h9_9 : lookE readsE_h9 9 = (.var 9) := rfl
theorem readsE_h9_10 : lookE readsE_h9 10 = (.var 10) := rfl
theorem readsE_y9 : nextD readsE readsE_h9 [(5, 5), (3, 3), (1, 1)] (roundC Try.prog [] [] [] 3000 40 3 [4, 1, 0, 1, 1, 1, 1, 1, 1, 1] (tellA readsE_t9) readsE) = some readsE_d9 := by kernel_rfl
def readsE_t10 : List (Q × Bool) := [asRl24, asRl31, asRl32, asRl42, asRl49, asRl51, asRl56, asRl57, asRl65, asRl41]
def readsE_d10 : List Duty := []
def readsE_h10 : List (Nat × E) := [(10, (.var 10)), (9, (.var 9)), (1, (.bi .add (.var 1) (.int 1))), (0, (.var 0))]
theorem readsE_h10_0 : lookE readsE_h10 0 = (.var 0) := rfl
theorem readsE_h10_1 : lookE readsE_h10 1 = (.bi .add (.var 1) (.int 1)) := rfl
theorem readsE_h10_9 : lookE readsE_h10 9 = (.var 9) := rfl
theorem readsE_h10_10 : lookE readsE_h10 10 = (.var 10) := rfl
theorem readsE_y10 : nextD readsE readsE_h10 [(5, 5), (3, 3), (1, 1)] (roundC Try.prog [] [] [] 3000 40 3 [4, 1, 0, 1, 1, 1, 1, 1, 1, 1] (tellA readsE_t10) readsE) = some readsE_d10 := by kernel_rfl
def readsE_t11 : List (Q × Bool) := [asRl24, asRl31, asRl32, asRl42, asRl49, asRl51, asRl56, asRl61, asRl65, asRl41]
def readsE_d11 : List Duty := []
def readsE_h11 : List (Nat × E) := [(10, (.var 10)), (9, (.var 9)), (1, (.bi .add (.var 1) (.int 1))), (0, (.var 0))]
theorem readsE_h11_0 : lookE readsE_h11 0 = (.var 0) := rfl
theorem readsE_h11_1 : lookE readsE_h11 1 = (.bi .add (.var 1) (.int 1)) := rfl
theorem readsE_h11_9 : lookE readsE_h11 9 = (.var 9) := rfl
theorem readsE_h11_10 : lookE readsE_h11 10 = (.var 10) := rfl
theorem readsE_y11 : nextD readsE readsE_h11 [(5, 5), (3, 3), (1, 1)] (roundC Try.prog [] [] [] 3000 40 3 [4, 1, 0, 1, 1, 1, 1, 1, 1, 1] (tellA readsE_t11) readsE) = some readsE_d11 := by kernel_rfl
def readsE_t12 : List (Q × Bool) := [asRl24, asRl63]
def readsE_d12 : List Duty := []
theorem readsE_y12 : endD readsE [(5, 5), (3, 3), (1, 1)] 1000 (roundC Try.prog [] [] [] 3000 40 3 [4, 1, 0, 1, 1, 1, 1, 1, 1, 1] (tellA readsE_t12) readsE) = some readsE_d12 := by kernel_rfl
theorem readsE_holds : LHolds Try.prog (loopAt Try.prog 3 [4, 1, 0, 1, 1, 1, 1, 1, 1, 1]) readsE F := by
  refine loop_roundsC sound (tableNil _ _) (specsNil _ _) (oversNil _ _) (fuel := 3000) (depth := 40) (by kernel_rfl) (by kernel_rfl) (by kernel_rfl) (fun d => ((d 0).toList.length - (d 1).toInt).toNat) fun d hp hR hA => ?_
  have hp := allTold'_iff.2 hp
  simp only [readsE, allTold', dutiesTold, factsA, factsC, factsP, factsR, AV.facts, RW.facts, inK, and_true, Q.holds', E.i, E.s, E.n, D.nat, E.den, BO.den, UO.den, TO.den, D.toInt_int, D.toList_list, D.ints_ofInts, i64min, i64max, u8min, u8max, u16min, u16max, u32min, u32max, u64min, u64max, i32min, i32max, Om.sub, selI, ints_app, ints_cut, ints_upd, ints_rep, ints_splice, ints_seg, len_ints] at hp hR hA
  have g0 : (d 0).ints.length = (d 0).toList.length := (len_ints _).symm
  have z0 : Int.toNat 0 = 0 := rfl
  have z1 : Int.toNat 1 = 1 := rfl
  have z2 : Int.toNat 2 = 2 := rfl
  by_cases h : ((d 0).toList.length : Int) ≤ (d 1).toInt
  · refine ⟨tellA readsE_t12, tellA_ok (allTold'_iff.1 ?_), .inl ⟨_, _, _, readsE_y12, dutiesTold_ok ?_⟩⟩
    · simp only [readsE_t12, allTold', dutiesTold, factsA, factsC, factsP, factsR, AV.facts, RW.facts, inK, and_true, Q.holds', E.i, E.s, E.n, D.nat, E.den, BO.den, UO.den, TO.den, D.toInt_int, D.toList_list, D.ints_ofInts, i64min, i64max, u8min, u8max, u16min, u16max, u32min, u32max, u64min, u64max, i32min, i32max, Om.sub, selI, ints_app, ints_cut, ints_upd, ints_rep, ints_splice, ints_seg, len_ints]
      omega
    · simp only [readsE_d12, allTold', dutiesTold, factsA, factsC, factsP, factsR, AV.facts, RW.facts, inK, and_true, Q.holds', E.i, E.s, E.n, D.nat, E.den, BO.den, UO.den, TO.den, D.toInt_int, D.toList_list, D.ints_ofInts, i64min, i64max, u8min, u8max, u16min, u16max, u32min, u32max, u64min, u64max, i32min, i32max, Om.sub, selI, ints_app, ints_cut, ints_upd, ints_rep, ints_splice, ints_seg, len_ints]
  · generalize hX : (d 0).toList[(d 1).toInt.toNat]?.getD (D.int 0) = X at *
    generalize hL : X.ints[2]?.getD 0 = L at *
    generalize hN : X.ints[1]?.getD 0 = N at *
    generalize hK : X.ints[0]?.getD 0 = K at *
    by_cases e0 : (d 9).toInt = 0
    · by_cases k0 : K = 0
      · refine ⟨tellA readsE_t0, tellA_ok (allTold'_iff.1 ?_), .inr ⟨readsE_h0, _, _, readsE_y0, dutiesTold_ok ?_, allTold'_iff.1 ?_, ?_⟩⟩
        · simp only [readsE_t0, z0, z1, z2, hX, hL, hN, hK, allTold', dutiesTold, factsA, factsC, factsP, factsR, AV.facts, RW.facts, inK, and_true, Q.holds', E.i, E.s, E.n, D.nat, E.den, BO.den, UO.den, TO.den, D.toInt_int, D.toList_list, D.ints_ofInts, i64min, i64max, u8min, u8max, u16min, u16max, u32min, u32max, u64min, u64max, i32min, i32max, Om.sub, selI, ints_app, ints_cut, ints_upd, ints_rep, ints_splice, ints_seg, len_ints]
          first | done | exact True.intro | omega | (and_intros <;> first | exact True.intro | omega | (rfl; done))
        · simp only [readsE_d0, z0, z1, z2, hX, hL, hN, hK, allTold', dutiesTold, factsA, factsC, factsP, factsR, AV.facts, RW.facts, inK, and_true, Q.holds', E.i, E.s, E.n, D.nat, E.den, BO.den, UO.den, TO.den, D.toInt_int, D.toList_list, D.ints_ofInts, i64min, i64max, u8min, u8max, u16min, u16max, u32min, u32max, u64min, u64max, i32min, i32max, Om.sub, selI, ints_app, ints_cut, ints_upd, ints_rep, ints_splice, ints_seg, len_ints]
          first | done | exact True.intro | omega | (and_intros <;> first | exact True.intro | omega | (rfl; done))
        · simp only [readsE, readsE_h0_0, readsE_h0_1, readsE_h0_9, readsE_h0_10, z0, z1, z2, hX, hL, hN, hK, allTold', dutiesTold, factsA, factsC, factsP, factsR, AV.facts, RW.facts, inK, and_true, Q.holds', E.i, E.s, E.n, D.nat, E.den, BO.den, UO.den, TO.den, D.toInt_int, D.toList_list, D.ints_ofInts, i64min, i64max, u8min, u8max, u16min, u16max, u32min, u32max, u64min, u64max, i32min, i32max, Om.sub, selI, ints_app, ints_cut, ints_upd, ints_rep, ints_splice, ints_seg, len_ints]
          first | done | exact True.intro | omega | (and_intros <;> first | exact True.intro | omega | (rfl; done))
        · simp only [readsE_h0_0, readsE_h0_1, readsE_h0_9, readsE_h0_10, allTold', dutiesTold, factsA, factsC, factsP, factsR, AV.facts, RW.facts, inK, and_true, Q.holds', E.i, E.s, E.n, D.nat, E.den, BO.den, UO.den, TO.den, D.toInt_int, D.toList_list, D.ints_ofInts, i64min, i64max, u8min, u8max, u16min, u16max, u32min, u32max, u64min, u64max, i32min, i32max, Om.sub, selI, ints_app, ints_cut, ints_upd, ints_rep, ints_splice, ints_seg, len_ints]
          omega
      · by_cases k1 : K = 1
        · refine ⟨tellA readsE_t1, tellA_ok (allTold'_iff.1 ?_), .inr ⟨readsE_h1, _, _, readsE_y1, dutiesTold_ok ?_, allTold'_iff.1 ?_, ?_⟩⟩
          · simp only [readsE_t1, z0, z1, z2, hX, hL, hN, hK, allTold', dutiesTold, factsA, factsC, factsP, factsR, AV.facts, RW.facts, inK, and_true, Q.holds', E.i, E.s, E.n, D.nat, E.den, BO.den, UO.den, TO.den, D.toInt_int, D.toList_list, D.ints_ofInts, i64min, i64max, u8min, u8max, u16min, u16max, u32min, u32max, u64min, u64max, i32min, i32max, Om.sub, selI, ints_app, ints_cut, ints_upd, ints_rep, ints_splice, ints_seg, len_ints]
            first | done | exact True.intro | omega | (and_intros <;> first | exact True.intro | omega | (rfl; done))
          · simp only [readsE_d1, z0, z1, z2, hX, hL, hN, hK, allTold', dutiesTold, factsA, factsC, factsP, factsR, AV.facts, RW.facts, inK, and_true, Q.holds', E.i, E.s, E.n, D.nat, E.den, BO.den, UO.den, TO.den, D.toInt_int, D.toList_list, D.ints_ofInts, i64min, i64max, u8min, u8max, u16min, u16max, u32min, u32max, u64min, u64max, i32min, i32max, Om.sub, selI, ints_app, ints_cut, ints_upd, ints_rep, ints_splice, ints_seg, len_ints]
            first | done | exact True.intro | omega | (and_intros <;> first | exact True.intro | omega | (rfl; done))
          · simp only [readsE, readsE_h1_0, readsE_h1_1, readsE_h1_9, readsE_h1_10, z0, z1, z2, hX, hL, hN, hK, allTold', dutiesTold, factsA, factsC, factsP, factsR, AV.facts, RW.facts, inK, and_true, Q.holds', E.i, E.s, E.n, D.nat, E.den, BO.den, UO.den, TO.den, D.toInt_int, D.toList_list, D.ints_ofInts, i64min, i64max, u8min, u8max, u16min, u16max, u32min, u32max, u64min, u64max, i32min, i32max, Om.sub, selI, ints_app, ints_cut, ints_upd, ints_rep, ints_splice, ints_seg, len_ints]
            first | done | exact True.intro | omega | (and_intros <;> first | exact True.intro | omega | (rfl; done))
          · simp only [readsE_h1_0, readsE_h1_1, readsE_h1_9, readsE_h1_10, allTold', dutiesTold, factsA, factsC, factsP, factsR, AV.facts, RW.facts, inK, and_true, Q.holds', E.i, E.s, E.n, D.nat, E.den, BO.den, UO.den, TO.den, D.toInt_int, D.toList_list, D.ints_ofInts, i64min, i64max, u8min, u8max, u16min, u16max, u32min, u32max, u64min, u64max, i32min, i32max, Om.sub, selI, ints_app, ints_cut, ints_upd, ints_rep, ints_splice, ints_seg, len_ints]
            omega
        · by_cases k2 : K = 2
          · refine ⟨tellA readsE_t2, tellA_ok (allTold'_iff.1 ?_), .inr ⟨readsE_h2, _, _, readsE_y2, dutiesTold_ok ?_, allTold'_iff.1 ?_, ?_⟩⟩
            · simp only [readsE_t2, z0, z1, z2, hX, hL, hN, hK, allTold', dutiesTold, factsA, factsC, factsP, factsR, AV.facts, RW.facts, inK, and_true, Q.holds', E.i, E.s, E.n, D.nat, E.den, BO.den, UO.den, TO.den, D.toInt_int, D.toList_list, D.ints_ofInts, i64min, i64max, u8min, u8max, u16min, u16max, u32min, u32max, u64min, u64max, i32min, i32max, Om.sub, selI, ints_app, ints_cut, ints_upd, ints_rep, ints_splice, ints_seg, len_ints]
              first | done | exact True.intro | omega | (and_intros <;> first | exact True.intro | omega | (rfl; done))
            · simp only [readsE_d2, z0, z1, z2, hX, hL, hN, hK, allTold', dutiesTold, factsA, factsC, factsP, factsR, AV.facts, RW.facts, inK, and_true, Q.holds', E.i, E.s, E.n, D.nat, E.den, BO.den, UO.den, TO.den, D.toInt_int, D.toList_list, D.ints_ofInts, i64min, i64max, u8min, u8max, u16min, u16max, u32min, u32max, u64min, u64max, i32min, i32max, Om.sub, selI, ints_app, ints_cut, ints_upd, ints_rep, ints_splice, ints_seg, len_ints]
              first | done | exact True.intro | omega | (and_intros <;> first | exact True.intro | omega | (rfl; done))
            · simp only [readsE, readsE_h2_0, readsE_h2_1, readsE_h2_9, readsE_h2_10, z0, z1, z2, hX, hL, hN, hK, allTold', dutiesTold, factsA, factsC, factsP, factsR, AV.facts, RW.facts, inK, and_true, Q.holds', E.i, E.s, E.n, D.nat, E.den, BO.den, UO.den, TO.den, D.toInt_int, D.toList_list, D.ints_ofInts, i64min, i64max, u8min, u8max, u16min, u16max, u32min, u32max, u64min, u64max, i32min, i32max, Om.sub, selI, ints_app, ints_cut, ints_upd, ints_rep, ints_splice, ints_seg, len_ints]
              first | done | exact True.intro | omega | (and_intros <;> first | exact True.intro | omega | (rfl; done))
            · simp only [readsE_h2_0, readsE_h2_1, readsE_h2_9, readsE_h2_10, allTold', dutiesTold, factsA, factsC, factsP, factsR, AV.facts, RW.facts, inK, and_true, Q.holds', E.i, E.s, E.n, D.nat, E.den, BO.den, UO.den, TO.den, D.toInt_int, D.toList_list, D.ints_ofInts, i64min, i64max, u8min, u8max, u16min, u16max, u32min, u32max, u64min, u64max, i32min, i32max, Om.sub, selI, ints_app, ints_cut, ints_upd, ints_rep, ints_splice, ints_seg, len_ints]
              omega
          · by_cases k3 : K = 3
            · refine ⟨tellA readsE_t3, tellA_ok (allTold'_iff.1 ?_), .inr ⟨readsE_h3, _, _, readsE_y3, dutiesTold_ok ?_, allTold'_iff.1 ?_, ?_⟩⟩
              · simp only [readsE_t3, z0, z1, z2, hX, hL, hN, hK, allTold', dutiesTold, factsA, factsC, factsP, factsR, AV.facts, RW.facts, inK, and_true, Q.holds', E.i, E.s, E.n, D.nat, E.den, BO.den, UO.den, TO.den, D.toInt_int, D.toList_list, D.ints_ofInts, i64min, i64max, u8min, u8max, u16min, u16max, u32min, u32max, u64min, u64max, i32min, i32max, Om.sub, selI, ints_app, ints_cut, ints_upd, ints_rep, ints_splice, ints_seg, len_ints]
                first | done | exact True.intro | omega | (and_intros <;> first | exact True.intro | omega | (rfl; done))
              · simp only [readsE_d3, z0, z1, z2, hX, hL, hN, hK, allTold', dutiesTold, factsA, factsC, factsP, factsR, AV.facts, RW.facts, inK, and_true, Q.holds', E.i, E.s, E.n, D.nat, E.den, BO.den, UO.den, TO.den, D.toInt_int, D.toList_list, D.ints_ofInts, i64min, i64max, u8min, u8max, u16min, u16max, u32min, u32max, u64min, u64max, i32min, i32max, Om.sub, selI, ints_app, ints_cut, ints_upd, ints_rep, ints_splice, ints_seg, len_ints]
                first | done | exact True.intro | omega | (and_intros <;> first | exact True.intro | omega | (rfl; done))
              · simp only [readsE, readsE_h3_0, readsE_h3_1, readsE_h3_9, readsE_h3_10, z0, z1, z2, hX, hL, hN, hK, allTold', dutiesTold, factsA, factsC, factsP, factsR, AV.facts, RW.facts, inK, and_true, Q.holds', E.i, E.s, E.n, D.nat, E.den, BO.den, UO.den, TO.den, D.toInt_int, D.toList_list, D.ints_ofInts, i64min, i64max, u8min, u8max, u16min, u16max, u32min, u32max, u64min, u64max, i32min, i32max, Om.sub, selI, ints_app, ints_cut, ints_upd, ints_rep, ints_splice, ints_seg, len_ints]
                first | done | exact True.intro | omega | (and_intros <;> first | exact True.intro | omega | (rfl; done))
              · simp only [readsE_h3_0, readsE_h3_1, readsE_h3_9, readsE_h3_10, allTold', dutiesTold, factsA, factsC, factsP, factsR, AV.facts, RW.facts, inK, and_true, Q.holds', E.i, E.s, E.n, D.nat, E.den, BO.den, UO.den, TO.den, D.toInt_int, D.toList_list, D.ints_ofInts, i64min, i64max, u8min, u8max, u16min, u16max, u32min, u32max, u64min, u64max, i32min, i32max, Om.sub, selI, ints_app, ints_cut, ints_upd, ints_rep, ints_splice, ints_seg, len_ints]
                omega
            · by_cases k4 : K = 4
              · refine ⟨tellA readsE_t4, tellA_ok (allTold'_iff.1 ?_), .inr ⟨readsE_h4, _, _, readsE_y4, dutiesTold_ok ?_, allTold'_iff.1 ?_, ?_⟩⟩
                · simp only [readsE_t4, z0, z1, z2, hX, hL, hN, hK, allTold', dutiesTold, factsA, factsC, factsP, factsR, AV.facts, RW.facts, inK, and_true, Q.holds', E.i, E.s, E.n, D.nat, E.den, BO.den, UO.den, TO.den, D.toInt_int, D.toList_list, D.ints_ofInts, i64min, i64max, u8min, u8max, u16min, u16max, u32min, u32max, u64min, u64max, i32min, i32max, Om.sub, selI, ints_app, ints_cut, ints_upd, ints_rep, ints_splice, ints_seg, len_ints]
                  first | done | exact True.intro | omega | (and_intros <;> first | exact True.intro | omega | (rfl; done))
                · simp only [readsE_d4, z0, z1, z2, hX, hL, hN, hK, allTold', dutiesTold, factsA, factsC, factsP, factsR, AV.facts, RW.facts, inK, and_true, Q.holds', E.i, E.s, E.n, D.nat, E.den, BO.den, UO.den, TO.den, D.toInt_int, D.toList_list, D.ints_ofInts, i64min, i64max, u8min, u8max, u16min, u16max, u32min, u32max, u64min, u64max, i32min, i32max, Om.sub, selI, ints_app, ints_cut, ints_upd, ints_rep, ints_splice, ints_seg, len_ints]
                  first | done | exact True.intro | omega | (and_intros <;> first | exact True.intro | omega | (rfl; done))
                · simp only [readsE, readsE_h4_0, readsE_h4_1, readsE_h4_9, readsE_h4_10, z0, z1, z2, hX, hL, hN, hK, allTold', dutiesTold, factsA, factsC, factsP, factsR, AV.facts, RW.facts, inK, and_true, Q.holds', E.i, E.s, E.n, D.nat, E.den, BO.den, UO.den, TO.den, D.toInt_int, D.toList_list, D.ints_ofInts, i64min, i64max, u8min, u8max, u16min, u16max, u32min, u32max, u64min, u64max, i32min, i32max, Om.sub, selI, ints_app, ints_cut, ints_upd, ints_rep, ints_splice, ints_seg, len_ints]
                  first | done | exact True.intro | omega | (and_intros <;> first | exact True.intro | omega | (rfl; done))
                · simp only [readsE_h4_0, readsE_h4_1, readsE_h4_9, readsE_h4_10, allTold', dutiesTold, factsA, factsC, factsP, factsR, AV.facts, RW.facts, inK, and_true, Q.holds', E.i, E.s, E.n, D.nat, E.den, BO.den, UO.den, TO.den, D.toInt_int, D.toList_list, D.ints_ofInts, i64min, i64max, u8min, u8max, u16min, u16max, u32min, u32max, u64min, u64max, i32min, i32max, Om.sub, selI, ints_app, ints_cut, ints_upd, ints_rep, ints_splice, ints_seg, len_ints]
                  omega
              · refine ⟨tellA readsE_t5, tellA_ok (allTold'_iff.1 ?_), .inr ⟨readsE_h5, _, _, readsE_y5, dutiesTold_ok ?_, allTold'_iff.1 ?_, ?_⟩⟩
                · simp only [readsE_t5, z0, z1, z2, hX, hL, hN, hK, allTold', dutiesTold, factsA, factsC, factsP, factsR, AV.facts, RW.facts, inK, and_true, Q.holds', E.i, E.s, E.n, D.nat, E.den, BO.den, UO.den, TO.den, D.toInt_int, D.toList_list, D.ints_ofInts, i64min, i64max, u8min, u8max, u16min, u16max, u32min, u32max, u64min, u64max, i32min, i32max, Om.sub, selI, ints_app, ints_cut, ints_upd, ints_rep, ints_splice, ints_seg, len_ints]
                  first | done | exact True.intro | omega | (and_intros <;> first | exact True.intro | omega | (rfl; done))
                · simp only [readsE_d5, z0, z1, z2, hX, hL, hN, hK, allTold', dutiesTold, factsA, factsC, factsP, factsR, AV.facts, RW.facts, inK, and_true, Q.holds', E.i, E.s, E.n, D.nat, E.den, BO.den, UO.den, TO.den, D.toInt_int, D.toList_list, D.ints_ofInts, i64min, i64max, u8min, u8max, u16min, u16max, u32min, u32max, u64min, u64max, i32min, i32max, Om.sub, selI, ints_app, ints_cut, ints_upd, ints_rep, ints_splice, ints_seg, len_ints]
                  first | done | exact True.intro | omega | (and_intros <;> first | exact True.intro | omega | (rfl; done))
                · simp only [readsE, readsE_h5_0, readsE_h5_1, readsE_h5_9, readsE_h5_10, z0, z1, z2, hX, hL, hN, hK, allTold', dutiesTold, factsA, factsC, factsP, factsR, AV.facts, RW.facts, inK, and_true, Q.holds', E.i, E.s, E.n, D.nat, E.den, BO.den, UO.den, TO.den, D.toInt_int, D.toList_list, D.ints_ofInts, i64min, i64max, u8min, u8max, u16min, u16max, u32min, u32max, u64min, u64max, i32min, i32max, Om.sub, selI, ints_app, ints_cut, ints_upd, ints_rep, ints_splice, ints_seg, len_ints]
                  first | done | exact True.intro | omega | (and_intros <;> first | exact True.intro | omega | (rfl; done))
                · simp only [readsE_h5_0, readsE_h5_1, readsE_h5_9, readsE_h5_10, allTold', dutiesTold, factsA, factsC, factsP, factsR, AV.facts, RW.facts, inK, and_true, Q.holds', E.i, E.s, E.n, D.nat, E.den, BO.den, UO.den, TO.den, D.toInt_int, D.toList_list, D.ints_ofInts, i64min, i64max, u8min, u8max, u16min, u16max, u32min, u32max, u64min, u64max, i32min, i32max, Om.sub, selI, ints_app, ints_cut, ints_upd, ints_rep, ints_splice, ints_seg, len_ints]
                  omega
    · by_cases k0 : K = 0
      · refine ⟨tellA readsE_t6, tellA_ok (allTold'_iff.1 ?_), .inr ⟨readsE_h6, _, _, readsE_y6, dutiesTold_ok ?_, allTold'_iff.1 ?_, ?_⟩⟩
        · simp only [readsE_t6, z0, z1, z2, hX, hL, hN, hK, allTold', dutiesTold, factsA, factsC, factsP, factsR, AV.facts, RW.facts, inK, and_true, Q.holds', E.i, E.s, E.n, D.nat, E.den, BO.den, UO.den, TO.den, D.toInt_int, D.toList_list, D.ints_ofInts, i64min, i64max, u8min, u8max, u16min, u16max, u32min, u32max, u64min, u64max, i32min, i32max, Om.sub, selI, ints_app, ints_cut, ints_upd, ints_rep, ints_splice, ints_seg, len_ints]
          first | done | exact True.intro | omega | (and_intros <;> first | exact True.intro | omega | (rfl; done))
        · simp only [readsE_d6, z0, z1, z2, hX, hL, hN, hK, allTold', dutiesTold, factsA, factsC, factsP, factsR, AV.facts, RW.facts, inK, and_true, Q.holds', E.i, E.s, E.n, D.nat, E.den, BO.den, UO.den, TO.den, D.toInt_int, D.toList_list, D.ints_ofInts, i64min, i64max, u8min, u8max, u16min, u16max, u32min, u32max, u64min, u64max, i32min, i32max, Om.sub, selI, ints_app, ints_cut, ints_upd, ints_rep, ints_splice, ints_seg, len_ints]
          first | done | exact True.intro | omega | (and_intros <;> first | exact True.intro | omega | (rfl; done))
        · simp only [readsE, readsE_h6_0, readsE_h6_1, readsE_h6_9, readsE_h6_10, z0, z1, z2, hX, hL, hN, hK, allTold', dutiesTold, factsA, factsC, factsP, factsR, AV.facts, RW.facts, inK, and_true, Q.holds', E.i, E.s, E.n, D.nat, E.den, BO.den, UO.den, TO.den, D.toInt_int, D.toList_list, D.ints_ofInts, i64min, i64max, u8min, u8max, u16min, u16max, u32min, u32max, u64min, u64max, i32min, i32max, Om.sub, selI, ints_app, ints_cut, ints_upd, ints_rep, ints_splice, ints_seg, len_ints]
          first | done | exact True.intro | omega | (and_intros <;> first | exact True.intro | omega | (rfl; done))
        · simp only [readsE_h6_0, readsE_h6_1, readsE_h6_9, readsE_h6_10, allTold', dutiesTold, factsA, factsC, factsP, factsR, AV.facts, RW.facts, inK, and_true, Q.holds', E.i, E.s, E.n, D.nat, E.den, BO.den, UO.den, TO.den, D.toInt_int, D.toList_list, D.ints_ofInts, i64min, i64max, u8min, u8max, u16min, u16max, u32min, u32max, u64min, u64max, i32min, i32max, Om.sub, selI, ints_app, ints_cut, ints_upd, ints_rep, ints_splice, ints_seg, len_ints]
          omega
      · by_cases k1 : K = 1
        · refine ⟨tellA readsE_t7, tellA_ok (allTold'_iff.1 ?_), .inr ⟨readsE_h7, _, _, readsE_y7, dutiesTold_ok ?_, allTold'_iff.1 ?_, ?_⟩⟩
          · simp only [readsE_t7, z0, z1, z2, hX, hL, hN, hK, allTold', dutiesTold, factsA, factsC, factsP, factsR, AV.facts, RW.facts, inK, and_true, Q.holds', E.i, E.s, E.n, D.nat, E.den, BO.den, UO.den, TO.den, D.toInt_int, D.toList_list, D.ints_ofInts, i64min, i64max, u8min, u8max, u16min, u16max, u32min, u32max, u64min, u64max, i32min, i32max, Om.sub, selI, ints_app, ints_cut, ints_upd, ints_rep, ints_splice, ints_seg, len_ints]
            first | done | exact True.intro | omega | (and_intros <;> first | exact True.intro | omega | (rfl; done))
          · simp only [readsE_d7, z0, z1, z2, hX, hL, hN, hK, allTold', dutiesTold, factsA, factsC, factsP, factsR, AV.facts, RW.facts, inK, and_true, Q.holds', E.i, E.s, E.n, D.nat, E.den, BO.den, UO.den, TO.den, D.toInt_int, D.toList_list, D.ints_ofInts, i64min, i64max, u8min, u8max, u16min, u16max, u32min, u32max, u64min, u64max, i32min, i32max, Om.sub, selI, ints_app, ints_cut, ints_upd, ints_rep, ints_splice, ints_seg, len_ints]
            first | done | exact True.intro | omega | (and_intros <;> first | exact True.intro | omega | (rfl; done))
          · simp only [readsE, readsE_h7_0, readsE_h7_1, readsE_h7_9, readsE_h7_10, z0, z1, z2, hX, hL, hN, hK, allTold', dutiesTold, factsA, factsC, factsP, factsR, AV.facts, RW.facts, inK, and_true, Q.holds', E.i, E.s, E.n, D.nat, E.den, BO.den, UO.den, TO.den, D.toInt_int, D.toList_list, D.ints_ofInts, i64min, i64max, u8min, u8max, u16min, u16max, u32min, u32max, u64min, u64max, i32min, i32max, Om.sub, selI, ints_app, ints_cut, ints_upd, ints_rep, ints_splice, ints_seg, len_ints]
            first | done | exact True.intro | omega | (and_intros <;> first | exact True.intro | omega | (rfl; done))
          · simp only [readsE_h7_0, readsE_h7_1, readsE_h7_9, readsE_h7_10, allTold', dutiesTold, factsA, factsC, factsP, factsR, AV.facts, RW.facts, inK, and_true, Q.holds', E.i, E.s, E.n, D.nat, E.den, BO.den, UO.den, TO.den, D.toInt_int, D.toList_list, D.ints_ofInts, i64min, i64max, u8min, u8max, u16min, u16max, u32min, u32max, u64min, u64max, i32min, i32max, Om.sub, selI, ints_app, ints_cut, ints_upd, ints_rep, ints_splice, ints_seg, len_ints]
            omega
        · by_cases k2 : K = 2
          · refine ⟨tellA readsE_t8, tellA_ok (allTold'_iff.1 ?_), .inr ⟨readsE_h8, _, _, readsE_y8, dutiesTold_ok ?_, allTold'_iff.1 ?_, ?_⟩⟩
            · simp only [readsE_t8, z0, z1, z2, hX, hL, hN, hK, allTold', dutiesTold, factsA, factsC, factsP, factsR, AV.facts, RW.facts, inK, and_true, Q.holds', E.i, E.s, E.n, D.nat, E.den, BO.den, UO.den, TO.den, D.toInt_int, D.toList_list, D.ints_ofInts, i64min, i64max, u8min, u8max, u16min, u16max, u32min, u32max, u64min, u64max, i32min, i32max, Om.sub, selI, ints_app, ints_cut, ints_upd, ints_rep, ints_splice, ints_seg, len_ints]
              first | done | exact True.intro | omega | (and_intros <;> first | exact True.intro | omega | (rfl; done))
            · simp only [readsE_d8, z0, z1, z2, hX, hL, hN, hK, allTold', dutiesTold, factsA, factsC, factsP, factsR, AV.facts, RW.facts, inK, and_true, Q.holds', E.i, E.s, E.n, D.nat, E.den, BO.den, UO.den, TO.den, D.toInt_int, D.toList_list, D.ints_ofInts, i64min, i64max, u8min, u8max, u16min, u16max, u32min, u32max, u64min, u64max, i32min, i32max, Om.sub, selI, ints_app, ints_cut, ints_upd, ints_rep, ints_splice, ints_seg, len_ints]
              first | done | exact True.intro | omega | (and_intros <;> first | exact True.intro | omega | (rfl; done))
            · simp only [readsE, readsE_h8_0, readsE_h8_1, readsE_h8_9, readsE_h8_10, z0, z1, z2, hX, hL, hN, hK, allTold', dutiesTold, factsA, factsC, factsP, factsR, AV.facts, RW.facts, inK, and_true, Q.holds', E.i, E.s, E.n, D.nat, E.den, BO.den, UO.den, TO.den, D.toInt_int, D.toList_list, D.ints_ofInts, i64min, i64max, u8min, u8max, u16min, u16max, u32min, u32max, u64min, u64max, i32min, i32max, Om.sub, selI, ints_app, ints_cut, ints_upd, ints_rep, ints_splice, ints_seg, len_ints]
              first | done | exact True.intro | omega | (and_intros <;> first | exact True.intro | omega | (rfl; done))
            · simp only [readsE_h8_0, readsE_h8_1, readsE_h8_9, readsE_h8_10, allTold', dutiesTold, factsA, factsC, factsP, factsR, AV.facts, RW.facts, inK, and_true, Q.holds', E.i, E.s, E.n, D.nat, E.den, BO.den, UO.den, TO.den, D.toInt_int, D.toList_list, D.ints_ofInts, i64min, i64max, u8min, u8max, u16min, u16max, u32min, u32max, u64min, u64max, i32min, i32max, Om.sub, selI, ints_app, ints_cut, ints_upd, ints_rep, ints_splice, ints_seg, len_ints]
              omega
          · by_cases k3 : K = 3
            · refine ⟨tellA readsE_t9, tellA_ok (allTold'_iff.1 ?_), .inr ⟨readsE_h9, _, _, readsE_y9, dutiesTold_ok ?_, allTold'_iff.1 ?_, ?_⟩⟩
              · simp only [readsE_t9, z0, z1, z2, hX, hL, hN, hK, allTold', dutiesTold, factsA, factsC, factsP, factsR, AV.facts, RW.facts, inK, and_true, Q.holds', E.i, E.s, E.n, D.nat, E.den, BO.den, UO.den, TO.den, D.toInt_int, D.toList_list, D.ints_ofInts, i64min, i64max, u8min, u8max, u16min, u16max, u32min, u32max, u64min, u64max, i32min, i32max, Om.sub, selI, ints_app, ints_cut, ints_upd, ints_rep, ints_splice, ints_seg, len_ints]
                first | done | exact True.intro | omega | (and_intros <;> first | exact True.intro | omega | (rfl; done))
              · simp only [readsE_d9, z0, z1, z2, hX, hL, hN, hK, allTold', dutiesTold, factsA, factsC, factsP, factsR, AV.facts, RW.facts, inK, and_true, Q.holds', E.i, E.s, E.n, D.nat, E.den, BO.den, UO.den, TO.den, D.toInt_int, D.toList_list, D.ints_ofInts, i64min, i64max, u8min, u8max, u16min, u16max, u32min, u32max, u64min, u64max, i32min, i32max, Om.sub, selI, ints_app, ints_cut, ints_upd, ints_rep, ints_splice, ints_seg, len_ints]
                first | done | exact True.intro | omega | (and_intros <;> first | exact True.intro | omega | (rfl; done))
              · simp only [readsE, readsE_h9_0, readsE_h9_1, readsE_h9_9, readsE_h9_10, z0, z1, z2, hX, hL, hN, hK, allTold', dutiesTold, factsA, factsC, factsP, factsR, AV.facts, RW.facts, inK, and_true, Q.holds', E.i, E.s, E.n, D.nat, E.den, BO.den, UO.den, TO.den, D.toInt_int, D.toList_list, D.ints_ofInts, i64min, i64max, u8min, u8max, u16min, u16max, u32min, u32max, u64min, u64max, i32min, i32max, Om.sub, selI, ints_app, ints_cut, ints_upd, ints_rep, ints_splice, ints_seg, len_ints]
                first | done | exact True.intro | omega | (and_intros <;> first | exact True.intro | omega | (rfl; done))
              · simp only [readsE_h9_0, readsE_h9_1, readsE_h9_9, readsE_h9_10, allTold', dutiesTold, factsA, factsC, factsP, factsR, AV.facts, RW.facts, inK, and_true, Q.holds', E.i, E.s, E.n, D.nat, E.den, BO.den, UO.den, TO.den, D.toInt_int, D.toList_list, D.ints_ofInts, i64min, i64max, u8min, u8max, u16min, u16max, u32min, u32max, u64min, u64max, i32min, i32max, Om.sub, selI, ints_app, ints_cut, ints_upd, ints_rep, ints_splice, ints_seg, len_ints]
                omega
            · by_cases k4 : K = 4
              · refine ⟨tellA readsE_t10, tellA_ok (allTold'_iff.1 ?_), .inr ⟨readsE_h10, _, _, readsE_y10, dutiesTold_ok ?_, allTold'_iff.1 ?_, ?_⟩⟩
                · simp only [readsE_t10, z0, z1, z2, hX, hL, hN, hK, allTold', dutiesTold, factsA, factsC, factsP, factsR, AV.facts, RW.facts, inK, and_true, Q.holds', E.i, E.s, E.n, D.nat, E.den, BO.den, UO.den, TO.den, D.toInt_int, D.toList_list, D.ints_ofInts, i64min, i64max, u8min, u8max, u16min, u16max, u32min, u32max, u64min, u64max, i32min, i32max, Om.sub, selI, ints_app, ints_cut, ints_upd, ints_rep, ints_splice, ints_seg, len_ints]
                  first | done | exact True.intro | omega | (and_intros <;> first | exact True.intro | omega | (rfl; done))
                · simp only [readsE_d10, z0, z1, z2, hX, hL, hN, hK, allTold', dutiesTold, factsA, factsC, factsP, factsR, AV.facts, RW.facts, inK, and_true, Q.holds', E.i, E.s, E.n, D.nat, E.den, BO.den, UO.den, TO.den, D.toInt_int, D.toList_list, D.ints_ofInts, i64min, i64max, u8min, u8max, u16min, u16max, u32min, u32max, u64min, u64max, i32min, i32max, Om.sub, selI, ints_app, ints_cut, ints_upd, ints_rep, ints_splice, ints_seg, len_ints]
                  first | done | exact True.intro | omega | (and_intros <;> first | exact True.intro | omega | (rfl; done))
                · simp only [readsE, readsE_h10_0, readsE_h10_1, readsE_h10_9, readsE_h10_10, z0, z1, z2, hX, hL, hN, hK, allTold', dutiesTold, factsA, factsC, factsP, factsR, AV.facts, RW.facts, inK, and_true, Q.holds', E.i, E.s, E.n, D.nat, E.den, BO.den, UO.den, TO.den, D.toInt_int, D.toList_list, D.ints_ofInts, i64min, i64max, u8min, u8max, u16min, u16max, u32min, u32max, u64min, u64max, i32min, i32max, Om.sub, selI, ints_app, ints_cut, ints_upd, ints_rep, ints_splice, ints_seg, len_ints]
                  first | done | exact True.intro | omega | (and_intros <;> first | exact True.intro | omega | (rfl; done))
                · simp only [readsE_h10_0, readsE_h10_1, readsE_h10_9, readsE_h10_10, allTold', dutiesTold, factsA, factsC, factsP, factsR, AV.facts, RW.facts, inK, and_true, Q.holds', E.i, E.s, E.n, D.nat, E.den, BO.den, UO.den, TO.den, D.toInt_int, D.toList_list, D.ints_ofInts, i64min, i64max, u8min, u8max, u16min, u16max, u32min, u32max, u64min, u64max, i32min, i32max, Om.sub, selI, ints_app, ints_cut, ints_upd, ints_rep, ints_splice, ints_seg, len_ints]
                  omega
              · refine ⟨tellA readsE_t11, tellA_ok (allTold'_iff.1 ?_), .inr ⟨readsE_h11, _, _, readsE_y11, dutiesTold_ok ?_, allTold'_iff.1 ?_, ?_⟩⟩
                · simp only [readsE_t11, z0, z1, z2, hX, hL, hN, hK, allTold', dutiesTold, factsA, factsC, factsP, factsR, AV.facts, RW.facts, inK, and_true, Q.holds', E.i, E.s, E.n, D.nat, E.den, BO.den, UO.den, TO.den, D.toInt_int, D.toList_list, D.ints_ofInts, i64min, i64max, u8min, u8max, u16min, u16max, u32min, u32max, u64min, u64max, i32min, i32max, Om.sub, selI, ints_app, ints_cut, ints_upd, ints_rep, ints_splice, ints_seg, len_ints]
                  first | done | exact True.intro | omega | (and_intros <;> first | exact True.intro | omega | (rfl; done))
                · simp only [readsE_d11, z0, z1, z2, hX, hL, hN, hK, allTold', dutiesTold, factsA, factsC, factsP, factsR, AV.facts, RW.facts, inK, and_true, Q.holds', E.i, E.s, E.n, D.nat, E.den, BO.den, UO.den, TO.den, D.toInt_int, D.toList_list, D.ints_ofInts, i64min, i64max, u8min, u8max, u16min, u16max, u32min, u32max, u64min, u64max, i32min, i32max, Om.sub, selI, ints_app, ints_cut, ints_upd, ints_rep, ints_splice, ints_seg, len_ints]
                  first | done | exact True.intro | omega | (and_intros <;> first | exact True.intro | omega | (rfl; done))
                · simp only [readsE, readsE_h11_0, readsE_h11_1, readsE_h11_9, readsE_h11_10, z0, z1, z2, hX, hL, hN, hK, allTold', dutiesTold, factsA, factsC, factsP, factsR, AV.facts, RW.facts, inK, and_true, Q.holds', E.i, E.s, E.n, D.nat, E.den, BO.den, UO.den, TO.den, D.toInt_int, D.toList_list, D.ints_ofInts, i64min, i64max, u8min, u8max, u16min, u16max, u32min, u32max, u64min, u64max, i32min, i32max, Om.sub, selI, ints_app, ints_cut, ints_upd, ints_rep, ints_splice, ints_seg, len_ints]
                  first | done | exact True.intro | omega | (and_intros <;> first | exact True.intro | omega | (rfl; done))
                · simp only [readsE_h11_0, readsE_h11_1, readsE_h11_9, readsE_h11_10, allTold', dutiesTold, factsA, factsC, factsP, factsR, AV.facts, RW.facts, inK, and_true, Q.holds', E.i, E.s, E.n, D.nat, E.den, BO.den, UO.den, TO.den, D.toInt_int, D.toList_list, D.ints_ofInts, i64min, i64max, u8min, u8max, u16min, u16max, u32min, u32max, u64min, u64max, i32min, i32max, Om.sub, selI, ints_app, ints_cut, ints_upd, ints_rep, ints_splice, ints_seg, len_ints]
                  omega

def tab : List LEntry := [⟨9, [4, 1, 1], overL⟩, ⟨4, [4, 1, 0, 1, 1], largeL⟩, ⟨3, [4, 1, 0, 1, 1, 1, 1, 1, 1, 1], readsL⟩, ⟨3, [4, 1, 0, 1, 1, 1, 1, 1, 1, 1], readsE⟩]
def specs : List (FuncId × CSpec) := [(34, numberC), (5, awakeC), (11, intP), (20, countP), (13, bytesP), (13, bytesN), (16, textP), (18, idP), (26, endP), (52, getC), (52, getB), (36, numberR), (15, bytesR), (15, bytesRN), (17, textR), (19, idR), (27, endR), (6, lentC), (8, keptC)]
def overs : Overs := [(9, 5, .u8)]
theorem tab_ok : TableOK Try.prog tab F := tableCons overL_holds (tableCons largeL_holds (tableCons readsL_holds (tableCons readsE_holds (tableNil _ _))))
theorem specs_ok : SpecsOK Try.prog specs F := specsCons numberC_holds (specsCons awakeC_holds (specsCons intP_holds (specsCons countP_holds (specsCons bytesP_holds (specsCons bytesN_holds (specsCons textP_holds (specsCons idP_holds (specsCons endP_holds (specsCons getC_holds (specsCons getB_holds (specsCons numberR_holds (specsCons bytesR_holds (specsCons bytesRN_holds (specsCons textR_holds (specsCons idR_holds (specsCons endR_holds (specsCons lentC_holds (specsCons keptC_holds (specsNil _ _)))))))))))))))))))
theorem overs_ok : OversOK Try.prog overs F := oversCons overV_holds (oversNil _ _)
def tabB : List LEntry := []
def specsB : List (FuncId × CSpec) := []
def oversB : Overs := []
theorem tabB_ok : TableOK Try.prog tabB F := tableNil _ _
theorem specsB_ok : SpecsOK Try.prog specsB F := specsNil _ _
theorem oversB_ok : OversOK Try.prog oversB F := oversNil _ _
end Go.Proofs.Ytdldnaecfhaofaa.Rl
