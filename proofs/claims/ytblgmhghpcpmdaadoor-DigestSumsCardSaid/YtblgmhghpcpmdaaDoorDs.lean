/-
  Contracts of this seat: what loops and calls leave, for all inputs. No condition.
-/
import Derived.Test.YtblgmhghpcpmdaaDoorSycp
import Derived.Test.YtblgmhghpcpmdaaDoorCo
import Derived.Test.YtblgmhghpcpmdaaDoorDp
import Derived.Test.YtblgmhghpcpmdaaDoorDu
import Derived.Test.YtblgmhghpcpmdaaDoorDq
import Derived.Test.YtblgmhghpcpmdaaDoorDr
set_option linter.unusedSimpArgs false
set_option linter.unusedVariables false
namespace Go.Proofs.YtblgmhghpcpmdaaDoor.Ds
open Go.RowKit Go.Ev Go.Proofs.YtblgmhghpcpmdaaDoor.Co

open Go.Proofs.YtblgmhghpcpmdaaDoor.Dp
open Go.Proofs.YtblgmhghpcpmdaaDoor.Du
open Go.Proofs.YtblgmhghpcpmdaaDoor.Dq
open Go.Proofs.YtblgmhghpcpmdaaDoor.Dr

theorem lent_prt {X : List Int} {l : Int} (h : 0 ≤ l) (h2 : l ≤ X.length) : prt (lentI (prt X 0 (0 + l))) 0 (0 + l) = prt X 0 (0 + l) := by
  have hl := prt_length (x := X) (o := 0) (t := 0 + l) (by omega) (by omega) (by omega)
  have e : ∀ (r t : List Int), (r.length : Int) = l → prt (r ++ t) 0 (0 + l) = r := by
    intro r t hr
    unfold prt
    rw [List.take_append_of_le_length (by omega), List.take_of_length_le (by omega)]
    rfl
  exact e _ _ (by omega)

def lentC : CSpec := { args := [.sslice 3 (.var 1) (.var 2) (.var 3) false], next := 2, rows := [(3, .eseq ⟨.u8, .var 4, .var 5⟩)], pre := [(.le (.bi .add (.var 1) (.var 2)) (.var 4), true), (.le (.var 2) (.int 1000000), true)], res := .sslice 5 (.int 0) (.var 2) (.bi .add (.var 2) (.int 3)) false, frows := [(5, .seq ⟨5, .u8, .bi .add (.var 2) (.int 3), .fn 6 (argsE [.var 5, .var 1, .bi .add (.var 1) (.var 2)]), false, false⟩)], same := [] }
abbrev asDs0 : Q × Bool := ((.fit .i64 (.var 2)), true)
abbrev asDs1 : Q × Bool := ((.fit .i64 (.bi .add (.var 2) (.int 3))), true)
abbrev asDs2 : Q × Bool := ((.le (.int 0) (.bi .add (.var 2) (.int 3))), true)
abbrev asDs3 : Q × Bool := ((.le (.bi .add (.var 2) (.int 3)) (.int 281474976710656)), true)
abbrev asDs4 : Q × Bool := ((.le (.bi .add (.var 2) (.int 3)) (.int 9223372036854775807)), true)
abbrev asDs5 : Q × Bool := ((.le (.bi .add (.var 1) (.var 2)) (.var 4)), true)
abbrev asDs6 : Q × Bool := ((.le (.var 2) (.bi .add (.var 2) (.int 3))), true)
abbrev asDs7 : Q × Bool := ((.le (.bi .add (.var 2) (.int 3)) (.var 2)), false)
abbrev asDs8 : Q × Bool := ((.fit .i64 (.bi .add (.bi (.iop .rem .i64) (.var 2) (.int 90)) (.int 160))), true)
abbrev asDs9 : Q × Bool := ((.le (.int 0) (.var 2)), true)
abbrev asDs10 : Q × Bool := ((.fit .i64 (.bi .add (.var 2) (.int 1))), true)
abbrev asDs11 : Q × Bool := ((.le (.bi .add (.var 2) (.int 3)) (.bi .add (.var 2) (.int 1))), false)
abbrev asDs12 : Q × Bool := ((.fit .i64 (.bi .add (.bi (.iop .rem .i64) (.bi .add (.var 2) (.int 1)) (.int 90)) (.int 160))), true)
abbrev asDs13 : Q × Bool := ((.le (.int 0) (.bi .add (.var 2) (.int 1))), true)
abbrev asDs14 : Q × Bool := ((.fit .i64 (.bi .add (.var 2) (.int 2))), true)
abbrev asDs15 : Q × Bool := ((.le (.bi .add (.var 2) (.int 3)) (.bi .add (.var 2) (.int 2))), false)
abbrev asDs16 : Q × Bool := ((.fit .i64 (.bi .add (.bi (.iop .rem .i64) (.bi .add (.var 2) (.int 2)) (.int 90)) (.int 160))), true)
abbrev asDs17 : Q × Bool := ((.le (.int 0) (.bi .add (.var 2) (.int 2))), true)
def lentC_t0 : List (Q × Bool) := [asDs0, asDs1, asDs2, asDs3, asDs4, asDs5, asDs6, asDs7, asDs8, asDs9, asDs10, asDs11, asDs12, asDs13, asDs14, asDs15, asDs16, asDs17]
def lentC_d0 : List Duty := [(false, (.tr .upd (.tr .upd (.tr .upd (.tr .splice (.bi .rep (.bi .add (.var 2) (.int 3)) (.int 0)) (.int 0) (.tr .cut (.var 5) (.var 1) (.bi .add (.var 1) (.var 2)))) (.var 2) (.un (.wrap .u8) (.bi .add (.bi (.iop .rem .i64) (.var 2) (.int 90)) (.int 160)))) (.bi .add (.var 2) (.int 1)) (.un (.wrap .u8) (.bi .add (.bi (.iop .rem .i64) (.bi .add (.var 2) (.int 1)) (.int 90)) (.int 160)))) (.bi .add (.var 2) (.int 2)) (.un (.wrap .u8) (.bi .add (.bi (.iop .rem .i64) (.bi .add (.var 2) (.int 2)) (.int 90)) (.int 160)))), (.fn 6 (.bi .pair (.var 5) (.bi .pair (.var 1) (.bi .pair (.bi .add (.var 1) (.var 2)) (.int 0))))))]
theorem lentC_y0 : endC lentC [(5, 5)] 1000 (callC Tryd.prog (tellA lentC_t0) [] [] [] 3000 40 7 lentC) = some lentC_d0 := by kernel_rfl
theorem lentC_holds : CHolds Tryd.prog 7 lentC F := by
  refine cholds_of sound (tableNil _ _) (specsNil _ _) (oversNil _ _) (fuel := 3000) (depth := 40) (by kernel_rfl) fun d hp hR hA => ?_
  have hp := allTold'_iff.2 hp
  simp only [lentC, allTold', dutiesTold, factsA, factsC, factsP, factsR, AV.facts, RW.facts, inK, and_true, Q.holds', E.i, E.s, E.n, D.nat, E.den, BO.den, UO.den, TO.den, D.toInt_int, D.toList_list, D.ints_ofInts, i64min, i64max, u8min, u8max, u16min, u16max, u32min, u32max, u64min, u64max, i32min, i32max, Om.sub, selI, ints_app, ints_cut, ints_upd, ints_rep, ints_splice, ints_seg, len_ints] at hp hR hA
  refine ⟨tellA lentC_t0, _, _, _, tellA_ok (allTold'_iff.1 ?_), lentC_y0, dutiesTold_ok ?_⟩
  · simp only [lentC_t0, allTold', dutiesTold, factsA, factsC, factsP, factsR, AV.facts, RW.facts, inK, and_true, Q.holds', E.i, E.s, E.n, D.nat, E.den, BO.den, UO.den, TO.den, D.toInt_int, D.toList_list, D.ints_ofInts, i64min, i64max, u8min, u8max, u16min, u16max, u32min, u32max, u64min, u64max, i32min, i32max, Om.sub, selI, ints_app, ints_cut, ints_upd, ints_rep, ints_splice, ints_seg, len_ints]
    rw [rem_emod _ (by omega), rem_emod _ (by omega), rem_emod _ (by omega)]
    omega
  · simp only [lentC_d0, F6, ints_list, List.map_set, List.map_append, List.map_drop, List.map_take, List.map_replicate, List.length_drop, map_ints, allTold', dutiesTold, factsA, factsC, factsP, factsR, AV.facts, RW.facts, inK, and_true, Q.holds', E.i, E.s, E.n, D.nat, E.den, BO.den, UO.den, TO.den, D.toInt_int, D.toList_list, D.ints_ofInts, i64min, i64max, u8min, u8max, u16min, u16max, u32min, u32max, u64min, u64max, i32min, i32max, Om.sub, selI, ints_app, ints_cut, ints_upd, ints_rep, ints_splice, ints_seg, len_ints]
    rw [rem_emod _ (by omega), rem_emod _ (by omega), rem_emod _ (by omega)]
    obtain ⟨n, hn⟩ := Int.eq_ofNat_of_zero_le hA.1
    rw [hn] at hp hA ⊢
    have hl := prt_length (x := (d 5).ints) (o := (d 1).toInt) (t := (d 1).toInt + n) (by omega) (by omega) (by omega)
    have e1 : (List.drop (d 1).toInt.toNat (List.take ((d 1).toInt + n).toNat (d 5).ints)) = prt (d 5).ints (d 1).toInt ((d 1).toInt + n) := rfl
    have e2 : (List.take ((d 1).toInt + n).toNat (d 5).toList).length - (d 1).toInt.toNat = (prt (d 5).ints (d 1).toInt ((d 1).toInt + n)).length := by
      rw [← e1]; simp [D.ints]
    have h3 := lent_set (List.replicate (n + 3) 0) (prt (d 5).ints (d 1).toInt ((d 1).toInt + n)) n (by omega)
    rw [show ((n : Int) + 3).toNat = n + 3 by omega, show ((n : Int) + 2).toNat = n + 2 by omega, show ((n : Int) + 1).toNat = n + 1 by omega, show ((n : Int)).toNat = n by omega, show Int.toNat 0 = 0 from rfl, e1, e2, h3]
    unfold lentI markI
    rw [wrap_fit (by simp only [u8min, u8max]; omega), wrap_fit (by simp only [u8min, u8max]; omega), wrap_fit (by simp only [u8min, u8max]; omega)]
    rw [show ((prt (d 5).ints (d 1).toInt ((d 1).toInt + n)).length : Int) = n by omega]
    simp only [Int.add_comm]

def keptC : CSpec := { args := [.sslice 5 (.int 0) (.var 2) (.bi .add (.var 2) (.int 3)) false, .sslice 3 (.var 1) (.var 2) (.var 3) false], next := 3, rows := [(3, .eseq ⟨.u8, .var 4, .var 5⟩), (5, .eseq ⟨.u8, .bi .add (.var 2) (.int 3), .fn 6 (argsE [.var 5, .var 1, .bi .add (.var 1) (.var 2)])⟩)], pre := [(.le (.bi .add (.var 1) (.var 2)) (.var 4), true), (.le (.var 2) (.int 1000000), true)], res := .bool true, frows := [], same := [] }
abbrev asDs18 : Q × Bool := ((.le (.var 2) (.int 1000000)), true)
def keptC_t0 : List (Q × Bool) := [asDs0, asDs1, asDs2, asDs5, asDs18]
def keptC_d0 : List Duty := []
theorem keptC_y0 : endC keptC [] 1000 (callC Tryd.prog (tellA keptC_t0) [] [(7, lentC)] [] 3000 40 12 keptC) = some keptC_d0 := by kernel_rfl
theorem keptC_holds : CHolds Tryd.prog 12 keptC F := by
  refine cholds_of sound (tableNil _ _) (specsCons lentC_holds (specsNil _ _)) (oversNil _ _) (fuel := 3000) (depth := 40) (by kernel_rfl) fun d hp hR hA => ?_
  have hp := allTold'_iff.2 hp
  simp only [keptC, allTold', dutiesTold, factsA, factsC, factsP, factsR, AV.facts, RW.facts, inK, and_true, Q.holds', E.i, E.s, E.n, D.nat, E.den, BO.den, UO.den, TO.den, D.toInt_int, D.toList_list, D.ints_ofInts, i64min, i64max, u8min, u8max, u16min, u16max, u32min, u32max, u64min, u64max, i32min, i32max, Om.sub, selI, ints_app, ints_cut, ints_upd, ints_rep, ints_splice, ints_seg, len_ints] at hp hR hA
  refine ⟨tellA keptC_t0, _, _, _, tellA_ok (allTold'_iff.1 ?_), keptC_y0, dutiesTold_ok ?_⟩
  · simp only [keptC_t0, allTold', dutiesTold, factsA, factsC, factsP, factsR, AV.facts, RW.facts, inK, and_true, Q.holds', E.i, E.s, E.n, D.nat, E.den, BO.den, UO.den, TO.den, D.toInt_int, D.toList_list, D.ints_ofInts, i64min, i64max, u8min, u8max, u16min, u16max, u32min, u32max, u64min, u64max, i32min, i32max, Om.sub, selI, ints_app, ints_cut, ints_upd, ints_rep, ints_splice, ints_seg, len_ints]
    omega
  · simp only [keptC_d0, allTold', dutiesTold, factsA, factsC, factsP, factsR, AV.facts, RW.facts, inK, and_true, Q.holds', E.i, E.s, E.n, D.nat, E.den, BO.den, UO.den, TO.den, D.toInt_int, D.toList_list, D.ints_ofInts, i64min, i64max, u8min, u8max, u16min, u16max, u32min, u32max, u64min, u64max, i32min, i32max, Om.sub, selI, ints_app, ints_cut, ints_upd, ints_rep, ints_splice, ints_seg, len_ints]

def awakeC : CSpec := ⟨[], 0, [(0, .ext cellsG)], [], .bool true, [], []⟩
set_option maxRecDepth 100000 in
theorem awakeC_y : endC awakeC [] 1000 (callW Tryd.prog F noAsk [⟨36, [4, 1, 0, 1, 1, 1], sprL⟩, ⟨32, [4, 1, 0, 1, 1, 1], mixL⟩] [(32, mixedC)] [] 8000 80 6 awakeC) = some [] := by kernel_rfl
theorem awakeC_holds : CHolds Tryd.prog 6 awakeC F := choldsW_of sound (tableCons sprL_holds (tableCons mixL_holds (tableNil _ _))) (specsCons mixedC_holds (specsNil _ _)) (oversNil _ _) (by kernel_rfl) fun d _ _ _ => ⟨noAsk, [], 1000, [], noAsk_ok _, awakeC_y, fun p hp => by cases hp⟩

def rsumE : CSpec := { args := [.empty], next := 0, rows := [], pre := [], res := .agg [.sint .u8 (.bi .sel (.fn 10 (argsE [.lits [], .int 0, .int 0])) (.int 0)), .sint .u8 (.bi .sel (.fn 10 (argsE [.lits [], .int 0, .int 0])) (.int 1)), .sint .u8 (.bi .sel (.fn 10 (argsE [.lits [], .int 0, .int 0])) (.int 2)), .sint .u8 (.bi .sel (.fn 10 (argsE [.lits [], .int 0, .int 0])) (.int 3)), .sint .u8 (.bi .sel (.fn 10 (argsE [.lits [], .int 0, .int 0])) (.int 4)), .sint .u8 (.bi .sel (.fn 10 (argsE [.lits [], .int 0, .int 0])) (.int 5)), .sint .u8 (.bi .sel (.fn 10 (argsE [.lits [], .int 0, .int 0])) (.int 6)), .sint .u8 (.bi .sel (.fn 10 (argsE [.lits [], .int 0, .int 0])) (.int 7)), .sint .u8 (.bi .sel (.fn 10 (argsE [.lits [], .int 0, .int 0])) (.int 8)), .sint .u8 (.bi .sel (.fn 10 (argsE [.lits [], .int 0, .int 0])) (.int 9)), .sint .u8 (.bi .sel (.fn 10 (argsE [.lits [], .int 0, .int 0])) (.int 10)), .sint .u8 (.bi .sel (.fn 10 (argsE [.lits [], .int 0, .int 0])) (.int 11)), .sint .u8 (.bi .sel (.fn 10 (argsE [.lits [], .int 0, .int 0])) (.int 12)), .sint .u8 (.bi .sel (.fn 10 (argsE [.lits [], .int 0, .int 0])) (.int 13)), .sint .u8 (.bi .sel (.fn 10 (argsE [.lits [], .int 0, .int 0])) (.int 14)), .sint .u8 (.bi .sel (.fn 10 (argsE [.lits [], .int 0, .int 0])) (.int 15)), .sint .u8 (.bi .sel (.fn 10 (argsE [.lits [], .int 0, .int 0])) (.int 16)), .sint .u8 (.bi .sel (.fn 10 (argsE [.lits [], .int 0, .int 0])) (.int 17)), .sint .u8 (.bi .sel (.fn 10 (argsE [.lits [], .int 0, .int 0])) (.int 18)), .sint .u8 (.bi .sel (.fn 10 (argsE [.lits [], .int 0, .int 0])) (.int 19)), .sint .u8 (.bi .sel (.fn 10 (argsE [.lits [], .int 0, .int 0])) (.int 20)), .sint .u8 (.bi .sel (.fn 10 (argsE [.lits [], .int 0, .int 0])) (.int 21)), .sint .u8 (.bi .sel (.fn 10 (argsE [.lits [], .int 0, .int 0])) (.int 22)), .sint .u8 (.bi .sel (.fn 10 (argsE [.lits [], .int 0, .int 0])) (.int 23)), .sint .u8 (.bi .sel (.fn 10 (argsE [.lits [], .int 0, .int 0])) (.int 24)), .sint .u8 (.bi .sel (.fn 10 (argsE [.lits [], .int 0, .int 0])) (.int 25)), .sint .u8 (.bi .sel (.fn 10 (argsE [.lits [], .int 0, .int 0])) (.int 26)), .sint .u8 (.bi .sel (.fn 10 (argsE [.lits [], .int 0, .int 0])) (.int 27)), .sint .u8 (.bi .sel (.fn 10 (argsE [.lits [], .int 0, .int 0])) (.int 28)), .sint .u8 (.bi .sel (.fn 10 (argsE [.lits [], .int 0, .int 0])) (.int 29)), .sint .u8 (.bi .sel (.fn 10 (argsE [.lits [], .int 0, .int 0])) (.int 30)), .sint .u8 (.bi .sel (.fn 10 (argsE [.lits [], .int 0, .int 0])) (.int 31))], frows := [], same := [] }
abbrev asDs19 : Q × Bool := ((.eq (.bi (.iop .rem .i64) (.bi .sub (.int 64) (.int 0)) (.int 64)) (.int 0)), true)
def rsumE_t0 : List (Q × Bool) := [asDs19]
abbrev teDs0 : E := (.bi .pair (.lits []) (.bi .pair (.int 0) (.bi .pair (.int 0) (.int 0))))
abbrev teDs1 : E := (.bi .pair (.lits [128, 0, 0, 0, 0, 0, 0, 0, 0, 0, 0, 0, 0, 0, 0, 0, 0, 0, 0, 0, 0, 0, 0, 0, 0, 0, 0, 0, 0, 0, 0, 0, 0, 0, 0, 0, 0, 0, 0, 0, 0, 0, 0, 0, 0, 0, 0, 0, 0, 0, 0, 0, 0, 0, 0, 0, 0, 0, 0, 0, 0, 0, 0, 0]) (.bi .pair (.int 0) (.bi .pair (.int 64) (.int 0))))
abbrev teDs2 : E := (.bi .pair (.lits [1779033703, 3144134277, 1013904242, 2773480762, 1359893119, 2600822924, 528734635, 1541459225]) teDs1)
def rsumE_d0 : List Duty := [(true, (.un (.wrap .u8) (.bi (.iop .shr .u32) (.bi .sel (.fn 20 teDs2) (.int 0)) (.int 24))), (.bi .sel (.fn 10 teDs0) (.int 0))), (true, (.un (.wrap .u8) (.bi (.iop .shr .u32) (.bi .sel (.fn 20 teDs2) (.int 0)) (.int 16))), (.bi .sel (.fn 10 teDs0) (.int 1))), (true, (.un (.wrap .u8) (.bi (.iop .shr .u32) (.bi .sel (.fn 20 teDs2) (.int 0)) (.int 8))), (.bi .sel (.fn 10 teDs0) (.int 2))), (true, (.un (.wrap .u8) (.bi (.iop .shr .u32) (.bi .sel (.fn 20 teDs2) (.int 0)) (.int 0))), (.bi .sel (.fn 10 teDs0) (.int 3))), (true, (.un (.wrap .u8) (.bi (.iop .shr .u32) (.bi .sel (.fn 20 teDs2) (.int 1)) (.int 24))), (.bi .sel (.fn 10 teDs0) (.int 4))), (true, (.un (.wrap .u8) (.bi (.iop .shr .u32) (.bi .sel (.fn 20 teDs2) (.int 1)) (.int 16))), (.bi .sel (.fn 10 teDs0) (.int 5))), (true, (.un (.wrap .u8) (.bi (.iop .shr .u32) (.bi .sel (.fn 20 teDs2) (.int 1)) (.int 8))), (.bi .sel (.fn 10 teDs0) (.int 6))), (true, (.un (.wrap .u8) (.bi (.iop .shr .u32) (.bi .sel (.fn 20 teDs2) (.int 1)) (.int 0))), (.bi .sel (.fn 10 teDs0) (.int 7))), (true, (.un (.wrap .u8) (.bi (.iop .shr .u32) (.bi .sel (.fn 20 teDs2) (.int 2)) (.int 24))), (.bi .sel (.fn 10 teDs0) (.int 8))), (true, (.un (.wrap .u8) (.bi (.iop .shr .u32) (.bi .sel (.fn 20 teDs2) (.int 2)) (.int 16))), (.bi .sel (.fn 10 teDs0) (.int 9))), (true, (.un (.wrap .u8) (.bi (.iop .shr .u32) (.bi .sel (.fn 20 teDs2) (.int 2)) (.int 8))), (.bi .sel (.fn 10 teDs0) (.int 10))), (true, (.un (.wrap .u8) (.bi (.iop .shr .u32) (.bi .sel (.fn 20 teDs2) (.int 2)) (.int 0))), (.bi .sel (.fn 10 teDs0) (.int 11))), (true, (.un (.wrap .u8) (.bi (.iop .shr .u32) (.bi .sel (.fn 20 teDs2) (.int 3)) (.int 24))), (.bi .sel (.fn 10 teDs0) (.int 12))), (true, (.un (.wrap .u8) (.bi (.iop .shr .u32) (.bi .sel (.fn 20 teDs2) (.int 3)) (.int 16))), (.bi .sel (.fn 10 teDs0) (.int 13))), (true, (.un (.wrap .u8) (.bi (.iop .shr .u32) (.bi .sel (.fn 20 teDs2) (.int 3)) (.int 8))), (.bi .sel (.fn 10 teDs0) (.int 14))), (true, (.un (.wrap .u8) (.bi (.iop .shr .u32) (.bi .sel (.fn 20 teDs2) (.int 3)) (.int 0))), (.bi .sel (.fn 10 teDs0) (.int 15))), (true, (.un (.wrap .u8) (.bi (.iop .shr .u32) (.bi .sel (.fn 20 teDs2) (.int 4)) (.int 24))), (.bi .sel (.fn 10 teDs0) (.int 16))), (true, (.un (.wrap .u8) (.bi (.iop .shr .u32) (.bi .sel (.fn 20 teDs2) (.int 4)) (.int 16))), (.bi .sel (.fn 10 teDs0) (.int 17))), (true, (.un (.wrap .u8) (.bi (.iop .shr .u32) (.bi .sel (.fn 20 teDs2) (.int 4)) (.int 8))), (.bi .sel (.fn 10 teDs0) (.int 18))), (true, (.un (.wrap .u8) (.bi (.iop .shr .u32) (.bi .sel (.fn 20 teDs2) (.int 4)) (.int 0))), (.bi .sel (.fn 10 teDs0) (.int 19))), (true, (.un (.wrap .u8) (.bi (.iop .shr .u32) (.bi .sel (.fn 20 teDs2) (.int 5)) (.int 24))), (.bi .sel (.fn 10 teDs0) (.int 20))), (true, (.un (.wrap .u8) (.bi (.iop .shr .u32) (.bi .sel (.fn 20 teDs2) (.int 5)) (.int 16))), (.bi .sel (.fn 10 teDs0) (.int 21))), (true, (.un (.wrap .u8) (.bi (.iop .shr .u32) (.bi .sel (.fn 20 teDs2) (.int 5)) (.int 8))), (.bi .sel (.fn 10 teDs0) (.int 22))), (true, (.un (.wrap .u8) (.bi (.iop .shr .u32) (.bi .sel (.fn 20 teDs2) (.int 5)) (.int 0))), (.bi .sel (.fn 10 teDs0) (.int 23))), (true, (.un (.wrap .u8) (.bi (.iop .shr .u32) (.bi .sel (.fn 20 teDs2) (.int 6)) (.int 24))), (.bi .sel (.fn 10 teDs0) (.int 24))), (true, (.un (.wrap .u8) (.bi (.iop .shr .u32) (.bi .sel (.fn 20 teDs2) (.int 6)) (.int 16))), (.bi .sel (.fn 10 teDs0) (.int 25))), (true, (.un (.wrap .u8) (.bi (.iop .shr .u32) (.bi .sel (.fn 20 teDs2) (.int 6)) (.int 8))), (.bi .sel (.fn 10 teDs0) (.int 26))), (true, (.un (.wrap .u8) (.bi (.iop .shr .u32) (.bi .sel (.fn 20 teDs2) (.int 6)) (.int 0))), (.bi .sel (.fn 10 teDs0) (.int 27))), (true, (.un (.wrap .u8) (.bi (.iop .shr .u32) (.bi .sel (.fn 20 teDs2) (.int 7)) (.int 24))), (.bi .sel (.fn 10 teDs0) (.int 28))), (true, (.un (.wrap .u8) (.bi (.iop .shr .u32) (.bi .sel (.fn 20 teDs2) (.int 7)) (.int 16))), (.bi .sel (.fn 10 teDs0) (.int 29))), (true, (.un (.wrap .u8) (.bi (.iop .shr .u32) (.bi .sel (.fn 20 teDs2) (.int 7)) (.int 8))), (.bi .sel (.fn 10 teDs0) (.int 30))), (true, (.un (.wrap .u8) (.bi (.iop .shr .u32) (.bi .sel (.fn 20 teDs2) (.int 7)) (.int 0))), (.bi .sel (.fn 10 teDs0) (.int 31)))]
theorem rsumE_y0 : endC rsumE [] 1000 (callC Tryd.prog (tellA rsumE_t0) [⟨9, [4, 1, 0, 1, 1, 1], rsumL⟩] [(21, stepC)] [] 3000 40 9 rsumE) = some rsumE_d0 := by kernel_rfl
theorem rsumE_holds : CHolds Tryd.prog 9 rsumE F := by
  refine cholds_of sound (tableCons rsumL_holds (tableNil _ _)) (specsCons stepC_holds (specsNil _ _)) (oversNil _ _) (fuel := 3000) (depth := 40) (by kernel_rfl) fun d hp hR hA => ?_
  have hp := allTold'_iff.2 hp
  simp only [rsumE, allTold', dutiesTold, factsA, factsC, factsP, factsR, AV.facts, RW.facts, inK, and_true, Q.holds', E.i, E.s, E.n, D.nat, E.den, BO.den, UO.den, TO.den, D.toInt_int, D.toList_list, D.ints_ofInts, i64min, i64max, u8min, u8max, u16min, u16max, u32min, u32max, u64min, u64max, i32min, i32max, Om.sub, selI, ints_app, ints_cut, ints_upd, ints_rep, ints_splice, ints_seg, len_ints] at hp hR hA
  have e := blk_sum (X := []) (o := 0) (l := 0) (by omega) (by omega) (by simp)
  refine ⟨tellA rsumE_t0, _, _, _, tellA_ok (allTold'_iff.1 ?_), rsumE_y0, dutiesTold_ok ?_⟩
  · simp only [rsumE_t0, allTold', dutiesTold, factsA, factsC, factsP, factsR, AV.facts, RW.facts, inK, and_true, Q.holds', E.i, E.s, E.n, D.nat, E.den, BO.den, UO.den, TO.den, D.toInt_int, D.toList_list, D.ints_ofInts, i64min, i64max, u8min, u8max, u16min, u16max, u32min, u32max, u64min, u64max, i32min, i32max, Om.sub, selI, ints_app, ints_cut, ints_upd, ints_rep, ints_splice, ints_seg, len_ints]
    rfl
  · simp only [rsumE_d0, F10, F20, allTold', dutiesTold, factsA, factsC, factsP, factsR, AV.facts, RW.facts, inK, and_true, Q.holds', E.i, E.s, E.n, D.nat, E.den, BO.den, UO.den, TO.den, D.toInt_int, D.toList_list, D.ints_ofInts, i64min, i64max, u8min, u8max, u16min, u16max, u32min, u32max, u64min, u64max, i32min, i32max, Om.sub, selI, ints_app, ints_cut, ints_upd, ints_rep, ints_splice, ints_seg, len_ints]
    generalize hB : prt (_ :: _) 0 64 = B
    have hB2 : B = prt (prt [] 0 (0 + 0) ++ fillI 0) 0 (0 + ((119 - 0 % 64) % 64 + 9)) := by
      rw [← hB]
      kernel_rfl
    subst hB2
    unfold firstL at e
    rw [e]
    and_intros <;> rfl

def tabS : List LEntry := [⟨36, [4, 1, 0, 1, 1, 1], sprL⟩, ⟨32, [4, 1, 0, 1, 1, 1], mixL⟩, ⟨25, [4], takeK⟩, ⟨25, [4], takeD⟩, ⟨29, [4, 1, 0, 1, 1, 1], rsprL⟩, ⟨21, [4, 1, 0, 1, 1, 1], stepL⟩, ⟨20, [4, 0, 1, 1, 1], rfillL⟩, ⟨9, [4, 1, 0, 1, 1, 1], rsumL⟩]
def specsS : List (FuncId × CSpec) := [(32, mixedC), (33, fillC), (34, bytesC), (25, takeC), (26, sumC), (13, newC), (8, sumB), (29, wordsC), (21, stepC), (20, rfillC), (9, rsumC), (7, lentC), (12, keptC), (6, awakeC), (9, rsumE)]
def oversS : Overs := []
theorem tabS_ok : TableOK Tryd.prog tabS F := tableCons sprL_holds (tableCons mixL_holds (tableCons takeK_holds (tableCons takeD_holds (tableCons rsprL_holds (tableCons stepL_holds (tableCons rfillL_holds (tableCons rsumL_holds (tableNil _ _))))))))
theorem specsS_ok : SpecsOK Tryd.prog specsS F := specsCons mixedC_holds (specsCons fillC_holds (specsCons bytesC_holds (specsCons takeC_holds (specsCons sumC_holds (specsCons newC_holds (specsCons sumB_holds (specsCons wordsC_holds (specsCons stepC_holds (specsCons rfillC_holds (specsCons rsumC_holds (specsCons lentC_holds (specsCons keptC_holds (specsCons awakeC_holds (specsCons rsumE_holds (specsNil _ _)))))))))))))))
theorem oversS_ok : OversOK Tryd.prog oversS F := oversNil _ _
end Go.Proofs.YtblgmhghpcpmdaaDoor.Ds
