/-
  Contracts of this seat: what loops and calls leave, for all inputs. No condition.
-/
import Derived.Test.YtlmcjfcfmcdcpaaDoorSycp
import Derived.Test.YtlmcjfcfmcdcpaaDoorCo
import Derived.Test.YtlmcjfcfmcdcpaaDoorGa
import Derived.Test.YtlmcjfcfmcdcpaaDoorGm
import Derived.Test.YtlmcjfcfmcdcpaaDoorFl
import Derived.Test.YtlmcjfcfmcdcpaaDoorFa
set_option linter.unusedSimpArgs false
set_option linter.unusedVariables false
namespace Go.Proofs.YtlmcjfcfmcdcpaaDoor.Fp
open Go.RowKit Go.Ev Go.Proofs.YtlmcjfcfmcdcpaaDoor.Co

open Go.Proofs.YtlmcjfcfmcdcpaaDoor.Ga
open Go.Proofs.YtlmcjfcfmcdcpaaDoor.Gm
open Go.Proofs.YtlmcjfcfmcdcpaaDoor.Fl
open Go.Proofs.YtlmcjfcfmcdcpaaDoor.Fa

def putY : CSpec := { args := [.agg [.sint .i64 (.var 0), .sint .i64 (.var 1), .sint .i64 (.var 2), .sint .i64 (.var 3), .sint .i64 (.var 4), .sslice 3 (.var 5) (.var 6) (.var 7) false]], next := 2, rows := [(3, .eseq ⟨.u8, .var 8, .var 9⟩), (0, .ext cellsG)], pre := [(.le (.bi .add (.var 5) (.var 6)) (.var 8), true), (.le (.var 6) (.int 900000), true), (.le (.int 0) (.var 6), true), (.le (.int 0) (.var 5), true), (.eq (.fn 11 (argsE [.var 0, .var 1, .var 2, .var 3, .var 4, .var 6])) (.int 0), true)], res := .tuple [.sslice 5 (.int 0) (.bi .add (.var 6) (.int 26)) (.bi .add (.var 6) (.int 26)) true, .int .i64 0], frows := [(5, .seq ⟨5, .u8, .bi .add (.var 6) (.int 26), (.fn 12 (argsE [.var 0, .var 1, .var 2, .var 3, .var 4, .var 9, .var 5, .var 6])), true, false⟩)], same := [] }
abbrev asFp0 : Q × Bool := ((.le (.int 0) (.var 6)), true)
abbrev asFp1 : Q × Bool := ((.le (.var 6) (.int 1000000)), true)
abbrev asFp2 : Q × Bool := ((.eq (.fn 11 (.bi .pair (.var 0) (.bi .pair (.var 1) (.bi .pair (.var 2) (.bi .pair (.var 3) (.bi .pair (.var 4) (.bi .pair (.var 6) (.int 0)))))))) (.int 0)), true)
abbrev asFp3 : Q × Bool := ((.fit .i64 (.var 6)), true)
abbrev asFp4 : Q × Bool := ((.le (.bi .add (.var 5) (.var 6)) (.var 8)), true)
abbrev asFp5 : Q × Bool := ((.le (.bi .mul (.bi .add (.var 6) (.int 22)) (.int 2)) (.int 281474976710656)), true)
abbrev asFp6 : Q × Bool := ((.le (.bi .add (.int 0) (.bi .add (.var 6) (.int 22))) (.bi .add (.var 6) (.int 22))), true)
abbrev asFp7 : Q × Bool := ((.le (.bi .add (.var 6) (.int 22)) (.int 1000000)), true)
def putY_t0 : List (Q × Bool) := [asFp0, asFp1, asFp2, asFp3, asFp4, asFp5, asFp6, asFp7]
def putY_d0 : List Duty := [(true, (.bi .add (.bi .add (.var 6) (.int 22)) (.int 4)), (.bi .add (.var 6) (.int 26))), (true, (.bi .add (.bi .add (.var 6) (.int 22)) (.int 4)), (.bi .add (.var 6) (.int 26))), (true, (.bi .add (.bi .add (.var 6) (.int 22)) (.int 4)), (.bi .add (.var 6) (.int 26))), (false, (.fn 8 (.bi .pair (.bi .app (.bi .app (.un .one (.int 83)) (.bi .app (.un .one (.int 75)) (.bi .app (.un .one (.int 1)) (.bi .app (.un .one (.un (.wrap .u8) (.bi (.iop .shr .i64) (.var 0) (.int 0)))) (.bi .app (.un .one (.un (.wrap .u8) (.bi (.iop .shr .i64) (.var 1) (.int 24)))) (.bi .app (.un .one (.un (.wrap .u8) (.bi (.iop .shr .i64) (.var 1) (.int 16)))) (.bi .app (.un .one (.un (.wrap .u8) (.bi (.iop .shr .i64) (.var 1) (.int 8)))) (.bi .app (.un .one (.un (.wrap .u8) (.bi (.iop .shr .i64) (.var 1) (.int 0)))) (.bi .app (.un .one (.un (.wrap .u8) (.bi (.iop .shr .i64) (.var 2) (.int 24)))) (.bi .app (.un .one (.un (.wrap .u8) (.bi (.iop .shr .i64) (.var 2) (.int 16)))) (.bi .app (.un .one (.un (.wrap .u8) (.bi (.iop .shr .i64) (.var 2) (.int 8)))) (.bi .app (.un .one (.un (.wrap .u8) (.bi (.iop .shr .i64) (.var 2) (.int 0)))) (.bi .app (.un .one (.un (.wrap .u8) (.bi (.iop .shr .i64) (.var 3) (.int 24)))) (.bi .app (.un .one (.un (.wrap .u8) (.bi (.iop .shr .i64) (.var 3) (.int 16)))) (.bi .app (.un .one (.un (.wrap .u8) (.bi (.iop .shr .i64) (.var 3) (.int 8)))) (.bi .app (.un .one (.un (.wrap .u8) (.bi (.iop .shr .i64) (.var 3) (.int 0)))) (.bi .app (.un .one (.un (.wrap .u8) (.bi (.iop .shr .i64) (.var 4) (.int 24)))) (.bi .app (.un .one (.un (.wrap .u8) (.bi (.iop .shr .i64) (.var 4) (.int 16)))) (.bi .app (.un .one (.un (.wrap .u8) (.bi (.iop .shr .i64) (.var 4) (.int 8)))) (.bi .app (.un .one (.un (.wrap .u8) (.bi (.iop .shr .i64) (.var 4) (.int 0)))) (.bi .app (.un .one (.un (.wrap .u8) (.bi (.iop .shr .i64) (.var 6) (.int 8)))) (.bi .app (.un .one (.un (.wrap .u8) (.bi (.iop .shr .i64) (.var 6) (.int 0)))) (.lits []))))))))))))))))))))))) (.tr .cut (.var 9) (.var 5) (.bi .add (.var 5) (.var 6)))) (.bi .pair (.int 0) (.bi .pair (.bi .add (.int 0) (.bi .add (.var 6) (.int 22))) (.int 0))))), (.fn 12 (.bi .pair (.var 0) (.bi .pair (.var 1) (.bi .pair (.var 2) (.bi .pair (.var 3) (.bi .pair (.var 4) (.bi .pair (.var 9) (.bi .pair (.var 5) (.bi .pair (.var 6) (.int 0)))))))))))]
theorem putY_y0 : endC putY [(5, 103)] 1000 (callC Tryd.prog (tellA putY_t0) [] [(52, tableC), (50, moreC), (50, moreCO), (29, putC), (29, putCO), (14, chkC), (14, chkCE)] [] 3000 40 11 putY) = some putY_d0 := by kernel_rfl
theorem putY_holds : CHolds Tryd.prog 11 putY F := by
  refine cholds_of sound (tableNil _ _) (specsCons tableC_holds (specsCons moreC_holds (specsCons moreCO_holds (specsCons putC_holds (specsCons putCO_holds (specsCons chkC_holds (specsCons chkCE_holds (specsNil _ _)))))))) (oversNil _ _) (fuel := 3000) (depth := 40) (by kernel_rfl) fun d hp hR hA => ?_
  have hp := allTold'_iff.2 hp
  simp only [putY, allTold', dutiesTold, factsA, factsC, factsP, factsR, AV.facts, RW.facts, inK, and_true, Q.holds', E.i, E.s, E.n, D.nat, E.den, BO.den, UO.den, TO.den, D.toInt_int, D.toList_list, D.ints_ofInts, i64min, i64max, u8min, u8max, u16min, u16max, u32min, u32max, u64min, u64max, i32min, i32max, Om.sub, selI, ints_app, ints_cut, ints_upd, ints_rep, ints_splice, ints_seg, len_ints] at hp hR hA
  simp only [F11, argsE, allTold', dutiesTold, factsA, factsC, factsP, factsR, AV.facts, RW.facts, inK, and_true, Q.holds', E.i, E.s, E.n, D.nat, E.den, BO.den, UO.den, TO.den, D.toInt_int, D.toList_list, D.ints_ofInts, i64min, i64max, u8min, u8max, u16min, u16max, u32min, u32max, u64min, u64max, i32min, i32max, Om.sub, selI, ints_app, ints_cut, ints_upd, ints_rep, ints_splice, ints_seg, len_ints] at hp
  obtain ⟨hl, hx⟩ := hR
  have hb : ((prt (d 9).ints (d 5).toInt ((d 5).toInt + (d 6).toInt)).length : Int) = (d 6).toInt := by rw [prt_length (by omega) (by omega) (by omega)]; omega
  refine ⟨tellA putY_t0, _, _, _, tellA_ok (allTold'_iff.1 ?_), putY_y0, dutiesTold_ok ?_⟩
  · simp only [putY_t0, F11, allTold', dutiesTold, factsA, factsC, factsP, factsR, AV.facts, RW.facts, inK, and_true, Q.holds', E.i, E.s, E.n, D.nat, E.den, BO.den, UO.den, TO.den, D.toInt_int, D.toList_list, D.ints_ofInts, i64min, i64max, u8min, u8max, u16min, u16max, u32min, u32max, u64min, u64max, i32min, i32max, Om.sub, selI, ints_app, ints_cut, ints_upd, ints_rep, ints_splice, ints_seg, len_ints]
    all_goals (and_intros <;> first | omega | trivial | exact hp.2.2.2.2)
  · simp only [putY_d0, F8, F9, F12, ints_list, List.map_append, List.map_drop, List.map_take, List.map_cons, List.map_nil, map_ints, allTold', dutiesTold, factsA, factsC, factsP, factsR, AV.facts, RW.facts, inK, and_true, Q.holds', E.i, E.s, E.n, D.nat, E.den, BO.den, UO.den, TO.den, D.toInt_int, D.toList_list, D.ints_ofInts, i64min, i64max, u8min, u8max, u16min, u16max, u32min, u32max, u64min, u64max, i32min, i32max, Om.sub, selI, ints_app, ints_cut, ints_upd, ints_rep, ints_splice, ints_seg, len_ints]
    simp only [cut_prt]
    generalize hB : prt (d 9).ints (d 5).toInt ((d 5).toInt + (d 6).toInt) = B at *
    and_intros <;> first | omega | trivial | skip
    all_goals rw [prt_all (by simp; omega)]
    all_goals first
      | (simp [layI, fourI, byteI, hb, shr_0]; done)
      | (refine Eq.trans (congrArg rputI (a₂ := layI (d 0).toInt (d 1).toInt (d 2).toInt (d 3).toInt (d 4).toInt B) ?_) (rput_put (lay_bytes (by rw [← hB]; exact prt_bytes hx)))
         simp [layI, fourI, byteI, hb, shr_0])

def putN : CSpec := { args := [.agg [.sint .i64 (.var 0), .sint .i64 (.var 1), .sint .i64 (.var 2), .sint .i64 (.var 3), .sint .i64 (.var 4), .sslice 3 (.var 5) (.var 6) (.var 7) false]], next := 2, rows := [(3, .eseq ⟨.u8, .var 8, .var 9⟩), (0, .ext cellsG)], pre := [(.le (.bi .add (.var 5) (.var 6)) (.var 8), true), (.le (.var 6) (.int 900000), true), (.le (.int 0) (.var 6), true), (.le (.int 0) (.var 5), true), (.eq (.fn 11 (argsE [.var 0, .var 1, .var 2, .var 3, .var 4, .var 6])) (.int 0), false)], res := .tuple [.nilslice, .sint .i64 (.fn 11 (argsE [.var 0, .var 1, .var 2, .var 3, .var 4, .var 6]))], frows := [], same := [] }
abbrev asFp8 : Q × Bool := ((.eq (.fn 11 (.bi .pair (.var 0) (.bi .pair (.var 1) (.bi .pair (.var 2) (.bi .pair (.var 3) (.bi .pair (.var 4) (.bi .pair (.var 6) (.int 0)))))))) (.int 0)), false)
def putN_t0 : List (Q × Bool) := [asFp0, asFp1, asFp8]
def putN_d0 : List Duty := []
theorem putN_y0 : endC putN [] 1000 (callC Tryd.prog (tellA putN_t0) [] [(52, tableC), (50, moreC), (50, moreCO), (29, putC), (29, putCO), (14, chkC), (14, chkCE)] [] 3000 40 11 putN) = some putN_d0 := by kernel_rfl
theorem putN_holds : CHolds Tryd.prog 11 putN F := by
  refine cholds_of sound (tableNil _ _) (specsCons tableC_holds (specsCons moreC_holds (specsCons moreCO_holds (specsCons putC_holds (specsCons putCO_holds (specsCons chkC_holds (specsCons chkCE_holds (specsNil _ _)))))))) (oversNil _ _) (fuel := 3000) (depth := 40) (by kernel_rfl) fun d hp hR hA => ?_
  have hp := allTold'_iff.2 hp
  simp only [putN, allTold', dutiesTold, factsA, factsC, factsP, factsR, AV.facts, RW.facts, inK, and_true, Q.holds', E.i, E.s, E.n, D.nat, E.den, BO.den, UO.den, TO.den, D.toInt_int, D.toList_list, D.ints_ofInts, i64min, i64max, u8min, u8max, u16min, u16max, u32min, u32max, u64min, u64max, i32min, i32max, Om.sub, selI, ints_app, ints_cut, ints_upd, ints_rep, ints_splice, ints_seg, len_ints] at hp hR hA
  simp only [F11, argsE, allTold', dutiesTold, factsA, factsC, factsP, factsR, AV.facts, RW.facts, inK, and_true, Q.holds', E.i, E.s, E.n, D.nat, E.den, BO.den, UO.den, TO.den, D.toInt_int, D.toList_list, D.ints_ofInts, i64min, i64max, u8min, u8max, u16min, u16max, u32min, u32max, u64min, u64max, i32min, i32max, Om.sub, selI, ints_app, ints_cut, ints_upd, ints_rep, ints_splice, ints_seg, len_ints] at hp
  refine ⟨tellA putN_t0, _, _, _, tellA_ok (allTold'_iff.1 ?_), putN_y0, dutiesTold_ok ?_⟩
  · simp only [putN_t0, F11, allTold', dutiesTold, factsA, factsC, factsP, factsR, AV.facts, RW.facts, inK, and_true, Q.holds', E.i, E.s, E.n, D.nat, E.den, BO.den, UO.den, TO.den, D.toInt_int, D.toList_list, D.ints_ofInts, i64min, i64max, u8min, u8max, u16min, u16max, u32min, u32max, u64min, u64max, i32min, i32max, Om.sub, selI, ints_app, ints_cut, ints_upd, ints_rep, ints_splice, ints_seg, len_ints]
    all_goals (and_intros <;> first | omega | trivial | exact hp.2.2.2.2)
  · simp only [putN_d0, allTold', dutiesTold, factsA, factsC, factsP, factsR, AV.facts, RW.facts, inK, and_true, Q.holds', E.i, E.s, E.n, D.nat, E.den, BO.den, UO.den, TO.den, D.toInt_int, D.toList_list, D.ints_ofInts, i64min, i64max, u8min, u8max, u16min, u16max, u32min, u32max, u64min, u64max, i32min, i32max, Om.sub, selI, ints_app, ints_cut, ints_upd, ints_rep, ints_splice, ints_seg, len_ints]

def putYE : CSpec := { args := [.agg [.sint .i64 (.var 0), .sint .i64 (.var 1), .sint .i64 (.var 2), .sint .i64 (.var 3), .sint .i64 (.var 4), .empty]], next := 2, rows := [(0, .ext cellsG)], pre := [(.eq (.fn 11 (argsE [.var 0, .var 1, .var 2, .var 3, .var 4, .int 0])) (.int 0), true)], res := .tuple [.sslice 5 (.int 0) (.int 26) (.int 26) true, .int .i64 0], frows := [(5, .seq ⟨5, .u8, .int 26, (.fn 12 (argsE [.var 0, .var 1, .var 2, .var 3, .var 4, .lits [], .int 0, .int 0])), true, false⟩)], same := [] }
abbrev asFp9 : Q × Bool := ((.eq (.fn 11 (.bi .pair (.var 0) (.bi .pair (.var 1) (.bi .pair (.var 2) (.bi .pair (.var 3) (.bi .pair (.var 4) (.bi .pair (.int 0) (.int 0)))))))) (.int 0)), true)
abbrev asFp10 : Q × Bool := ((.le (.bi .add (.int 0) (.int 22)) (.int 22)), true)
def putYE_t0 : List (Q × Bool) := [asFp9, asFp10]
def putYE_d0 : List Duty := [(true, (.bi .add (.int 22) (.int 4)), (.int 26)), (true, (.bi .add (.int 22) (.int 4)), (.int 26)), (true, (.bi .add (.int 22) (.int 4)), (.int 26)), (false, (.fn 8 (.bi .pair (.bi .app (.un .one (.int 83)) (.bi .app (.un .one (.int 75)) (.bi .app (.un .one (.int 1)) (.bi .app (.un .one (.un (.wrap .u8) (.bi (.iop .shr .i64) (.var 0) (.int 0)))) (.bi .app (.un .one (.un (.wrap .u8) (.bi (.iop .shr .i64) (.var 1) (.int 24)))) (.bi .app (.un .one (.un (.wrap .u8) (.bi (.iop .shr .i64) (.var 1) (.int 16)))) (.bi .app (.un .one (.un (.wrap .u8) (.bi (.iop .shr .i64) (.var 1) (.int 8)))) (.bi .app (.un .one (.un (.wrap .u8) (.bi (.iop .shr .i64) (.var 1) (.int 0)))) (.bi .app (.un .one (.un (.wrap .u8) (.bi (.iop .shr .i64) (.var 2) (.int 24)))) (.bi .app (.un .one (.un (.wrap .u8) (.bi (.iop .shr .i64) (.var 2) (.int 16)))) (.bi .app (.un .one (.un (.wrap .u8) (.bi (.iop .shr .i64) (.var 2) (.int 8)))) (.bi .app (.un .one (.un (.wrap .u8) (.bi (.iop .shr .i64) (.var 2) (.int 0)))) (.bi .app (.un .one (.un (.wrap .u8) (.bi (.iop .shr .i64) (.var 3) (.int 24)))) (.bi .app (.un .one (.un (.wrap .u8) (.bi (.iop .shr .i64) (.var 3) (.int 16)))) (.bi .app (.un .one (.un (.wrap .u8) (.bi (.iop .shr .i64) (.var 3) (.int 8)))) (.bi .app (.un .one (.un (.wrap .u8) (.bi (.iop .shr .i64) (.var 3) (.int 0)))) (.bi .app (.un .one (.un (.wrap .u8) (.bi (.iop .shr .i64) (.var 4) (.int 24)))) (.bi .app (.un .one (.un (.wrap .u8) (.bi (.iop .shr .i64) (.var 4) (.int 16)))) (.bi .app (.un .one (.un (.wrap .u8) (.bi (.iop .shr .i64) (.var 4) (.int 8)))) (.bi .app (.un .one (.un (.wrap .u8) (.bi (.iop .shr .i64) (.var 4) (.int 0)))) (.lits [0, 0]))))))))))))))))))))) (.bi .pair (.int 0) (.bi .pair (.bi .add (.int 0) (.int 22)) (.int 0))))), (.fn 12 (.bi .pair (.var 0) (.bi .pair (.var 1) (.bi .pair (.var 2) (.bi .pair (.var 3) (.bi .pair (.var 4) (.bi .pair (.lits []) (.bi .pair (.int 0) (.bi .pair (.int 0) (.int 0)))))))))))]
theorem putYE_y0 : endC putYE [(5, 101)] 1000 (callC Tryd.prog (tellA putYE_t0) [] [(52, tableC), (50, moreC), (50, moreCO), (29, putC), (29, putCO), (14, chkC), (14, chkCE)] [] 3000 40 11 putYE) = some putYE_d0 := by kernel_rfl
theorem putYE_holds : CHolds Tryd.prog 11 putYE F := by
  refine cholds_of sound (tableNil _ _) (specsCons tableC_holds (specsCons moreC_holds (specsCons moreCO_holds (specsCons putC_holds (specsCons putCO_holds (specsCons chkC_holds (specsCons chkCE_holds (specsNil _ _)))))))) (oversNil _ _) (fuel := 3000) (depth := 40) (by kernel_rfl) fun d hp hR hA => ?_
  have hp := allTold'_iff.2 hp
  simp only [putYE, allTold', dutiesTold, factsA, factsC, factsP, factsR, AV.facts, RW.facts, inK, and_true, Q.holds', E.i, E.s, E.n, D.nat, E.den, BO.den, UO.den, TO.den, D.toInt_int, D.toList_list, D.ints_ofInts, i64min, i64max, u8min, u8max, u16min, u16max, u32min, u32max, u64min, u64max, i32min, i32max, Om.sub, selI, ints_app, ints_cut, ints_upd, ints_rep, ints_splice, ints_seg, len_ints] at hp hR hA
  simp only [F11, argsE, allTold', dutiesTold, factsA, factsC, factsP, factsR, AV.facts, RW.facts, inK, and_true, Q.holds', E.i, E.s, E.n, D.nat, E.den, BO.den, UO.den, TO.den, D.toInt_int, D.toList_list, D.ints_ofInts, i64min, i64max, u8min, u8max, u16min, u16max, u32min, u32max, u64min, u64max, i32min, i32max, Om.sub, selI, ints_app, ints_cut, ints_upd, ints_rep, ints_splice, ints_seg, len_ints] at hp
  refine ⟨tellA putYE_t0, _, _, _, tellA_ok (allTold'_iff.1 ?_), putYE_y0, dutiesTold_ok ?_⟩
  · simp only [putYE_t0, F11, allTold', dutiesTold, factsA, factsC, factsP, factsR, AV.facts, RW.facts, inK, and_true, Q.holds', E.i, E.s, E.n, D.nat, E.den, BO.den, UO.den, TO.den, D.toInt_int, D.toList_list, D.ints_ofInts, i64min, i64max, u8min, u8max, u16min, u16max, u32min, u32max, u64min, u64max, i32min, i32max, Om.sub, selI, ints_app, ints_cut, ints_upd, ints_rep, ints_splice, ints_seg, len_ints]
    all_goals (and_intros <;> first | omega | trivial | exact hp)
  · simp only [putYE_d0, F8, F9, F12, ints_list, List.map_append, List.map_drop, List.map_take, List.map_cons, List.map_nil, map_ints, allTold', dutiesTold, factsA, factsC, factsP, factsR, AV.facts, RW.facts, inK, and_true, Q.holds', E.i, E.s, E.n, D.nat, E.den, BO.den, UO.den, TO.den, D.toInt_int, D.toList_list, D.ints_ofInts, i64min, i64max, u8min, u8max, u16min, u16max, u32min, u32max, u64min, u64max, i32min, i32max, Om.sub, selI, ints_app, ints_cut, ints_upd, ints_rep, ints_splice, ints_seg, len_ints]
    try simp only [prt_e]
    and_intros <;> try omega
    all_goals rw [prt_all (by simp)]
    all_goals try rw [prt_e]
    all_goals first
      | (rw [lay_nil]; simp only [fourI, byteI, shr_0, List.cons_append, List.nil_append]; done)
      | (refine Eq.trans (congrArg rputI (a₂ := layI (d 0).toInt (d 1).toInt (d 2).toInt (d 3).toInt (d 4).toInt []) ?_) (rput_put (lay_bytes (by simp)))
         rw [lay_nil]
         simp only [fourI, byteI, shr_0, List.cons_append, List.nil_append])

def putNE : CSpec := { args := [.agg [.sint .i64 (.var 0), .sint .i64 (.var 1), .sint .i64 (.var 2), .sint .i64 (.var 3), .sint .i64 (.var 4), .empty]], next := 2, rows := [(0, .ext cellsG)], pre := [(.eq (.fn 11 (argsE [.var 0, .var 1, .var 2, .var 3, .var 4, .int 0])) (.int 0), false)], res := .tuple [.nilslice, .sint .i64 (.fn 11 (argsE [.var 0, .var 1, .var 2, .var 3, .var 4, .int 0]))], frows := [], same := [] }
abbrev asFp11 : Q × Bool := ((.eq (.fn 11 (.bi .pair (.var 0) (.bi .pair (.var 1) (.bi .pair (.var 2) (.bi .pair (.var 3) (.bi .pair (.var 4) (.bi .pair (.int 0) (.int 0)))))))) (.int 0)), false)
def putNE_t0 : List (Q × Bool) := [asFp11]
def putNE_d0 : List Duty := []
theorem putNE_y0 : endC putNE [] 1000 (callC Tryd.prog (tellA putNE_t0) [] [(52, tableC), (50, moreC), (50, moreCO), (29, putC), (29, putCO), (14, chkC), (14, chkCE)] [] 3000 40 11 putNE) = some putNE_d0 := by kernel_rfl
theorem putNE_holds : CHolds Tryd.prog 11 putNE F := by
  refine cholds_of sound (tableNil _ _) (specsCons tableC_holds (specsCons moreC_holds (specsCons moreCO_holds (specsCons putC_holds (specsCons putCO_holds (specsCons chkC_holds (specsCons chkCE_holds (specsNil _ _)))))))) (oversNil _ _) (fuel := 3000) (depth := 40) (by kernel_rfl) fun d hp hR hA => ?_
  have hp := allTold'_iff.2 hp
  simp only [putNE, allTold', dutiesTold, factsA, factsC, factsP, factsR, AV.facts, RW.facts, inK, and_true, Q.holds', E.i, E.s, E.n, D.nat, E.den, BO.den, UO.den, TO.den, D.toInt_int, D.toList_list, D.ints_ofInts, i64min, i64max, u8min, u8max, u16min, u16max, u32min, u32max, u64min, u64max, i32min, i32max, Om.sub, selI, ints_app, ints_cut, ints_upd, ints_rep, ints_splice, ints_seg, len_ints] at hp hR hA
  simp only [F11, argsE, allTold', dutiesTold, factsA, factsC, factsP, factsR, AV.facts, RW.facts, inK, and_true, Q.holds', E.i, E.s, E.n, D.nat, E.den, BO.den, UO.den, TO.den, D.toInt_int, D.toList_list, D.ints_ofInts, i64min, i64max, u8min, u8max, u16min, u16max, u32min, u32max, u64min, u64max, i32min, i32max, Om.sub, selI, ints_app, ints_cut, ints_upd, ints_rep, ints_splice, ints_seg, len_ints] at hp
  refine ⟨tellA putNE_t0, _, _, _, tellA_ok (allTold'_iff.1 ?_), putNE_y0, dutiesTold_ok ?_⟩
  · simp only [putNE_t0, F11, allTold', dutiesTold, factsA, factsC, factsP, factsR, AV.facts, RW.facts, inK, and_true, Q.holds', E.i, E.s, E.n, D.nat, E.den, BO.den, UO.den, TO.den, D.toInt_int, D.toList_list, D.ints_ofInts, i64min, i64max, u8min, u8max, u16min, u16max, u32min, u32max, u64min, u64max, i32min, i32max, Om.sub, selI, ints_app, ints_cut, ints_upd, ints_rep, ints_splice, ints_seg, len_ints]
    all_goals (and_intros <;> first | omega | trivial | exact hp)
  · simp only [putNE_d0, allTold', dutiesTold, factsA, factsC, factsP, factsR, AV.facts, RW.facts, inK, and_true, Q.holds', E.i, E.s, E.n, D.nat, E.den, BO.den, UO.den, TO.den, D.toInt_int, D.toList_list, D.ints_ofInts, i64min, i64max, u8min, u8max, u16min, u16max, u32min, u32max, u64min, u64max, i32min, i32max, Om.sub, selI, ints_app, ints_cut, ints_upd, ints_rep, ints_splice, ints_seg, len_ints]

end Go.Proofs.YtlmcjfcfmcdcpaaDoor.Fp
