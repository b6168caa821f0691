/-
  Contracts of this seat: what loops and calls leave, for all inputs. No condition.
-/
import Derived.Test.YtlmcjfcfmcdcpaaDoorSycp
import Derived.Test.YtlmcjfcfmcdcpaaDoorCo
import Derived.Test.YtlmcjfcfmcdcpaaDoorGa
import Derived.Test.YtlmcjfcfmcdcpaaDoorG2
import Derived.Test.YtlmcjfcfmcdcpaaDoorGm
import Derived.Test.YtlmcjfcfmcdcpaaDoorFl
set_option linter.unusedSimpArgs false
set_option linter.unusedVariables false
namespace Go.Proofs.YtlmcjfcfmcdcpaaDoor.Fi
open Go.RowKit Go.Ev Go.Proofs.YtlmcjfcfmcdcpaaDoor.Co

open Go.Proofs.YtlmcjfcfmcdcpaaDoor.Ga
open Go.Proofs.YtlmcjfcfmcdcpaaDoor.G2
open Go.Proofs.YtlmcjfcfmcdcpaaDoor.Gm
open Go.Proofs.YtlmcjfcfmcdcpaaDoor.Fl

def rlayC : CSpec := { args := [.agg [.sint .i64 (.var 0), .sint .i64 (.var 1), .sint .i64 (.var 2), .sint .i64 (.var 3), .sint .i64 (.var 4), .sslice 3 (.var 5) (.var 6) (.var 7) false]], next := 2, rows := [(3, .eseq ⟨.u8, .var 8, .var 9⟩)], pre := [(.le (.bi .add (.var 5) (.var 6)) (.var 8), true), (.le (.var 6) (.int 900000), true), (.le (.int 0) (.var 6), true), (.le (.int 0) (.var 5), true)], res := .sslice 5 (.int 0) (.bi .add (.var 6) (.int 26)) (.bi .add (.var 6) (.int 26)) true, frows := [(5, .seq ⟨5, .u8, .bi .add (.var 6) (.int 26), (.fn 12 (argsE [.var 0, .var 1, .var 2, .var 3, .var 4, .var 9, .var 5, .var 6])), true, false⟩)], same := [] }
abbrev asFi0 : Q × Bool := ((.fit .i64 (.var 6)), true)
abbrev asFi1 : Q × Bool := ((.le (.bi .add (.var 5) (.var 6)) (.var 8)), true)
abbrev asFi2 : Q × Bool := ((.le (.bi .mul (.bi .add (.var 6) (.int 22)) (.int 2)) (.int 281474976710656)), true)
abbrev asFi3 : Q × Bool := ((.le (.bi .add (.int 0) (.bi .add (.var 6) (.int 22))) (.bi .add (.var 6) (.int 22))), true)
abbrev asFi4 : Q × Bool := ((.le (.bi .add (.var 6) (.int 22)) (.int 1000000)), true)
def rlayC_t0 : List (Q × Bool) := [asFi0, asFi1, asFi2, asFi3, asFi4]
def rlayC_d0 : List Duty := [(true, (.bi .add (.bi .add (.var 6) (.int 22)) (.int 4)), (.bi .add (.var 6) (.int 26))), (true, (.bi .add (.bi .add (.var 6) (.int 22)) (.int 4)), (.bi .add (.var 6) (.int 26))), (true, (.bi .add (.bi .add (.var 6) (.int 22)) (.int 4)), (.bi .add (.var 6) (.int 26))), (false, (.fn 9 (.bi .pair (.bi .app (.bi .app (.un .one (.int 83)) (.bi .app (.un .one (.int 75)) (.bi .app (.un .one (.int 1)) (.bi .app (.un .one (.un (.wrap .u8) (.var 0))) (.bi .app (.un .one (.un (.wrap .u8) (.bi (.iop .shr .i64) (.var 1) (.int 24)))) (.bi .app (.un .one (.un (.wrap .u8) (.bi (.iop .shr .i64) (.var 1) (.int 16)))) (.bi .app (.un .one (.un (.wrap .u8) (.bi (.iop .shr .i64) (.var 1) (.int 8)))) (.bi .app (.un .one (.un (.wrap .u8) (.var 1))) (.bi .app (.un .one (.un (.wrap .u8) (.bi (.iop .shr .i64) (.var 2) (.int 24)))) (.bi .app (.un .one (.un (.wrap .u8) (.bi (.iop .shr .i64) (.var 2) (.int 16)))) (.bi .app (.un .one (.un (.wrap .u8) (.bi (.iop .shr .i64) (.var 2) (.int 8)))) (.bi .app (.un .one (.un (.wrap .u8) (.var 2))) (.bi .app (.un .one (.un (.wrap .u8) (.bi (.iop .shr .i64) (.var 3) (.int 24)))) (.bi .app (.un .one (.un (.wrap .u8) (.bi (.iop .shr .i64) (.var 3) (.int 16)))) (.bi .app (.un .one (.un (.wrap .u8) (.bi (.iop .shr .i64) (.var 3) (.int 8)))) (.bi .app (.un .one (.un (.wrap .u8) (.var 3))) (.bi .app (.un .one (.un (.wrap .u8) (.bi (.iop .shr .i64) (.var 4) (.int 24)))) (.bi .app (.un .one (.un (.wrap .u8) (.bi (.iop .shr .i64) (.var 4) (.int 16)))) (.bi .app (.un .one (.un (.wrap .u8) (.bi (.iop .shr .i64) (.var 4) (.int 8)))) (.bi .app (.un .one (.un (.wrap .u8) (.var 4))) (.bi .app (.un .one (.un (.wrap .u8) (.bi (.iop .shr .i64) (.var 6) (.int 8)))) (.bi .app (.un .one (.un (.wrap .u8) (.var 6))) (.lits []))))))))))))))))))))))) (.tr .cut (.var 9) (.var 5) (.bi .add (.var 5) (.var 6)))) (.bi .pair (.int 0) (.bi .pair (.bi .add (.int 0) (.bi .add (.var 6) (.int 22))) (.int 0))))), (.fn 12 (.bi .pair (.var 0) (.bi .pair (.var 1) (.bi .pair (.var 2) (.bi .pair (.var 3) (.bi .pair (.var 4) (.bi .pair (.var 9) (.bi .pair (.var 5) (.bi .pair (.var 6) (.int 0)))))))))))]
theorem rlayC_y0 : endC rlayC [(5, 31)] 1000 (callC Tryd.prog (tellA rlayC_t0) [] [(42, rputC), (42, rputCO)] [] 3000 40 22 rlayC) = some rlayC_d0 := by kernel_rfl
theorem rlayC_holds : CHolds Tryd.prog 22 rlayC F := by
  refine cholds_of sound (tableNil _ _) (specsCons rputC_holds (specsCons rputCO_holds (specsNil _ _))) (oversNil _ _) (fuel := 3000) (depth := 40) (by kernel_rfl) fun d hp hR hA => ?_
  have hp := allTold'_iff.2 hp
  simp only [rlayC, allTold', dutiesTold, factsA, factsC, factsP, factsR, AV.facts, RW.facts, inK, and_true, Q.holds', E.i, E.s, E.n, D.nat, E.den, BO.den, UO.den, TO.den, D.toInt_int, D.toList_list, D.ints_ofInts, i64min, i64max, u8min, u8max, u16min, u16max, u32min, u32max, u64min, u64max, i32min, i32max, Om.sub, selI, ints_app, ints_cut, ints_upd, ints_rep, ints_splice, ints_seg, len_ints] at hp hR hA
  obtain ⟨hl, hx⟩ := hR
  have hb : ((prt (d 9).ints (d 5).toInt ((d 5).toInt + (d 6).toInt)).length : Int) = (d 6).toInt := by rw [prt_length (by omega) (by omega) (by omega)]; omega
  refine ⟨tellA rlayC_t0, _, _, _, tellA_ok (allTold'_iff.1 ?_), rlayC_y0, dutiesTold_ok ?_⟩
  · simp only [rlayC_t0, F11, allTold', dutiesTold, factsA, factsC, factsP, factsR, AV.facts, RW.facts, inK, and_true, Q.holds', E.i, E.s, E.n, D.nat, E.den, BO.den, UO.den, TO.den, D.toInt_int, D.toList_list, D.ints_ofInts, i64min, i64max, u8min, u8max, u16min, u16max, u32min, u32max, u64min, u64max, i32min, i32max, Om.sub, selI, ints_app, ints_cut, ints_upd, ints_rep, ints_splice, ints_seg, len_ints]
    all_goals (and_intros <;> first | omega | trivial | trivial)
  · simp only [rlayC_d0, F8, F9, F12, ints_list, List.map_append, List.map_drop, List.map_take, List.map_cons, List.map_nil, map_ints, allTold', dutiesTold, factsA, factsC, factsP, factsR, AV.facts, RW.facts, inK, and_true, Q.holds', E.i, E.s, E.n, D.nat, E.den, BO.den, UO.den, TO.den, D.toInt_int, D.toList_list, D.ints_ofInts, i64min, i64max, u8min, u8max, u16min, u16max, u32min, u32max, u64min, u64max, i32min, i32max, Om.sub, selI, ints_app, ints_cut, ints_upd, ints_rep, ints_splice, ints_seg, len_ints]
    simp only [cut_prt]
    generalize hB : prt (d 9).ints (d 5).toInt ((d 5).toInt + (d 6).toInt) = B at *
    and_intros <;> first | omega | trivial | skip
    all_goals rw [prt_all (by simp; omega)]
    all_goals first
      | (simp [layI, fourI, byteI, hb, shr_0]; done)
      | (refine Eq.trans (congrArg rputI (a₂ := layI (d 0).toInt (d 1).toInt (d 2).toInt (d 3).toInt (d 4).toInt B) ?_) (rput_put (lay_bytes (by rw [← hB]; exact prt_bytes hx)))
         simp [layI, fourI, byteI, hb, shr_0])

def rlayCO : CSpec := { args := [.agg [.sint .i64 (.var 0), .sint .i64 (.var 1), .sint .i64 (.var 2), .sint .i64 (.var 3), .sint .i64 (.var 4), .sslice 3 (.var 5) (.var 6) (.var 7) true]], next := 2, rows := [(3, .eseq ⟨.u8, .var 8, .var 9⟩)], pre := [(.le (.bi .add (.var 5) (.var 6)) (.var 8), true), (.le (.var 6) (.int 900000), true), (.le (.int 0) (.var 6), true), (.le (.int 0) (.var 5), true)], res := .sslice 5 (.int 0) (.bi .add (.var 6) (.int 26)) (.bi .add (.var 6) (.int 26)) true, frows := [(5, .seq ⟨5, .u8, .bi .add (.var 6) (.int 26), (.fn 12 (argsE [.var 0, .var 1, .var 2, .var 3, .var 4, .var 9, .var 5, .var 6])), true, false⟩)], same := [] }
def rlayCO_t0 : List (Q × Bool) := [asFi0, asFi1, asFi2, asFi3, asFi4]
def rlayCO_d0 : List Duty := [(true, (.bi .add (.bi .add (.var 6) (.int 22)) (.int 4)), (.bi .add (.var 6) (.int 26))), (true, (.bi .add (.bi .add (.var 6) (.int 22)) (.int 4)), (.bi .add (.var 6) (.int 26))), (true, (.bi .add (.bi .add (.var 6) (.int 22)) (.int 4)), (.bi .add (.var 6) (.int 26))), (false, (.fn 9 (.bi .pair (.bi .app (.bi .app (.un .one (.int 83)) (.bi .app (.un .one (.int 75)) (.bi .app (.un .one (.int 1)) (.bi .app (.un .one (.un (.wrap .u8) (.var 0))) (.bi .app (.un .one (.un (.wrap .u8) (.bi (.iop .shr .i64) (.var 1) (.int 24)))) (.bi .app (.un .one (.un (.wrap .u8) (.bi (.iop .shr .i64) (.var 1) (.int 16)))) (.bi .app (.un .one (.un (.wrap .u8) (.bi (.iop .shr .i64) (.var 1) (.int 8)))) (.bi .app (.un .one (.un (.wrap .u8) (.var 1))) (.bi .app (.un .one (.un (.wrap .u8) (.bi (.iop .shr .i64) (.var 2) (.int 24)))) (.bi .app (.un .one (.un (.wrap .u8) (.bi (.iop .shr .i64) (.var 2) (.int 16)))) (.bi .app (.un .one (.un (.wrap .u8) (.bi (.iop .shr .i64) (.var 2) (.int 8)))) (.bi .app (.un .one (.un (.wrap .u8) (.var 2))) (.bi .app (.un .one (.un (.wrap .u8) (.bi (.iop .shr .i64) (.var 3) (.int 24)))) (.bi .app (.un .one (.un (.wrap .u8) (.bi (.iop .shr .i64) (.var 3) (.int 16)))) (.bi .app (.un .one (.un (.wrap .u8) (.bi (.iop .shr .i64) (.var 3) (.int 8)))) (.bi .app (.un .one (.un (.wrap .u8) (.var 3))) (.bi .app (.un .one (.un (.wrap .u8) (.bi (.iop .shr .i64) (.var 4) (.int 24)))) (.bi .app (.un .one (.un (.wrap .u8) (.bi (.iop .shr .i64) (.var 4) (.int 16)))) (.bi .app (.un .one (.un (.wrap .u8) (.bi (.iop .shr .i64) (.var 4) (.int 8)))) (.bi .app (.un .one (.un (.wrap .u8) (.var 4))) (.bi .app (.un .one (.un (.wrap .u8) (.bi (.iop .shr .i64) (.var 6) (.int 8)))) (.bi .app (.un .one (.un (.wrap .u8) (.var 6))) (.lits []))))))))))))))))))))))) (.tr .cut (.var 9) (.var 5) (.bi .add (.var 5) (.var 6)))) (.bi .pair (.int 0) (.bi .pair (.bi .add (.int 0) (.bi .add (.var 6) (.int 22))) (.int 0))))), (.fn 12 (.bi .pair (.var 0) (.bi .pair (.var 1) (.bi .pair (.var 2) (.bi .pair (.var 3) (.bi .pair (.var 4) (.bi .pair (.var 9) (.bi .pair (.var 5) (.bi .pair (.var 6) (.int 0)))))))))))]
theorem rlayCO_y0 : endC rlayCO [(5, 31)] 1000 (callC Tryd.prog (tellA rlayCO_t0) [] [(42, rputC), (42, rputCO)] [] 3000 40 22 rlayCO) = some rlayCO_d0 := by kernel_rfl
theorem rlayCO_holds : CHolds Tryd.prog 22 rlayCO F := by
  refine cholds_of sound (tableNil _ _) (specsCons rputC_holds (specsCons rputCO_holds (specsNil _ _))) (oversNil _ _) (fuel := 3000) (depth := 40) (by kernel_rfl) fun d hp hR hA => ?_
  have hp := allTold'_iff.2 hp
  simp only [rlayCO, allTold', dutiesTold, factsA, factsC, factsP, factsR, AV.facts, RW.facts, inK, and_true, Q.holds', E.i, E.s, E.n, D.nat, E.den, BO.den, UO.den, TO.den, D.toInt_int, D.toList_list, D.ints_ofInts, i64min, i64max, u8min, u8max, u16min, u16max, u32min, u32max, u64min, u64max, i32min, i32max, Om.sub, selI, ints_app, ints_cut, ints_upd, ints_rep, ints_splice, ints_seg, len_ints] at hp hR hA
  obtain ⟨hl, hx⟩ := hR
  have hb : ((prt (d 9).ints (d 5).toInt ((d 5).toInt + (d 6).toInt)).length : Int) = (d 6).toInt := by rw [prt_length (by omega) (by omega) (by omega)]; omega
  refine ⟨tellA rlayCO_t0, _, _, _, tellA_ok (allTold'_iff.1 ?_), rlayCO_y0, dutiesTold_ok ?_⟩
  · simp only [rlayCO_t0, F11, allTold', dutiesTold, factsA, factsC, factsP, factsR, AV.facts, RW.facts, inK, and_true, Q.holds', E.i, E.s, E.n, D.nat, E.den, BO.den, UO.den, TO.den, D.toInt_int, D.toList_list, D.ints_ofInts, i64min, i64max, u8min, u8max, u16min, u16max, u32min, u32max, u64min, u64max, i32min, i32max, Om.sub, selI, ints_app, ints_cut, ints_upd, ints_rep, ints_splice, ints_seg, len_ints]
    all_goals (and_intros <;> first | omega | trivial | trivial)
  · simp only [rlayCO_d0, F8, F9, F12, ints_list, List.map_append, List.map_drop, List.map_take, List.map_cons, List.map_nil, map_ints, allTold', dutiesTold, factsA, factsC, factsP, factsR, AV.facts, RW.facts, inK, and_true, Q.holds', E.i, E.s, E.n, D.nat, E.den, BO.den, UO.den, TO.den, D.toInt_int, D.toList_list, D.ints_ofInts, i64min, i64max, u8min, u8max, u16min, u16max, u32min, u32max, u64min, u64max, i32min, i32max, Om.sub, selI, ints_app, ints_cut, ints_upd, ints_rep, ints_splice, ints_seg, len_ints]
    simp only [cut_prt]
    generalize hB : prt (d 9).ints (d 5).toInt ((d 5).toInt + (d 6).toInt) = B at *
    and_intros <;> first | omega | trivial | skip
    all_goals rw [prt_all (by simp; omega)]
    all_goals first
      | (simp [layI, fourI, byteI, hb, shr_0]; done)
      | (refine Eq.trans (congrArg rputI (a₂ := layI (d 0).toInt (d 1).toInt (d 2).toInt (d 3).toInt (d 4).toInt B) ?_) (rput_put (lay_bytes (by rw [← hB]; exact prt_bytes hx)))
         simp [layI, fourI, byteI, hb, shr_0])

def rlayCE : CSpec := { args := [.agg [.sint .i64 (.var 0), .sint .i64 (.var 1), .sint .i64 (.var 2), .sint .i64 (.var 3), .sint .i64 (.var 4), .empty]], next := 2, rows := [], pre := [], res := .sslice 5 (.int 0) (.int 26) (.int 26) true, frows := [(5, .seq ⟨5, .u8, .int 26, (.fn 12 (argsE [.var 0, .var 1, .var 2, .var 3, .var 4, .lits [], .int 0, .int 0])), true, false⟩)], same := [] }
abbrev asFi5 : Q × Bool := ((.le (.bi .add (.int 0) (.int 22)) (.int 22)), true)
def rlayCE_t0 : List (Q × Bool) := [asFi5]
def rlayCE_d0 : List Duty := [(true, (.bi .add (.int 22) (.int 4)), (.int 26)), (true, (.bi .add (.int 22) (.int 4)), (.int 26)), (true, (.bi .add (.int 22) (.int 4)), (.int 26)), (false, (.fn 9 (.bi .pair (.bi .app (.un .one (.int 83)) (.bi .app (.un .one (.int 75)) (.bi .app (.un .one (.int 1)) (.bi .app (.un .one (.un (.wrap .u8) (.var 0))) (.bi .app (.un .one (.un (.wrap .u8) (.bi (.iop .shr .i64) (.var 1) (.int 24)))) (.bi .app (.un .one (.un (.wrap .u8) (.bi (.iop .shr .i64) (.var 1) (.int 16)))) (.bi .app (.un .one (.un (.wrap .u8) (.bi (.iop .shr .i64) (.var 1) (.int 8)))) (.bi .app (.un .one (.un (.wrap .u8) (.var 1))) (.bi .app (.un .one (.un (.wrap .u8) (.bi (.iop .shr .i64) (.var 2) (.int 24)))) (.bi .app (.un .one (.un (.wrap .u8) (.bi (.iop .shr .i64) (.var 2) (.int 16)))) (.bi .app (.un .one (.un (.wrap .u8) (.bi (.iop .shr .i64) (.var 2) (.int 8)))) (.bi .app (.un .one (.un (.wrap .u8) (.var 2))) (.bi .app (.un .one (.un (.wrap .u8) (.bi (.iop .shr .i64) (.var 3) (.int 24)))) (.bi .app (.un .one (.un (.wrap .u8) (.bi (.iop .shr .i64) (.var 3) (.int 16)))) (.bi .app (.un .one (.un (.wrap .u8) (.bi (.iop .shr .i64) (.var 3) (.int 8)))) (.bi .app (.un .one (.un (.wrap .u8) (.var 3))) (.bi .app (.un .one (.un (.wrap .u8) (.bi (.iop .shr .i64) (.var 4) (.int 24)))) (.bi .app (.un .one (.un (.wrap .u8) (.bi (.iop .shr .i64) (.var 4) (.int 16)))) (.bi .app (.un .one (.un (.wrap .u8) (.bi (.iop .shr .i64) (.var 4) (.int 8)))) (.bi .app (.un .one (.un (.wrap .u8) (.var 4))) (.lits [0, 0]))))))))))))))))))))) (.bi .pair (.int 0) (.bi .pair (.bi .add (.int 0) (.int 22)) (.int 0))))), (.fn 12 (.bi .pair (.var 0) (.bi .pair (.var 1) (.bi .pair (.var 2) (.bi .pair (.var 3) (.bi .pair (.var 4) (.bi .pair (.lits []) (.bi .pair (.int 0) (.bi .pair (.int 0) (.int 0)))))))))))]
theorem rlayCE_y0 : endC rlayCE [(5, 29)] 1000 (callC Tryd.prog (tellA rlayCE_t0) [] [(42, rputC), (42, rputCO)] [] 3000 40 22 rlayCE) = some rlayCE_d0 := by kernel_rfl
theorem rlayCE_holds : CHolds Tryd.prog 22 rlayCE F := by
  refine cholds_of sound (tableNil _ _) (specsCons rputC_holds (specsCons rputCO_holds (specsNil _ _))) (oversNil _ _) (fuel := 3000) (depth := 40) (by kernel_rfl) fun d hp hR hA => ?_
  have hp := allTold'_iff.2 hp
  simp only [rlayCE, allTold', dutiesTold, factsA, factsC, factsP, factsR, AV.facts, RW.facts, inK, and_true, Q.holds', E.i, E.s, E.n, D.nat, E.den, BO.den, UO.den, TO.den, D.toInt_int, D.toList_list, D.ints_ofInts, i64min, i64max, u8min, u8max, u16min, u16max, u32min, u32max, u64min, u64max, i32min, i32max, Om.sub, selI, ints_app, ints_cut, ints_upd, ints_rep, ints_splice, ints_seg, len_ints] at hp hR hA
  refine ⟨tellA rlayCE_t0, _, _, _, tellA_ok (allTold'_iff.1 ?_), rlayCE_y0, dutiesTold_ok ?_⟩
  · simp only [rlayCE_t0, F11, allTold', dutiesTold, factsA, factsC, factsP, factsR, AV.facts, RW.facts, inK, and_true, Q.holds', E.i, E.s, E.n, D.nat, E.den, BO.den, UO.den, TO.den, D.toInt_int, D.toList_list, D.ints_ofInts, i64min, i64max, u8min, u8max, u16min, u16max, u32min, u32max, u64min, u64max, i32min, i32max, Om.sub, selI, ints_app, ints_cut, ints_upd, ints_rep, ints_splice, ints_seg, len_ints]
    all_goals (and_intros <;> first | omega | trivial | trivial)
  · simp only [rlayCE_d0, F8, F9, F12, ints_list, List.map_append, List.map_drop, List.map_take, List.map_cons, List.map_nil, map_ints, allTold', dutiesTold, factsA, factsC, factsP, factsR, AV.facts, RW.facts, inK, and_true, Q.holds', E.i, E.s, E.n, D.nat, E.den, BO.den, UO.den, TO.den, D.toInt_int, D.toList_list, D.ints_ofInts, i64min, i64max, u8min, u8max, u16min, u16max, u32min, u32max, u64min, u64max, i32min, i32max, Om.sub, selI, ints_app, ints_cut, ints_upd, ints_rep, ints_splice, ints_seg, len_ints]
    try simp only [prt_e]
    and_intros <;> try omega
    all_goals rw [prt_all (by simp)]
    all_goals try rw [prt_e]
    all_goals first
      | (rw [lay_nil]; simp only [fourI, byteI, shr_0, List.cons_append, List.nil_append]; done)
      | (refine Eq.trans (congrArg rputI (a₂ := layI (d 0).toInt (d 1).toInt (d 2).toInt (d 3).toInt (d 4).toInt []) ?_) (rput_put (lay_bytes (by simp)))
         rw [lay_nil]
         simp only [fourI, byteI, shr_0, List.cons_append, List.nil_append])

end Go.Proofs.YtlmcjfcfmcdcpaaDoor.Fi
