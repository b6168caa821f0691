/-
  Contracts of this seat: what loops and calls leave, for all inputs. No condition.
-/
import Derived.Test.YtlmcjfcfmcdcpaaDoorSycp
import Derived.Test.YtlmcjfcfmcdcpaaDoorCo
import Derived.Test.YtlmcjfcfmcdcpaaDoorGa
import Derived.Test.YtlmcjfcfmcdcpaaDoorG2
import Derived.Test.YtlmcjfcfmcdcpaaDoorGm
import Derived.Test.YtlmcjfcfmcdcpaaDoorFl
set_option linter.unusedSimpArgs false
set_option linter.unusedVariables false
namespace Go.Proofs.YtlmcjfcfmcdcpaaDoor.F9
open Go.RowKit Go.Ev Go.Proofs.YtlmcjfcfmcdcpaaDoor.Co

open Go.Proofs.YtlmcjfcfmcdcpaaDoor.Ga
open Go.Proofs.YtlmcjfcfmcdcpaaDoor.G2
open Go.Proofs.YtlmcjfcfmcdcpaaDoor.Gm
open Go.Proofs.YtlmcjfcfmcdcpaaDoor.Fl

def numCO : CSpec := { args := [.sslice 3 (.var 1) (.var 2) (.var 3) true], next := 2, rows := [(3, .eseq ⟨.u8, .var 4, .var 5⟩)], pre := [(.le (.bi .add (.var 1) (.var 2)) (.var 4), true), (.le (.int 4) (.var 2), true)], res := .sint .i64 (.fn 15 (argsE [.var 5, .var 1, .bi .add (.var 1) (.int 4)])), frows := [], same := [] }
abbrev asF90 : Q × Bool := ((.le (.var 2) (.int 0)), false)
abbrev asF91 : Q × Bool := ((.le (.int 0) (.var 1)), true)
abbrev asF92 : Q × Bool := ((.le (.var 4) (.var 1)), false)
abbrev asF93 : Q × Bool := ((.le (.var 2) (.int 1)), false)
abbrev asF94 : Q × Bool := ((.le (.int 0) (.bi .add (.var 1) (.int 1))), true)
abbrev asF95 : Q × Bool := ((.le (.var 4) (.bi .add (.var 1) (.int 1))), false)
abbrev asF96 : Q × Bool := ((.le (.var 2) (.int 2)), false)
abbrev asF97 : Q × Bool := ((.le (.int 0) (.bi .add (.var 1) (.int 2))), true)
abbrev asF98 : Q × Bool := ((.le (.var 4) (.bi .add (.var 1) (.int 2))), false)
abbrev asF99 : Q × Bool := ((.le (.var 2) (.int 3)), false)
abbrev asF910 : Q × Bool := ((.le (.int 0) (.bi .add (.var 1) (.int 3))), true)
abbrev asF911 : Q × Bool := ((.le (.var 4) (.bi .add (.var 1) (.int 3))), false)
def numCO_t0 : List (Q × Bool) := [asF90, asF91, asF92, asF93, asF94, asF95, asF96, asF97, asF98, asF99, asF910, asF911]
def numCO_d0 : List Duty := [(true, (.bi (.iop .or .i64) (.bi (.iop .or .i64) (.bi (.iop .or .i64) (.bi (.iop .shl .i64) (.bi .sel (.var 5) (.var 1)) (.int 24)) (.bi (.iop .shl .i64) (.bi .sel (.var 5) (.bi .add (.var 1) (.int 1))) (.int 16))) (.bi (.iop .shl .i64) (.bi .sel (.var 5) (.bi .add (.var 1) (.int 2))) (.int 8))) (.bi .sel (.var 5) (.bi .add (.var 1) (.int 3)))), (.fn 15 (.bi .pair (.var 5) (.bi .pair (.var 1) (.bi .pair (.bi .add (.var 1) (.int 4)) (.int 0))))))]
theorem numCO_y0 : endC numCO [] 1000 (callC Tryd.prog (tellA numCO_t0) [] [] [] 3000 40 40 numCO) = some numCO_d0 := by kernel_rfl
theorem numCO_holds : CHolds Tryd.prog 40 numCO F := by
  refine cholds_of sound (tableNil _ _) (specsNil _ _) (oversNil _ _) (fuel := 3000) (depth := 40) (by kernel_rfl) fun d hp hR hA => ?_
  have hp := allTold'_iff.2 hp
  simp only [numCO, allTold', dutiesTold, factsA, factsC, factsP, factsR, AV.facts, RW.facts, inK, and_true, Q.holds', E.i, E.s, E.n, D.nat, E.den, BO.den, UO.den, TO.den, D.toInt_int, D.toList_list, D.ints_ofInts, i64min, i64max, u8min, u8max, u16min, u16max, u32min, u32max, u64min, u64max, i32min, i32max, Om.sub, selI, ints_app, ints_cut, ints_upd, ints_rep, ints_splice, ints_seg, len_ints] at hp hR hA
  refine ⟨tellA numCO_t0, _, _, _, tellA_ok (allTold'_iff.1 ?_), numCO_y0, dutiesTold_ok ?_⟩
  · simp only [numCO_t0, allTold', dutiesTold, factsA, factsC, factsP, factsR, AV.facts, RW.facts, inK, and_true, Q.holds', E.i, E.s, E.n, D.nat, E.den, BO.den, UO.den, TO.den, D.toInt_int, D.toList_list, D.ints_ofInts, i64min, i64max, u8min, u8max, u16min, u16max, u32min, u32max, u64min, u64max, i32min, i32max, Om.sub, selI, ints_app, ints_cut, ints_upd, ints_rep, ints_splice, ints_seg, len_ints]
    omega
  · simp only [numCO_d0, F15, allTold', dutiesTold, factsA, factsC, factsP, factsR, AV.facts, RW.facts, inK, and_true, Q.holds', E.i, E.s, E.n, D.nat, E.den, BO.den, UO.den, TO.den, D.toInt_int, D.toList_list, D.ints_ofInts, i64min, i64max, u8min, u8max, u16min, u16max, u32min, u32max, u64min, u64max, i32min, i32max, Om.sub, selI, ints_app, ints_cut, ints_upd, ints_rep, ints_splice, ints_seg, len_ints]
    obtain ⟨hl, hx⟩ := hR
    and_intros <;> first | exact rx4 hx (by omega) (by omega) (by omega) (by omega) (by omega) (by omega) | omega | trivial | skip

def rgchkY : CSpec := { args := [.sslice 3 (.var 1) (.var 2) (.var 3) false], next := 2, rows := [(3, .eseq ⟨.u8, .var 4, .var 5⟩)], pre := [(.le (.bi .add (.var 1) (.var 2)) (.var 4), true), (.le (.int 5) (.var 2), true), (.le (.var 2) (.int 1000000), true), (.eq (.fn 14 (argsE [.var 5, .var 1, .bi .add (.var 1) (.var 2)])) (.int 1), true)], res := .tuple [.sslice 5 (.int 0) (.bi .add (.var 2) (.int (-4))) (.bi .add (.var 2) (.int (-4))) true, .int .i64 0], frows := [(5, .seq ⟨5, .u8, .bi .add (.var 2) (.int (-4)), .tr .cut (.var 5) (.var 1) (.bi .add (.var 1) (.bi .add (.var 2) (.int (-4)))), true, false⟩)], same := [] }
abbrev asF912 : Q × Bool := ((.fit .i64 (.var 2)), true)
abbrev asF913 : Q × Bool := ((.le (.int 4) (.var 2)), true)
abbrev asF914 : Q × Bool := ((.fit .i64 (.bi .add (.var 2) (.int (-4)))), true)
abbrev asF915 : Q × Bool := ((.le (.int 0) (.bi .add (.var 2) (.int (-4)))), true)
abbrev asF916 : Q × Bool := ((.le (.bi .add (.var 2) (.int (-4))) (.var 3)), true)
abbrev asF917 : Q × Bool := ((.le (.bi .add (.var 1) (.bi .add (.var 2) (.int (-4)))) (.var 4)), true)
abbrev asF918 : Q × Bool := ((.le (.bi .mul (.bi .add (.var 2) (.int (-4))) (.int 2)) (.int 281474976710656)), true)
abbrev asF919 : Q × Bool := ((.le (.bi .add (.var 1) (.var 2)) (.var 4)), true)
abbrev asF920 : Q × Bool := ((.le (.bi .add (.int 0) (.bi .add (.var 2) (.int (-4)))) (.bi .add (.var 2) (.int (-4)))), true)
abbrev asF921 : Q × Bool := ((.le (.bi .add (.var 2) (.int (-4))) (.int 1000000)), true)
abbrev asF922 : Q × Bool := ((.same (.fn 9 (.bi .pair (.tr .cut (.var 5) (.var 1) (.bi .add (.var 1) (.bi .add (.var 2) (.int (-4))))) (.bi .pair (.int 0) (.bi .pair (.bi .add (.int 0) (.bi .add (.var 2) (.int (-4)))) (.int 0))))) (.tr .cut (.var 5) (.var 1) (.bi .add (.var 1) (.var 2)))), true)
def rgchkY_t0 : List (Q × Bool) := [asF912, asF913, asF914, asF915, asF916, asF917, asF918, asF919, asF920, asF921, asF922]
def rgchkY_d0 : List Duty := []
theorem rgchkY_y0 : endC rgchkY [(5, 7)] 1000 (callC Tryd.prog (tellA rgchkY_t0) [] [(42, rputC), (42, rputCO)] [] 3000 40 39 rgchkY) = some rgchkY_d0 := by kernel_rfl
theorem rgchkY_holds : CHolds Tryd.prog 39 rgchkY F := by
  refine cholds_of sound (tableNil _ _) (specsCons rputC_holds (specsCons rputCO_holds (specsNil _ _))) (oversNil _ _) (fuel := 3000) (depth := 40) (by kernel_rfl) fun d hp hR hA => ?_
  have hp := allTold'_iff.2 hp
  simp only [rgchkY, allTold', dutiesTold, factsA, factsC, factsP, factsR, AV.facts, RW.facts, inK, and_true, Q.holds', E.i, E.s, E.n, D.nat, E.den, BO.den, UO.den, TO.den, D.toInt_int, D.toList_list, D.ints_ofInts, i64min, i64max, u8min, u8max, u16min, u16max, u32min, u32max, u64min, u64max, i32min, i32max, Om.sub, selI, ints_app, ints_cut, ints_upd, ints_rep, ints_splice, ints_seg, len_ints] at hp hR hA
  simp only [F14, argsE, allTold', dutiesTold, factsA, factsC, factsP, factsR, AV.facts, RW.facts, inK, and_true, Q.holds', E.i, E.s, E.n, D.nat, E.den, BO.den, UO.den, TO.den, D.toInt_int, D.toList_list, D.ints_ofInts, i64min, i64max, u8min, u8max, u16min, u16max, u32min, u32max, u64min, u64max, i32min, i32max, Om.sub, selI, ints_app, ints_cut, ints_upd, ints_rep, ints_splice, ints_seg, len_ints] at hp
  obtain ⟨hl, hx⟩ := hR
  have g := rgood_iff (x := (d 5).ints) (o := (d 1).toInt) (l := (d 2).toInt) hx (by omega) (by omega) (by omega)
  have g := g.1 hp.2.2.2
  refine ⟨tellA rgchkY_t0, _, _, _, tellA_ok (allTold'_iff.1 ?_), rgchkY_y0, dutiesTold_ok ?_⟩
  · simp only [rgchkY_t0, F9, allTold', dutiesTold, factsA, factsC, factsP, factsR, AV.facts, RW.facts, inK, and_true, Q.holds', E.i, E.s, E.n, D.nat, E.den, BO.den, UO.den, TO.den, D.toInt_int, D.toList_list, D.ints_ofInts, i64min, i64max, u8min, u8max, u16min, u16max, u32min, u32max, u64min, u64max, i32min, i32max, Om.sub, selI, ints_app, ints_cut, ints_upd, ints_rep, ints_splice, ints_seg, len_ints]
    and_intros <;> first | omega | exact g
  · trivial

def rgchkYO : CSpec := { args := [.sslice 3 (.var 1) (.var 2) (.var 3) true], next := 2, rows := [(3, .eseq ⟨.u8, .var 4, .var 5⟩)], pre := [(.le (.bi .add (.var 1) (.var 2)) (.var 4), true), (.le (.int 5) (.var 2), true), (.le (.var 2) (.int 1000000), true), (.eq (.fn 14 (argsE [.var 5, .var 1, .bi .add (.var 1) (.var 2)])) (.int 1), true)], res := .tuple [.sslice 5 (.int 0) (.bi .add (.var 2) (.int (-4))) (.bi .add (.var 2) (.int (-4))) true, .int .i64 0], frows := [(5, .seq ⟨5, .u8, .bi .add (.var 2) (.int (-4)), .tr .cut (.var 5) (.var 1) (.bi .add (.var 1) (.bi .add (.var 2) (.int (-4)))), true, false⟩)], same := [] }
def rgchkYO_t0 : List (Q × Bool) := [asF912, asF913, asF914, asF915, asF916, asF917, asF918, asF919, asF920, asF921, asF922]
def rgchkYO_d0 : List Duty := []
theorem rgchkYO_y0 : endC rgchkYO [(5, 7)] 1000 (callC Tryd.prog (tellA rgchkYO_t0) [] [(42, rputC), (42, rputCO)] [] 3000 40 39 rgchkYO) = some rgchkYO_d0 := by kernel_rfl
theorem rgchkYO_holds : CHolds Tryd.prog 39 rgchkYO F := by
  refine cholds_of sound (tableNil _ _) (specsCons rputC_holds (specsCons rputCO_holds (specsNil _ _))) (oversNil _ _) (fuel := 3000) (depth := 40) (by kernel_rfl) fun d hp hR hA => ?_
  have hp := allTold'_iff.2 hp
  simp only [rgchkYO, allTold', dutiesTold, factsA, factsC, factsP, factsR, AV.facts, RW.facts, inK, and_true, Q.holds', E.i, E.s, E.n, D.nat, E.den, BO.den, UO.den, TO.den, D.toInt_int, D.toList_list, D.ints_ofInts, i64min, i64max, u8min, u8max, u16min, u16max, u32min, u32max, u64min, u64max, i32min, i32max, Om.sub, selI, ints_app, ints_cut, ints_upd, ints_rep, ints_splice, ints_seg, len_ints] at hp hR hA
  simp only [F14, argsE, allTold', dutiesTold, factsA, factsC, factsP, factsR, AV.facts, RW.facts, inK, and_true, Q.holds', E.i, E.s, E.n, D.nat, E.den, BO.den, UO.den, TO.den, D.toInt_int, D.toList_list, D.ints_ofInts, i64min, i64max, u8min, u8max, u16min, u16max, u32min, u32max, u64min, u64max, i32min, i32max, Om.sub, selI, ints_app, ints_cut, ints_upd, ints_rep, ints_splice, ints_seg, len_ints] at hp
  obtain ⟨hl, hx⟩ := hR
  have g := rgood_iff (x := (d 5).ints) (o := (d 1).toInt) (l := (d 2).toInt) hx (by omega) (by omega) (by omega)
  have g := g.1 hp.2.2.2
  refine ⟨tellA rgchkYO_t0, _, _, _, tellA_ok (allTold'_iff.1 ?_), rgchkYO_y0, dutiesTold_ok ?_⟩
  · simp only [rgchkYO_t0, F9, allTold', dutiesTold, factsA, factsC, factsP, factsR, AV.facts, RW.facts, inK, and_true, Q.holds', E.i, E.s, E.n, D.nat, E.den, BO.den, UO.den, TO.den, D.toInt_int, D.toList_list, D.ints_ofInts, i64min, i64max, u8min, u8max, u16min, u16max, u32min, u32max, u64min, u64max, i32min, i32max, Om.sub, selI, ints_app, ints_cut, ints_upd, ints_rep, ints_splice, ints_seg, len_ints]
    and_intros <;> first | omega | exact g
  · trivial

def rgchkN : CSpec := { args := [.sslice 3 (.var 1) (.var 2) (.var 3) false], next := 2, rows := [(3, .eseq ⟨.u8, .var 4, .var 5⟩)], pre := [(.le (.bi .add (.var 1) (.var 2)) (.var 4), true), (.le (.int 5) (.var 2), true), (.le (.var 2) (.int 1000000), true), (.eq (.fn 14 (argsE [.var 5, .var 1, .bi .add (.var 1) (.var 2)])) (.int 1), false)], res := .tuple [.nilslice, .int .i64 4], frows := [], same := [] }
abbrev asF923 : Q × Bool := ((.same (.fn 9 (.bi .pair (.tr .cut (.var 5) (.var 1) (.bi .add (.var 1) (.bi .add (.var 2) (.int (-4))))) (.bi .pair (.int 0) (.bi .pair (.bi .add (.int 0) (.bi .add (.var 2) (.int (-4)))) (.int 0))))) (.tr .cut (.var 5) (.var 1) (.bi .add (.var 1) (.var 2)))), false)
def rgchkN_t0 : List (Q × Bool) := [asF912, asF913, asF914, asF915, asF916, asF917, asF918, asF919, asF920, asF921, asF923]
def rgchkN_d0 : List Duty := []
theorem rgchkN_y0 : endC rgchkN [] 1000 (callC Tryd.prog (tellA rgchkN_t0) [] [(42, rputC), (42, rputCO)] [] 3000 40 39 rgchkN) = some rgchkN_d0 := by kernel_rfl
theorem rgchkN_holds : CHolds Tryd.prog 39 rgchkN F := by
  refine cholds_of sound (tableNil _ _) (specsCons rputC_holds (specsCons rputCO_holds (specsNil _ _))) (oversNil _ _) (fuel := 3000) (depth := 40) (by kernel_rfl) fun d hp hR hA => ?_
  have hp := allTold'_iff.2 hp
  simp only [rgchkN, allTold', dutiesTold, factsA, factsC, factsP, factsR, AV.facts, RW.facts, inK, and_true, Q.holds', E.i, E.s, E.n, D.nat, E.den, BO.den, UO.den, TO.den, D.toInt_int, D.toList_list, D.ints_ofInts, i64min, i64max, u8min, u8max, u16min, u16max, u32min, u32max, u64min, u64max, i32min, i32max, Om.sub, selI, ints_app, ints_cut, ints_upd, ints_rep, ints_splice, ints_seg, len_ints] at hp hR hA
  simp only [F14, argsE, allTold', dutiesTold, factsA, factsC, factsP, factsR, AV.facts, RW.facts, inK, and_true, Q.holds', E.i, E.s, E.n, D.nat, E.den, BO.den, UO.den, TO.den, D.toInt_int, D.toList_list, D.ints_ofInts, i64min, i64max, u8min, u8max, u16min, u16max, u32min, u32max, u64min, u64max, i32min, i32max, Om.sub, selI, ints_app, ints_cut, ints_upd, ints_rep, ints_splice, ints_seg, len_ints] at hp
  obtain ⟨hl, hx⟩ := hR
  have g := rgood_iff (x := (d 5).ints) (o := (d 1).toInt) (l := (d 2).toInt) hx (by omega) (by omega) (by omega)
  have g := fun h => hp.2.2.2 (g.2 h)
  refine ⟨tellA rgchkN_t0, _, _, _, tellA_ok (allTold'_iff.1 ?_), rgchkN_y0, dutiesTold_ok ?_⟩
  · simp only [rgchkN_t0, F9, allTold', dutiesTold, factsA, factsC, factsP, factsR, AV.facts, RW.facts, inK, and_true, Q.holds', E.i, E.s, E.n, D.nat, E.den, BO.den, UO.den, TO.den, D.toInt_int, D.toList_list, D.ints_ofInts, i64min, i64max, u8min, u8max, u16min, u16max, u32min, u32max, u64min, u64max, i32min, i32max, Om.sub, selI, ints_app, ints_cut, ints_upd, ints_rep, ints_splice, ints_seg, len_ints]
    and_intros <;> first | omega | exact g
  · trivial

def rgchkNO : CSpec := { args := [.sslice 3 (.var 1) (.var 2) (.var 3) true], next := 2, rows := [(3, .eseq ⟨.u8, .var 4, .var 5⟩)], pre := [(.le (.bi .add (.var 1) (.var 2)) (.var 4), true), (.le (.int 5) (.var 2), true), (.le (.var 2) (.int 1000000), true), (.eq (.fn 14 (argsE [.var 5, .var 1, .bi .add (.var 1) (.var 2)])) (.int 1), false)], res := .tuple [.nilslice, .int .i64 4], frows := [], same := [] }
def rgchkNO_t0 : List (Q × Bool) := [asF912, asF913, asF914, asF915, asF916, asF917, asF918, asF919, asF920, asF921, asF923]
def rgchkNO_d0 : List Duty := []
theorem rgchkNO_y0 : endC rgchkNO [] 1000 (callC Tryd.prog (tellA rgchkNO_t0) [] [(42, rputC), (42, rputCO)] [] 3000 40 39 rgchkNO) = some rgchkNO_d0 := by kernel_rfl
theorem rgchkNO_holds : CHolds Tryd.prog 39 rgchkNO F := by
  refine cholds_of sound (tableNil _ _) (specsCons rputC_holds (specsCons rputCO_holds (specsNil _ _))) (oversNil _ _) (fuel := 3000) (depth := 40) (by kernel_rfl) fun d hp hR hA => ?_
  have hp := allTold'_iff.2 hp
  simp only [rgchkNO, allTold', dutiesTold, factsA, factsC, factsP, factsR, AV.facts, RW.facts, inK, and_true, Q.holds', E.i, E.s, E.n, D.nat, E.den, BO.den, UO.den, TO.den, D.toInt_int, D.toList_list, D.ints_ofInts, i64min, i64max, u8min, u8max, u16min, u16max, u32min, u32max, u64min, u64max, i32min, i32max, Om.sub, selI, ints_app, ints_cut, ints_upd, ints_rep, ints_splice, ints_seg, len_ints] at hp hR hA
  simp only [F14, argsE, allTold', dutiesTold, factsA, factsC, factsP, factsR, AV.facts, RW.facts, inK, and_true, Q.holds', E.i, E.s, E.n, D.nat, E.den, BO.den, UO.den, TO.den, D.toInt_int, D.toList_list, D.ints_ofInts, i64min, i64max, u8min, u8max, u16min, u16max, u32min, u32max, u64min, u64max, i32min, i32max, Om.sub, selI, ints_app, ints_cut, ints_upd, ints_rep, ints_splice, ints_seg, len_ints] at hp
  obtain ⟨hl, hx⟩ := hR
  have g := rgood_iff (x := (d 5).ints) (o := (d 1).toInt) (l := (d 2).toInt) hx (by omega) (by omega) (by omega)
  have g := fun h => hp.2.2.2 (g.2 h)
  refine ⟨tellA rgchkNO_t0, _, _, _, tellA_ok (allTold'_iff.1 ?_), rgchkNO_y0, dutiesTold_ok ?_⟩
  · simp only [rgchkNO_t0, F9, allTold', dutiesTold, factsA, factsC, factsP, factsR, AV.facts, RW.facts, inK, and_true, Q.holds', E.i, E.s, E.n, D.nat, E.den, BO.den, UO.den, TO.den, D.toInt_int, D.toList_list, D.ints_ofInts, i64min, i64max, u8min, u8max, u16min, u16max, u32min, u32max, u64min, u64max, i32min, i32max, Om.sub, selI, ints_app, ints_cut, ints_upd, ints_rep, ints_splice, ints_seg, len_ints]
    and_intros <;> first | omega | exact g
  · trivial

end Go.Proofs.YtlmcjfcfmcdcpaaDoor.F9
