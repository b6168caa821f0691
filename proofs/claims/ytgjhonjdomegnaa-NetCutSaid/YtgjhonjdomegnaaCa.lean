/-
  Contracts of this seat: what loops and calls leave, for all inputs. No condition.
-/
import Derived.Test.YtgjhonjdomegnaaSycp
import Derived.Test.YtgjhonjdomegnaaCo
set_option linter.unusedSimpArgs false
set_option linter.unusedVariables false
namespace Go.Proofs.Ytgjhonjdomegnaa.Ca
open Go.RowKit Go.Ev Go.Proofs.Ytgjhonjdomegnaa.Co


def F : Nat → D → D
  | 30 => fun a => .int ((argD a 0).toInt % 64)
  | _ => fun x => x
theorem F30 (i : D) : F 30 (.list [i, .int 0]) = .int (i.toInt % 64) := rfl

def awakeC : CSpec := ⟨[], 0, [], [], .bool true, [], []⟩
set_option maxRecDepth 100000 in
theorem awakeC_y : endC awakeC [] 1000 (callW Try.prog F noAsk [] [] [] 8000 80 11 awakeC) = some [] := by kernel_rfl
theorem awakeC_holds : CHolds Try.prog 11 awakeC F := choldsW_of sound (tableNil _ _) (specsNil _ _) (oversNil _ _) (by kernel_rfl) fun d _ _ _ => ⟨noAsk, [], 1000, [], noAsk_ok _, awakeC_y, fun p hp => by cases hp⟩

def pickC : CSpec := { args := [.sint .i64 (.var 0), .int .i64 64], next := 0, rows := [], pre := [], res := .sint .i64 (.fn 30 (argsE [.var 0])), frows := [], same := [] }
abbrev as0 : Q × Bool := ((.le (.int 0) (.bi (.iop .rem .i64) (.var 0) (.int 64))), true)
def pickC_t0 : List (Q × Bool) := [as0]
def pickC_d0 : List Duty := [(true, (.bi (.iop .rem .i64) (.var 0) (.int 64)), (.fn 30 (.bi .pair (.var 0) (.int 0))))]
theorem pickC_y0 : endC pickC [] 1000 (callC Try.prog (tellA pickC_t0) [] [] [] 3000 40 30 pickC) = some pickC_d0 := by kernel_rfl
abbrev as1 : Q × Bool := ((.le (.int 0) (.bi (.iop .rem .i64) (.var 0) (.int 64))), false)
abbrev as2 : Q × Bool := ((.fit .i64 (.bi .add (.bi (.iop .rem .i64) (.var 0) (.int 64)) (.int 64))), true)
def pickC_t1 : List (Q × Bool) := [as1, as2]
def pickC_d1 : List Duty := [(true, (.bi .add (.bi (.iop .rem .i64) (.var 0) (.int 64)) (.int 64)), (.fn 30 (.bi .pair (.var 0) (.int 0))))]
theorem pickC_y1 : endC pickC [] 1000 (callC Try.prog (tellA pickC_t1) [] [] [] 3000 40 30 pickC) = some pickC_d1 := by kernel_rfl
theorem pickC_holds : CHolds Try.prog 30 pickC F := by
  refine cholds_of sound (tableNil _ _) (specsNil _ _) (oversNil _ _) (fuel := 3000) (depth := 40) (by kernel_rfl) fun d hp hR hA => ?_
  have hp := allTold'_iff.2 hp
  simp only [pickC, allTold', dutiesTold, factsA, factsC, factsP, factsR, AV.facts, RW.facts, inK, and_true, Q.holds', E.i, E.s, E.n, D.nat, E.den, BO.den, UO.den, TO.den, D.toInt_int, D.toList_list, D.ints_ofInts, i64min, i64max, u8min, u8max, u16min, u16max, u32min, u32max, u64min, u64max, i32min, i32max, Om.sub, selI, ints_app, ints_cut, ints_upd, ints_rep, ints_splice, ints_seg, len_ints] at hp hR hA
  have e1 := emod_in (x := (d 0).toInt) (n := 64) (by omega)
  have e2 := tmod_or .i64 (x := (d 0).toInt) (n := 64) (by omega)
  by_cases h : 0 ≤ iopI .rem .i64 (d 0).toInt 64
  · refine ⟨tellA pickC_t0, _, _, _, tellA_ok (allTold'_iff.1 ?_), pickC_y0, dutiesTold_ok ?_⟩
    · simp only [pickC_t0, allTold', dutiesTold, factsA, factsC, factsP, factsR, AV.facts, RW.facts, inK, and_true, Q.holds', E.i, E.s, E.n, D.nat, E.den, BO.den, UO.den, TO.den, D.toInt_int, D.toList_list, D.ints_ofInts, i64min, i64max, u8min, u8max, u16min, u16max, u32min, u32max, u64min, u64max, i32min, i32max, Om.sub, selI, ints_app, ints_cut, ints_upd, ints_rep, ints_splice, ints_seg, len_ints]
      omega
    · simp only [pickC_d0, F30, allTold', dutiesTold, factsA, factsC, factsP, factsR, AV.facts, RW.facts, inK, and_true, Q.holds', E.i, E.s, E.n, D.nat, E.den, BO.den, UO.den, TO.den, D.toInt_int, D.toList_list, D.ints_ofInts, i64min, i64max, u8min, u8max, u16min, u16max, u32min, u32max, u64min, u64max, i32min, i32max, Om.sub, selI, ints_app, ints_cut, ints_upd, ints_rep, ints_splice, ints_seg, len_ints]
      omega
  · refine ⟨tellA pickC_t1, _, _, _, tellA_ok (allTold'_iff.1 ?_), pickC_y1, dutiesTold_ok ?_⟩
    · simp only [pickC_t1, allTold', dutiesTold, factsA, factsC, factsP, factsR, AV.facts, RW.facts, inK, and_true, Q.holds', E.i, E.s, E.n, D.nat, E.den, BO.den, UO.den, TO.den, D.toInt_int, D.toList_list, D.ints_ofInts, i64min, i64max, u8min, u8max, u16min, u16max, u32min, u32max, u64min, u64max, i32min, i32max, Om.sub, selI, ints_app, ints_cut, ints_upd, ints_rep, ints_splice, ints_seg, len_ints]
      omega
    · simp only [pickC_d1, F30, allTold', dutiesTold, factsA, factsC, factsP, factsR, AV.facts, RW.facts, inK, and_true, Q.holds', E.i, E.s, E.n, D.nat, E.den, BO.den, UO.den, TO.den, D.toInt_int, D.toList_list, D.ints_ofInts, i64min, i64max, u8min, u8max, u16min, u16max, u32min, u32max, u64min, u64max, i32min, i32max, Om.sub, selI, ints_app, ints_cut, ints_upd, ints_rep, ints_splice, ints_seg, len_ints]
      omega

def tab : List LEntry := []
def specs : List (FuncId × CSpec) := [(11, awakeC), (30, pickC)]
def overs : Overs := []
theorem tab_ok : TableOK Try.prog tab F := tableNil _ _
theorem specs_ok : SpecsOK Try.prog specs F := specsCons awakeC_holds (specsCons pickC_holds (specsNil _ _))
theorem overs_ok : OversOK Try.prog overs F := oversNil _ _
end Go.Proofs.Ytgjhonjdomegnaa.Ca
