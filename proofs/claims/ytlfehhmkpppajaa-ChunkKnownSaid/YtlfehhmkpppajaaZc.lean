/-
 Contracts of this seat: what loops and calls leave, for all inputs. No condition.
-/
import Derived.Test.YtlfehhmkpppajaaSycp
import Derived.Test.YtlfehhmkpppajaaSyfm
import Derived.Test.YtlfehhmkpppajaaCo
import Derived.Test.YtlfehhmkpppajaaZa
import Derived.Test.YtlfehhmkpppajaaZb
set_option linter.unusedSimpArgs false
set_option linter.unusedVariables false
namespace Go.Proofs.Ytlfehhmkpppajaa.Zc
open Go.RowKit Go.Ev Go.Proofs.Ytlfehhmkpppajaa.Co

open Go.Proofs.Ytlfehhmkpppajaa.Za
open Go.Proofs.Ytlfehhmkpppajaa.Zb
theorem sumL_nn : ∀ {l : List Int}, (∀ y ∈ l, 0 ≤ y) → 0 ≤ sumL l
 | [], _ => by simp [sumL]
 | y :: l, h => by
  have h1 := h y (by simp)
  have h2 := sumL_nn (l := l) fun z hz => h z (by simp [hz])
  simp only [sumL]; omega
theorem sumL_app (l m : List Int) : sumL (l ++ m) = sumL l + sumL m := by
 induction l with
 | nil => simp [sumL]
 | cons y l ih => simp only [List.cons_append, sumL, ih]; omega
theorem sumL_step {l : List Int} {i : Nat} (h : i < l.length) : sumL (l.take (i + 1)) = sumL (l.take i) + l[i]?.getD 0 := by
 rw [List.take_succ_eq_append_getElem h, sumL_app, List.getElem?_eq_getElem h]
 simp [sumL]
theorem okL_at {l : List Int} (h : okL l = true) (k : Nat) : 0 ≤ sumL (l.take k) ∧ sumL (l.take k) ≤ 20000 := by
 simp only [okL, Bool.and_eq_true, List.all_eq_true, decide_eq_true_eq] at h
 have e := sumL_app (l.take k) (l.drop k)
 rw [List.take_append_drop] at e
 have h1 := sumL_nn (l := l.take k) fun y hy => h.1 y (List.mem_of_mem_take hy)
 have h2 := sumL_nn (l := l.drop k) fun y hy => h.1 y (List.mem_of_mem_drop hy)
 omega
theorem same_at {x y : List Int} {a b n : Int} {i : Nat} (h : List.drop a.toNat (List.take (a + n).toNat x) = List.drop b.toNat (List.take (b + n).toNat y)) (ha : 0 ≤ a) (hb : 0 ≤ b) (hi : (i : Int) < n) : x[(a + i).toNat]?.getD 0 = y[(b + i).toNat]?.getD 0 := by
 have h2 := congrArg (fun l => l[i]?) h
 simp only [List.getElem?_drop, List.getElem?_take] at h2
 rw [if_pos (by omega), if_pos (by omega)] at h2
 rw [show (a + i).toNat = a.toNat + i by omega, show (b + i).toNat = b.toNat + i by omega, h2]

abbrev txZc0 : E := (.bi .add (.var 4) (.bi .sel (.var 5) (.var 0)))
abbrev txZc1 : E := (.tr .cut (.var 8) (.var 1) (.bi .add (.var 1) (.var 2)))
def pickC : CSpec := { args := [.sint .i64 (.var 0), .sint .i64 (.var 1)], next := 0, rows := [], pre := [(.le (.int 1) (.var 1), true)], res := .sint .i64 (.fn 7 (argsE [.var 0, .var 1])), frows := [], same := [] }
abbrev asZc0 : Q × Bool := ((.le (.int 1) (.var 1)), true)
abbrev asZc1 : Q × Bool := ((.eq (.var 1) (.int 0)), false)
abbrev asZc2 : Q × Bool := ((.le (.int 0) (.bi (.iop .rem .i64) (.var 0) (.var 1))), true)
def pickC_t0 : List (Q × Bool) := [asZc0, asZc1, asZc2]
def pickC_d0 : List Duty := [(true, (.bi (.iop .rem .i64) (.var 0) (.var 1)), (.fn 7 (.bi .pair (.var 0) (.bi .pair (.var 1) (.int 0)))))]
theorem pickC_y0 : endC pickC [] 1000 (callC Try.prog (tellA pickC_t0) [] [] [] 3000 40 14 pickC) = some pickC_d0 := by kernel_rfl
abbrev asZc3 : Q × Bool := ((.le (.int 0) (.bi (.iop .rem .i64) (.var 0) (.var 1))), false)
abbrev asZc4 : Q × Bool := ((.fit .i64 (.bi .add (.bi (.iop .rem .i64) (.var 0) (.var 1)) (.var 1))), true)
def pickC_t1 : List (Q × Bool) := [asZc0, asZc1, asZc3, asZc4]
def pickC_d1 : List Duty := [(true, (.bi .add (.bi (.iop .rem .i64) (.var 0) (.var 1)) (.var 1)), (.fn 7 (.bi .pair (.var 0) (.bi .pair (.var 1) (.int 0)))))]
theorem pickC_y1 : endC pickC [] 1000 (callC Try.prog (tellA pickC_t1) [] [] [] 3000 40 14 pickC) = some pickC_d1 := by kernel_rfl
theorem pickC_holds : CHolds Try.prog 14 pickC F := by
 refine cholds_of sound (tableNil _ _) (specsNil _ _) (oversNil _ _) (fuel := 3000) (depth := 40) (by kernel_rfl) fun d hp hR hA => ?_
 have hp := allTold'_iff.2 hp
 simp only [pickC, allTold', dutiesTold, factsA, factsC, factsP, factsR, AV.facts, RW.facts, inK, and_true, Q.holds', E.i, E.s, E.n, D.nat, E.den, BO.den, UO.den, TO.den, D.toInt_int, D.toList_list, D.ints_ofInts, i64min, i64max, u8min, u8max, u16min, u16max, u32min, u32max, u64min, u64max, i32min, i32max, Om.sub, selI, ints_app, ints_cut, ints_upd, ints_rep, ints_splice, ints_seg, len_ints] at hp hR hA
 have e1 := emod_in (x := (d 0).toInt) hp
 have e2 := tmod_or .i64 (x := (d 0).toInt) hp
 by_cases h : 0 ≤ iopI .rem .i64 (d 0).toInt (d 1).toInt
 ·refine ⟨tellA pickC_t0, _, _, _, tellA_ok (allTold'_iff.1 ?_), pickC_y0, dutiesTold_ok ?_⟩
  ·simp only [pickC_t0, allTold', dutiesTold, factsA, factsC, factsP, factsR, AV.facts, RW.facts, inK, and_true, Q.holds', E.i, E.s, E.n, D.nat, E.den, BO.den, UO.den, TO.den, D.toInt_int, D.toList_list, D.ints_ofInts, i64min, i64max, u8min, u8max, u16min, u16max, u32min, u32max, u64min, u64max, i32min, i32max, Om.sub, selI, ints_app, ints_cut, ints_upd, ints_rep, ints_splice, ints_seg, len_ints]
   omega
  ·simp only [pickC_d0, F7, allTold', dutiesTold, factsA, factsC, factsP, factsR, AV.facts, RW.facts, inK, and_true, Q.holds', E.i, E.s, E.n, D.nat, E.den, BO.den, UO.den, TO.den, D.toInt_int, D.toList_list, D.ints_ofInts, i64min, i64max, u8min, u8max, u16min, u16max, u32min, u32max, u64min, u64max, i32min, i32max, Om.sub, selI, ints_app, ints_cut, ints_upd, ints_rep, ints_splice, ints_seg, len_ints]
   omega
 ·refine ⟨tellA pickC_t1, _, _, _, tellA_ok (allTold'_iff.1 ?_), pickC_y1, dutiesTold_ok ?_⟩
  ·simp only [pickC_t1, allTold', dutiesTold, factsA, factsC, factsP, factsR, AV.facts, RW.facts, inK, and_true, Q.holds', E.i, E.s, E.n, D.nat, E.den, BO.den, UO.den, TO.den, D.toInt_int, D.toList_list, D.ints_ofInts, i64min, i64max, u8min, u8max, u16min, u16max, u32min, u32max, u64min, u64max, i32min, i32max, Om.sub, selI, ints_app, ints_cut, ints_upd, ints_rep, ints_splice, ints_seg, len_ints]
   omega
  ·simp only [pickC_d1, F7, allTold', dutiesTold, factsA, factsC, factsP, factsR, AV.facts, RW.facts, inK, and_true, Q.holds', E.i, E.s, E.n, D.nat, E.den, BO.den, UO.den, TO.den, D.toInt_int, D.toList_list, D.ints_ofInts, i64min, i64max, u8min, u8max, u16min, u16max, u32min, u32max, u64min, u64max, i32min, i32max, Om.sub, selI, ints_app, ints_cut, ints_upd, ints_rep, ints_splice, ints_seg, len_ints]
   omega

def awakeC : CSpec := ⟨[], 0, [], [], .bool true, [], []⟩
set_option maxRecDepth 100000 in
theorem awakeC_y : endC awakeC [] 1000 (callW Try.prog F noAsk [] [] [] 8000 80 8 awakeC) = some [] := by kernel_rfl
theorem awakeC_holds : CHolds Try.prog 8 awakeC F := choldsW_of sound (tableNil _ _) (specsNil _ _) (oversNil _ _) (by kernel_rfl) fun d _ _ _ => ⟨noAsk, [], 1000, [], noAsk_ok _, awakeC_y, fun p hp => by cases hp⟩

def sumL1 : LSpec := { n := 82, next := 2, pat := [(8, .sslice 3 (.int 0) (.var 1) (.var 2) true), (1, .sint .i64 (.var 3)), (9, .sint .i64 (.var 4)), (10, .sint .i64 (.var 0))], rows := [(3, .seq ⟨3, .i64, .var 1, .var 5, true, false⟩)], pre := [(.le (.int 0) (.var 0), true), (.le (.var 0) (.var 3), true), (.le (.var 3) (.var 1), true), (.eq (.var 4) (.fn 24 (.bi .pair (.var 5) (.bi .pair (.var 0) (.int 0)))), true), (.eq (.fn 25 (.bi .pair (.var 5) (.int 0))) (.int 1), true)], x := 0, fin := [(9, .sint .i64 (.fn 24 (.bi .pair (.var 5) (.bi .pair (.var 3) (.int 0))))), (1, .sint .i64 (.var 3)), (8, .sslice 3 (.int 0) (.var 1) (.var 2) true)], frows := [(3, .seq ⟨3, .i64, .var 1, .var 5, true, false⟩)], same := [3], chg := [1, 8, 9, 10, 25, 26, 27, 28, 29, 30, 31, 32, 33, 34, 35] }
abbrev asZc5 : Q × Bool := ((.le (.var 3) (.var 0)), false)
abbrev asZc6 : Q × Bool := ((.le (.int 0) (.var 0)), true)
abbrev asZc7 : Q × Bool := ((.le (.var 1) (.var 0)), false)
abbrev asZc8 : Q × Bool := ((.fit .i64 txZc0), true)
abbrev asZc9 : Q × Bool := ((.fit .i64 (.bi .add (.var 0) (.int 1))), true)
def sumL1_t0 : List (Q × Bool) := [asZc5, asZc6, asZc7, asZc8, asZc9]
def sumL1_d0 : List Duty := []
def sumL1_h0 : List (Nat × E) := [(5, (.var 5)), (0, (.bi .add (.var 0) (.int 1))), (4, txZc0), (3, (.var 3)), (1, (.var 1)), (2, (.var 2))]
theorem sumL1_h0_0 : lookE sumL1_h0 0 = (.bi .add (.var 0) (.int 1)) := rfl
theorem sumL1_h0_1 : lookE sumL1_h0 1 = (.var 1) := rfl
theorem sumL1_h0_2 : lookE sumL1_h0 2 = (.var 2) := rfl
theorem sumL1_h0_3 : lookE sumL1_h0 3 = (.var 3) := rfl
theorem sumL1_h0_4 : lookE sumL1_h0 4 = txZc0 := rfl
theorem sumL1_h0_5 : lookE sumL1_h0 5 = (.var 5) := rfl
theorem sumL1_y0 : nextD sumL1 sumL1_h0 [(3, 3)] (roundC Try.prog [] [] [] 3000 40 5 [4, 1, 0, 1, 1, 1, 1, 1] (tellA sumL1_t0) sumL1) = some sumL1_d0 := by kernel_rfl
abbrev asZc10 : Q × Bool := ((.le (.var 3) (.var 0)), true)
def sumL1_t1 : List (Q × Bool) := [asZc10]
def sumL1_d1 : List Duty := [(true, (.var 4), (.fn 24 (.bi .pair (.var 5) (.bi .pair (.var 3) (.int 0)))))]
theorem sumL1_y1 : endD sumL1 [(3, 3)] 1000 (roundC Try.prog [] [] [] 3000 40 5 [4, 1, 0, 1, 1, 1, 1, 1] (tellA sumL1_t1) sumL1) = some sumL1_d1 := by kernel_rfl
theorem sumL1_holds : LHolds Try.prog (loopAt Try.prog 5 [4, 1, 0, 1, 1, 1, 1, 1]) sumL1 F := by
 refine loop_roundsC sound (tableNil _ _) (specsNil _ _) (oversNil _ _) (fuel := 3000) (depth := 40) (by kernel_rfl) (by kernel_rfl) (by kernel_rfl) (fun d => ((d 3).toInt - (d 0).toInt).toNat) fun d hp hR hA => ?_
 have hp := allTold'_iff.2 hp
 simp only [sumL1, allTold', dutiesTold, factsA, factsC, factsP, factsR, AV.facts, RW.facts, inK, and_true, Q.holds', E.i, E.s, E.n, D.nat, E.den, BO.den, UO.den, TO.den, D.toInt_int, D.toList_list, D.ints_ofInts, i64min, i64max, u8min, u8max, u16min, u16max, u32min, u32max, u64min, u64max, i32min, i32max, Om.sub, selI, ints_app, ints_cut, ints_upd, ints_rep, ints_splice, ints_seg, len_ints] at hp hR hA
 simp only [F24, F25, D.toInt_int] at hp
 obtain ⟨p1, p2, p3, p4, p5⟩ := hp
 have ok : okL (d 5).ints = true := by
  by_cases h : okL (d 5).ints = true
  ·exact h
  ·rw [if_neg h] at p5; omega
 have b1 := okL_at ok (d 0).toInt.toNat
 by_cases h : (d 3).toInt ≤ (d 0).toInt
 ·have e : (d 0).toInt = (d 3).toInt := by omega
  refine ⟨tellA sumL1_t1, tellA_ok (allTold'_iff.1 ?_), .inl ⟨_, _, _, sumL1_y1, dutiesTold_ok ?_⟩⟩
  ·simp only [sumL1_t1, allTold', dutiesTold, factsA, factsC, factsP, factsR, AV.facts, RW.facts, inK, and_true, Q.holds', E.i, E.s, E.n, D.nat, E.den, BO.den, UO.den, TO.den, D.toInt_int, D.toList_list, D.ints_ofInts, i64min, i64max, u8min, u8max, u16min, u16max, u32min, u32max, u64min, u64max, i32min, i32max, Om.sub, selI, ints_app, ints_cut, ints_upd, ints_rep, ints_splice, ints_seg, len_ints]
   omega
  ·simp only [sumL1_d1, F24, allTold', dutiesTold, factsA, factsC, factsP, factsR, AV.facts, RW.facts, inK, and_true, Q.holds', E.i, E.s, E.n, D.nat, E.den, BO.den, UO.den, TO.den, D.toInt_int, D.toList_list, D.ints_ofInts, i64min, i64max, u8min, u8max, u16min, u16max, u32min, u32max, u64min, u64max, i32min, i32max, Om.sub, selI, ints_app, ints_cut, ints_upd, ints_rep, ints_splice, ints_seg, len_ints]
   rw [p4, e]
   first | done | (and_intros <;> first | exact True.intro | omega | assumption | rfl)
 ·have st := sumL_step (l := (d 5).ints) (i := (d 0).toInt.toNat) (by omega)
  have b2 := okL_at ok ((d 0).toInt.toNat + 1)
  have e1 : ((d 0).toInt + 1).toNat = (d 0).toInt.toNat + 1 := by omega
  refine ⟨tellA sumL1_t0, tellA_ok (allTold'_iff.1 ?_), .inr ⟨sumL1_h0, _, _, sumL1_y0, dutiesTold_ok ?_, allTold'_iff.1 ?_, ?_⟩⟩
  ·simp only [sumL1_t0, allTold', dutiesTold, factsA, factsC, factsP, factsR, AV.facts, RW.facts, inK, and_true, Q.holds', E.i, E.s, E.n, D.nat, E.den, BO.den, UO.den, TO.den, D.toInt_int, D.toList_list, D.ints_ofInts, i64min, i64max, u8min, u8max, u16min, u16max, u32min, u32max, u64min, u64max, i32min, i32max, Om.sub, selI, ints_app, ints_cut, ints_upd, ints_rep, ints_splice, ints_seg, len_ints]
   omega
  ·simp only [sumL1_d0, F24, allTold', dutiesTold, factsA, factsC, factsP, factsR, AV.facts, RW.facts, inK, and_true, Q.holds', E.i, E.s, E.n, D.nat, E.den, BO.den, UO.den, TO.den, D.toInt_int, D.toList_list, D.ints_ofInts, i64min, i64max, u8min, u8max, u16min, u16max, u32min, u32max, u64min, u64max, i32min, i32max, Om.sub, selI, ints_app, ints_cut, ints_upd, ints_rep, ints_splice, ints_seg, len_ints]
   first | done | (and_intros <;> first | exact True.intro | omega | assumption | rfl)
  ·simp only [sumL1, sumL1_h0_0, sumL1_h0_1, sumL1_h0_2, sumL1_h0_3, sumL1_h0_4, sumL1_h0_5, F24, F25, e1, allTold', dutiesTold, factsA, factsC, factsP, factsR, AV.facts, RW.facts, inK, and_true, Q.holds', E.i, E.s, E.n, D.nat, E.den, BO.den, UO.den, TO.den, D.toInt_int, D.toList_list, D.ints_ofInts, i64min, i64max, u8min, u8max, u16min, u16max, u32min, u32max, u64min, u64max, i32min, i32max, Om.sub, selI, ints_app, ints_cut, ints_upd, ints_rep, ints_splice, ints_seg, len_ints]
   rw [st, if_pos ok]
   first | done | (and_intros <;> first | exact True.intro | omega | assumption | rfl)
  ·simp only [sumL1_h0_0, sumL1_h0_1, sumL1_h0_2, sumL1_h0_3, sumL1_h0_4, sumL1_h0_5, allTold', dutiesTold, factsA, factsC, factsP, factsR, AV.facts, RW.facts, inK, and_true, Q.holds', E.i, E.s, E.n, D.nat, E.den, BO.den, UO.den, TO.den, D.toInt_int, D.toList_list, D.ints_ofInts, i64min, i64max, u8min, u8max, u16min, u16max, u32min, u32max, u64min, u64max, i32min, i32max, Om.sub, selI, ints_app, ints_cut, ints_upd, ints_rep, ints_splice, ints_seg, len_ints]
   omega

def preL1 : LSpec := { n := 82, next := 3, pat := [(8, .sslice 3 (.int 0) (.var 1) (.var 2) true), (11, .sslice 5 (.int 0) (.var 3) (.var 4) true), (12, .sint .i64 (.var 0))], rows := [(3, .seq ⟨3, .i64, .var 1, .var 5, true, false⟩), (5, .seq ⟨3, .i64, .var 3, .var 6, true, false⟩)], pre := [(.le (.int 0) (.var 0), true), (.le (.bi .add (.var 0) (.int 1)) (.var 3), true), (.le (.var 3) (.bi .add (.var 1) (.int 1)), true), (.le (.var 1) (.int 20000), true), (.same (.tr .cut (.var 6) (.int 0) (.bi .add (.int 0) (.bi .sub (.var 3) (.int 1)))) (.tr .cut (.var 5) (.int 0) (.bi .add (.int 0) (.bi .sub (.var 3) (.int 1)))), true)], x := 2, fin := [], frows := [], same := [], chg := [8, 11, 12, 59, 60, 61, 62, 63, 64, 65, 66, 67, 68, 69, 70, 71, 72, 73, 74, 75, 76, 77, 78, 79, 80] }
abbrev asZc11 : Q × Bool := ((.fit .i64 (.var 3)), true)
abbrev asZc12 : Q × Bool := ((.fit .i64 (.bi .add (.var 3) (.int (-1)))), true)
abbrev asZc13 : Q × Bool := ((.le (.bi .add (.var 3) (.int (-1))) (.var 0)), false)
abbrev asZc14 : Q × Bool := ((.fit .i64 (.var 1)), true)
abbrev asZc15 : Q × Bool := ((.eq (.bi .sel (.var 6) (.var 0)) (.bi .sel (.var 5) (.var 0))), true)
def preL1_t0 : List (Q × Bool) := [asZc11, asZc12, asZc13, asZc14, asZc7, asZc6, asZc5, asZc15, asZc9]
def preL1_d0 : List Duty := []
def preL1_h0 : List (Nat × E) := [(6, (.var 6)), (5, (.var 5)), (0, (.bi .add (.var 0) (.int 1))), (3, (.var 3)), (4, (.var 4)), (1, (.var 1)), (2, (.var 2))]
theorem preL1_h0_0 : lookE preL1_h0 0 = (.bi .add (.var 0) (.int 1)) := rfl
theorem preL1_h0_1 : lookE preL1_h0 1 = (.var 1) := rfl
theorem preL1_h0_2 : lookE preL1_h0 2 = (.var 2) := rfl
theorem preL1_h0_3 : lookE preL1_h0 3 = (.var 3) := rfl
theorem preL1_h0_4 : lookE preL1_h0 4 = (.var 4) := rfl
theorem preL1_h0_5 : lookE preL1_h0 5 = (.var 5) := rfl
theorem preL1_h0_6 : lookE preL1_h0 6 = (.var 6) := rfl
theorem preL1_y0 : nextD preL1 preL1_h0 [(5, 5), (3, 3)] (roundC Try.prog [] [] [] 3000 40 5 [4, 1, 0, 1, 1, 1, 1, 1, 1, 1, 1] (tellA preL1_t0) preL1) = some preL1_d0 := by kernel_rfl
abbrev asZc16 : Q × Bool := ((.le (.bi .add (.var 3) (.int (-1))) (.var 0)), true)
def preL1_t1 : List (Q × Bool) := [asZc11, asZc12, asZc16]
def preL1_d1 : List Duty := []
theorem preL1_y1 : endD preL1 [(5, 5), (3, 3)] 1000 (roundC Try.prog [] [] [] 3000 40 5 [4, 1, 0, 1, 1, 1, 1, 1, 1, 1, 1] (tellA preL1_t1) preL1) = some preL1_d1 := by kernel_rfl
theorem preL1_holds : LHolds Try.prog (loopAt Try.prog 5 [4, 1, 0, 1, 1, 1, 1, 1, 1, 1, 1]) preL1 F := by
 refine loop_roundsC sound (tableNil _ _) (specsNil _ _) (oversNil _ _) (fuel := 3000) (depth := 40) (by kernel_rfl) (by kernel_rfl) (by kernel_rfl) (fun d => ((d 3).toInt - (d 0).toInt).toNat) fun d hp hR hA => ?_
 have hp := allTold'_iff.2 hp
 simp only [preL1, allTold', dutiesTold, factsA, factsC, factsP, factsR, AV.facts, RW.facts, inK, and_true, Q.holds', E.i, E.s, E.n, D.nat, E.den, BO.den, UO.den, TO.den, D.toInt_int, D.toList_list, D.ints_ofInts, i64min, i64max, u8min, u8max, u16min, u16max, u32min, u32max, u64min, u64max, i32min, i32max, Om.sub, selI, ints_app, ints_cut, ints_upd, ints_rep, ints_splice, ints_seg, len_ints] at hp hR hA
 obtain ⟨p1, p2, p3, p4, p5⟩ := hp
 by_cases h : (d 3).toInt - 1 ≤ (d 0).toInt
 ·refine ⟨tellA preL1_t1, tellA_ok (allTold'_iff.1 ?_), .inl ⟨_, _, _, preL1_y1, dutiesTold_ok ?_⟩⟩
  ·simp only [preL1_t1, allTold', dutiesTold, factsA, factsC, factsP, factsR, AV.facts, RW.facts, inK, and_true, Q.holds', E.i, E.s, E.n, D.nat, E.den, BO.den, UO.den, TO.den, D.toInt_int, D.toList_list, D.ints_ofInts, i64min, i64max, u8min, u8max, u16min, u16max, u32min, u32max, u64min, u64max, i32min, i32max, Om.sub, selI, ints_app, ints_cut, ints_upd, ints_rep, ints_splice, ints_seg, len_ints]
   omega
  ·simp only [preL1_d1, allTold', dutiesTold, factsA, factsC, factsP, factsR, AV.facts, RW.facts, inK, and_true, Q.holds', E.i, E.s, E.n, D.nat, E.den, BO.den, UO.den, TO.den, D.toInt_int, D.toList_list, D.ints_ofInts, i64min, i64max, u8min, u8max, u16min, u16max, u32min, u32max, u64min, u64max, i32min, i32max, Om.sub, selI, ints_app, ints_cut, ints_upd, ints_rep, ints_splice, ints_seg, len_ints]
 ·have e := same_at (x := (d 6).ints) (y := (d 5).ints) (a := 0) (b := 0) (n := (d 3).toInt - 1) (i := (d 0).toInt.toNat) p5 (by omega) (by omega) (by omega)
  rw [show (0 + ((d 0).toInt.toNat : Int)).toNat = (d 0).toInt.toNat by omega] at e
  refine ⟨tellA preL1_t0, tellA_ok (allTold'_iff.1 ?_), .inr ⟨preL1_h0, _, _, preL1_y0, dutiesTold_ok ?_, allTold'_iff.1 ?_, ?_⟩⟩
  ·simp only [preL1_t0, allTold', dutiesTold, factsA, factsC, factsP, factsR, AV.facts, RW.facts, inK, and_true, Q.holds', E.i, E.s, E.n, D.nat, E.den, BO.den, UO.den, TO.den, D.toInt_int, D.toList_list, D.ints_ofInts, i64min, i64max, u8min, u8max, u16min, u16max, u32min, u32max, u64min, u64max, i32min, i32max, Om.sub, selI, ints_app, ints_cut, ints_upd, ints_rep, ints_splice, ints_seg, len_ints]
   first | done | (and_intros <;> first | exact True.intro | omega | assumption | rfl)
  ·simp only [preL1_d0, allTold', dutiesTold, factsA, factsC, factsP, factsR, AV.facts, RW.facts, inK, and_true, Q.holds', E.i, E.s, E.n, D.nat, E.den, BO.den, UO.den, TO.den, D.toInt_int, D.toList_list, D.ints_ofInts, i64min, i64max, u8min, u8max, u16min, u16max, u32min, u32max, u64min, u64max, i32min, i32max, Om.sub, selI, ints_app, ints_cut, ints_upd, ints_rep, ints_splice, ints_seg, len_ints]
  ·simp only [preL1, preL1_h0_0, preL1_h0_1, preL1_h0_2, preL1_h0_3, preL1_h0_4, preL1_h0_5, preL1_h0_6, allTold', dutiesTold, factsA, factsC, factsP, factsR, AV.facts, RW.facts, inK, and_true, Q.holds', E.i, E.s, E.n, D.nat, E.den, BO.den, UO.den, TO.den, D.toInt_int, D.toList_list, D.ints_ofInts, i64min, i64max, u8min, u8max, u16min, u16max, u32min, u32max, u64min, u64max, i32min, i32max, Om.sub, selI, ints_app, ints_cut, ints_upd, ints_rep, ints_splice, ints_seg, len_ints]
   first | done | (and_intros <;> first | exact True.intro | omega | assumption | rfl)
  ·simp only [preL1_h0_0, preL1_h0_1, preL1_h0_2, preL1_h0_3, preL1_h0_4, preL1_h0_5, preL1_h0_6, allTold', dutiesTold, factsA, factsC, factsP, factsR, AV.facts, RW.facts, inK, and_true, Q.holds', E.i, E.s, E.n, D.nat, E.den, BO.den, UO.den, TO.den, D.toInt_int, D.toList_list, D.ints_ofInts, i64min, i64max, u8min, u8max, u16min, u16max, u32min, u32max, u64min, u64max, i32min, i32max, Om.sub, selI, ints_app, ints_cut, ints_upd, ints_rep, ints_splice, ints_seg, len_ints]
   omega

def sameL : LSpec := { n := 26, next := 3, pat := [(0, .sslice 3 (.var 1) (.var 2) (.var 3) true), (1, .sslice 5 (.var 4) (.var 2) (.var 6) true), (5, .sint .i64 (.var 0))], rows := [(3, .eseq ⟨.i64, .var 7, .var 8⟩), (5, .eseq ⟨.i64, .var 9, .var 10⟩)], pre := [(.le (.int 0) (.var 0), true), (.le (.var 0) (.var 2), true), (.le (.bi .add (.var 1) (.var 2)) (.var 7), true), (.le (.bi .add (.var 4) (.var 2)) (.var 9), true), (.le (.var 2) (.int 20000), true), (.same txZc1 (.tr .cut (.var 10) (.var 4) (.bi .add (.var 4) (.var 2))), true)], x := 0, fin := [], frows := [], same := [], chg := [0, 1, 5, 11, 12, 13, 14, 15, 16, 17, 18, 19, 20, 21, 22, 23, 24, 25] }
abbrev asZc17 : Q × Bool := ((.fit .i64 (.var 2)), true)
abbrev asZc18 : Q × Bool := ((.le (.var 2) (.var 0)), false)
abbrev asZc19 : Q × Bool := ((.le (.int 0) (.bi .add (.var 1) (.var 0))), true)
abbrev asZc20 : Q × Bool := ((.le (.var 7) (.bi .add (.var 1) (.var 0))), false)
abbrev asZc21 : Q × Bool := ((.le (.int 0) (.bi .add (.var 4) (.var 0))), true)
abbrev asZc22 : Q × Bool := ((.le (.var 9) (.bi .add (.var 4) (.var 0))), false)
abbrev asZc23 : Q × Bool := ((.eq (.bi .sel (.var 8) (.bi .add (.var 1) (.var 0))) (.bi .sel (.var 10) (.bi .add (.var 4) (.var 0)))), true)
def sameL_t0 : List (Q × Bool) := [asZc17, asZc18, asZc6, asZc19, asZc20, asZc21, asZc22, asZc23, asZc9]
def sameL_d0 : List Duty := []
def sameL_h0 : List (Nat × E) := [(9, (.var 9)), (10, (.var 10)), (7, (.var 7)), (8, (.var 8)), (0, (.bi .add (.var 0) (.int 1))), (4, (.var 4)), (6, (.var 6)), (1, (.var 1)), (2, (.var 2)), (3, (.var 3))]
theorem sameL_h0_0 : lookE sameL_h0 0 = (.bi .add (.var 0) (.int 1)) := rfl
theorem sameL_h0_1 : lookE sameL_h0 1 = (.var 1) := rfl
theorem sameL_h0_2 : lookE sameL_h0 2 = (.var 2) := rfl
theorem sameL_h0_3 : lookE sameL_h0 3 = (.var 3) := rfl
theorem sameL_h0_4 : lookE sameL_h0 4 = (.var 4) := rfl
theorem sameL_h0_6 : lookE sameL_h0 6 = (.var 6) := rfl
theorem sameL_h0_7 : lookE sameL_h0 7 = (.var 7) := rfl
theorem sameL_h0_8 : lookE sameL_h0 8 = (.var 8) := rfl
theorem sameL_h0_9 : lookE sameL_h0 9 = (.var 9) := rfl
theorem sameL_h0_10 : lookE sameL_h0 10 = (.var 10) := rfl
theorem sameL_y0 : nextD sameL sameL_h0 [(5, 5), (3, 3)] (roundC Try.prog [] [] [] 3000 40 20 [4, 1, 0, 1, 1] (tellA sameL_t0) sameL) = some sameL_d0 := by kernel_rfl
abbrev asZc24 : Q × Bool := ((.le (.var 2) (.var 0)), true)
def sameL_t1 : List (Q × Bool) := [asZc17, asZc24]
def sameL_d1 : List Duty := []
theorem sameL_y1 : endD sameL [(5, 5), (3, 3)] 1000 (roundC Try.prog [] [] [] 3000 40 20 [4, 1, 0, 1, 1] (tellA sameL_t1) sameL) = some sameL_d1 := by kernel_rfl
theorem sameL_holds : LHolds Try.prog (loopAt Try.prog 20 [4, 1, 0, 1, 1]) sameL F := by
 refine loop_roundsC sound (tableNil _ _) (specsNil _ _) (oversNil _ _) (fuel := 3000) (depth := 40) (by kernel_rfl) (by kernel_rfl) (by kernel_rfl) (fun d => ((d 2).toInt - (d 0).toInt).toNat) fun d hp hR hA => ?_
 have hp := allTold'_iff.2 hp
 simp only [sameL, allTold', dutiesTold, factsA, factsC, factsP, factsR, AV.facts, RW.facts, inK, and_true, Q.holds', E.i, E.s, E.n, D.nat, E.den, BO.den, UO.den, TO.den, D.toInt_int, D.toList_list, D.ints_ofInts, i64min, i64max, u8min, u8max, u16min, u16max, u32min, u32max, u64min, u64max, i32min, i32max, Om.sub, selI, ints_app, ints_cut, ints_upd, ints_rep, ints_splice, ints_seg, len_ints] at hp hR hA
 obtain ⟨p1, p2, p3, p4, p5, p6⟩ := hp
 by_cases h : (d 2).toInt ≤ (d 0).toInt
 ·refine ⟨tellA sameL_t1, tellA_ok (allTold'_iff.1 ?_), .inl ⟨_, _, _, sameL_y1, dutiesTold_ok ?_⟩⟩
  ·simp only [sameL_t1, allTold', dutiesTold, factsA, factsC, factsP, factsR, AV.facts, RW.facts, inK, and_true, Q.holds', E.i, E.s, E.n, D.nat, E.den, BO.den, UO.den, TO.den, D.toInt_int, D.toList_list, D.ints_ofInts, i64min, i64max, u8min, u8max, u16min, u16max, u32min, u32max, u64min, u64max, i32min, i32max, Om.sub, selI, ints_app, ints_cut, ints_upd, ints_rep, ints_splice, ints_seg, len_ints]
   omega
  ·simp only [sameL_d1, allTold', dutiesTold, factsA, factsC, factsP, factsR, AV.facts, RW.facts, inK, and_true, Q.holds', E.i, E.s, E.n, D.nat, E.den, BO.den, UO.den, TO.den, D.toInt_int, D.toList_list, D.ints_ofInts, i64min, i64max, u8min, u8max, u16min, u16max, u32min, u32max, u64min, u64max, i32min, i32max, Om.sub, selI, ints_app, ints_cut, ints_upd, ints_rep, ints_splice, ints_seg, len_ints]
 ·have e := same_at (x := (d 8).ints) (y := (d 10).ints) (a := (d 1).toInt) (b := (d 4).toInt) (n := (d 2).toInt) (i := (d 0).toInt.toNat) p6 (by omega) (by omega) (by omega)
  rw [show ((d 0).toInt.toNat : Int) = (d 0).toInt by omega] at e
  refine ⟨tellA sameL_t0, tellA_ok (allTold'_iff.1 ?_), .inr ⟨sameL_h0, _, _, sameL_y0, dutiesTold_ok ?_, allTold'_iff.1 ?_, ?_⟩⟩
  ·simp only [sameL_t0, allTold', dutiesTold, factsA, factsC, factsP, factsR, AV.facts, RW.facts, inK, and_true, Q.holds', E.i, E.s, E.n, D.nat, E.den, BO.den, UO.den, TO.den, D.toInt_int, D.toList_list, D.ints_ofInts, i64min, i64max, u8min, u8max, u16min, u16max, u32min, u32max, u64min, u64max, i32min, i32max, Om.sub, selI, ints_app, ints_cut, ints_upd, ints_rep, ints_splice, ints_seg, len_ints]
   first | done | (and_intros <;> first | exact True.intro | omega | assumption | rfl)
  ·simp only [sameL_d0, allTold', dutiesTold, factsA, factsC, factsP, factsR, AV.facts, RW.facts, inK, and_true, Q.holds', E.i, E.s, E.n, D.nat, E.den, BO.den, UO.den, TO.den, D.toInt_int, D.toList_list, D.ints_ofInts, i64min, i64max, u8min, u8max, u16min, u16max, u32min, u32max, u64min, u64max, i32min, i32max, Om.sub, selI, ints_app, ints_cut, ints_upd, ints_rep, ints_splice, ints_seg, len_ints]
  ·simp only [sameL, sameL_h0_0, sameL_h0_1, sameL_h0_2, sameL_h0_3, sameL_h0_4, sameL_h0_6, sameL_h0_7, sameL_h0_8, sameL_h0_9, sameL_h0_10, allTold', dutiesTold, factsA, factsC, factsP, factsR, AV.facts, RW.facts, inK, and_true, Q.holds', E.i, E.s, E.n, D.nat, E.den, BO.den, UO.den, TO.den, D.toInt_int, D.toList_list, D.ints_ofInts, i64min, i64max, u8min, u8max, u16min, u16max, u32min, u32max, u64min, u64max, i32min, i32max, Om.sub, selI, ints_app, ints_cut, ints_upd, ints_rep, ints_splice, ints_seg, len_ints]
   first | done | (and_intros <;> first | exact True.intro | omega | assumption | rfl)
  ·simp only [sameL_h0_0, sameL_h0_1, sameL_h0_2, sameL_h0_3, sameL_h0_4, sameL_h0_6, sameL_h0_7, sameL_h0_8, sameL_h0_9, sameL_h0_10, allTold', dutiesTold, factsA, factsC, factsP, factsR, AV.facts, RW.facts, inK, and_true, Q.holds', E.i, E.s, E.n, D.nat, E.den, BO.den, UO.den, TO.den, D.toInt_int, D.toList_list, D.ints_ofInts, i64min, i64max, u8min, u8max, u16min, u16max, u32min, u32max, u64min, u64max, i32min, i32max, Om.sub, selI, ints_app, ints_cut, ints_upd, ints_rep, ints_splice, ints_seg, len_ints]
   omega

def sameI : CSpec := { args := [.sslice 3 (.var 1) (.var 2) (.var 3) true, .sslice 5 (.var 4) (.var 5) (.var 6) true], next := 3, rows := [(3, .eseq ⟨.i64, .var 7, .var 8⟩), (5, .eseq ⟨.i64, .var 9, .var 10⟩)], pre := [(.eq (.var 2) (.var 5), true), (.le (.bi .add (.var 1) (.var 2)) (.var 7), true), (.le (.bi .add (.var 4) (.var 5)) (.var 9), true), (.le (.var 2) (.int 20000), true), (.same txZc1 (.tr .cut (.var 10) (.var 4) (.bi .add (.var 4) (.var 5))), true)], res := .bool true, frows := [], same := [] }
abbrev asZc25 : Q × Bool := ((.fit .i64 (.var 5)), true)
abbrev asZc26 : Q × Bool := ((.eq (.var 2) (.var 5)), true)
abbrev asZc27 : Q × Bool := ((.eq (.var 5) (.var 2)), true)
abbrev asZc28 : Q × Bool := ((.le (.int 0) (.var 2)), true)
abbrev asZc29 : Q × Bool := ((.le (.bi .add (.var 1) (.var 2)) (.var 7)), true)
abbrev asZc30 : Q × Bool := ((.le (.bi .add (.var 4) (.var 2)) (.var 9)), true)
abbrev asZc31 : Q × Bool := ((.le (.var 2) (.int 20000)), true)
abbrev asZc32 : Q × Bool := ((.same txZc1 (.tr .cut (.var 10) (.var 4) (.bi .add (.var 4) (.var 2)))), true)
def sameI_t0 : List (Q × Bool) := [asZc17, asZc25, asZc26, asZc27, asZc28, asZc29, asZc30, asZc31, asZc32]
def sameI_d0 : List Duty := []
theorem sameI_y0 : endC sameI [] 1000 (callC Try.prog (tellA sameI_t0) [⟨20, [4, 1, 0, 1, 1], sameL⟩] [] [] 3000 40 20 sameI) = some sameI_d0 := by kernel_rfl
theorem sameI_holds : CHolds Try.prog 20 sameI F := by
 refine cholds_of sound (tableCons sameL_holds (tableNil _ _)) (specsNil _ _) (oversNil _ _) (fuel := 3000) (depth := 40) (by kernel_rfl) fun d hp hR hA => ?_
 have hp := allTold'_iff.2 hp
 simp only [sameI, allTold', dutiesTold, factsA, factsC, factsP, factsR, AV.facts, RW.facts, inK, and_true, Q.holds', E.i, E.s, E.n, D.nat, E.den, BO.den, UO.den, TO.den, D.toInt_int, D.toList_list, D.ints_ofInts, i64min, i64max, u8min, u8max, u16min, u16max, u32min, u32max, u64min, u64max, i32min, i32max, Om.sub, selI, ints_app, ints_cut, ints_upd, ints_rep, ints_splice, ints_seg, len_ints] at hp hR hA
 obtain ⟨p1, p2, p3, p4, p5⟩ := hp
 rw [← p1] at p5
 refine ⟨tellA sameI_t0, _, _, _, tellA_ok (allTold'_iff.1 ?_), sameI_y0, dutiesTold_ok ?_⟩
 ·simp only [sameI_t0, allTold', dutiesTold, factsA, factsC, factsP, factsR, AV.facts, RW.facts, inK, and_true, Q.holds', E.i, E.s, E.n, D.nat, E.den, BO.den, UO.den, TO.den, D.toInt_int, D.toList_list, D.ints_ofInts, i64min, i64max, u8min, u8max, u16min, u16max, u32min, u32max, u64min, u64max, i32min, i32max, Om.sub, selI, ints_app, ints_cut, ints_upd, ints_rep, ints_splice, ints_seg, len_ints]
  first | done | (and_intros <;> first | exact True.intro | omega | assumption | rfl)
 ·simp only [sameI_d0, allTold', dutiesTold, factsA, factsC, factsP, factsR, AV.facts, RW.facts, inK, and_true, Q.holds', E.i, E.s, E.n, D.nat, E.den, BO.den, UO.den, TO.den, D.toInt_int, D.toList_list, D.ints_ofInts, i64min, i64max, u8min, u8max, u16min, u16max, u32min, u32max, u64min, u64max, i32min, i32max, Om.sub, selI, ints_app, ints_cut, ints_upd, ints_rep, ints_splice, ints_seg, len_ints]
  first | done | (and_intros <;> first | exact True.intro | omega | assumption | rfl)

def tabS : List LEntry := [⟨5, [4, 1, 0, 1, 1, 1, 1, 1], sumL1⟩, ⟨5, [4, 1, 0, 1, 1, 1, 1, 1, 1, 1, 1], preL1⟩]
def specsS : List (FuncId × CSpec) := [(19, cutY), (19, cutN), (14, pickC), (8, awakeC), (20, sameI)]
def oversS : Overs := []
theorem tabS_ok : TableOK Try.prog tabS F := tableCons sumL1_holds (tableCons preL1_holds (tableNil _ _))
theorem specsS_ok : SpecsOK Try.prog specsS F := specsCons cutY_holds (specsCons cutN_holds (specsCons pickC_holds (specsCons awakeC_holds (specsCons sameI_holds (specsNil _ _)))))
theorem oversS_ok : OversOK Try.prog oversS F := oversNil _ _
end Go.Proofs.Ytlfehhmkpppajaa.Zc
