/-
  Contracts of this seat: what loops and calls leave, for all inputs. No condition.
-/
import Derived.Test.YtlmcjfcfmcdcpaaDoorSycp
import Derived.Test.YtlmcjfcfmcdcpaaDoorCo
import Derived.Test.YtlmcjfcfmcdcpaaDoorGa
set_option linter.unusedSimpArgs false
set_option linter.unusedVariables false
namespace Go.Proofs.YtlmcjfcfmcdcpaaDoor.F4
open Go.RowKit Go.Ev Go.Proofs.YtlmcjfcfmcdcpaaDoor.Co

open Go.Proofs.YtlmcjfcfmcdcpaaDoor.Ga

def saysYO : CSpec := { args := [.agg [.sint .i64 (.var 0), .sint .i64 (.var 1), .sint .i64 (.var 2), .sint .i64 (.var 3), .sint .i64 (.var 4), .sslice 3 (.var 5) (.var 6) (.var 7) true]], next := 2, rows := [(3, .eseq ⟨.u8, .var 8, .var 9⟩)], pre := [(.le (.int 0) (.var 6), true), (.le (.var 6) (.int 1000000), true), (.le (.int 1) (.var 0), true), (.le (.var 0) (.int 5), true), (.le (.int 0) (.var 1), true), (.le (.int 0) (.var 2), true), (.le (.int 0) (.var 3), true), (.le (.int 0) (.var 4), true), (.eq (.fn 17 (argsE [.var 0, .var 1, .var 2, .var 3, .var 4, .var 6])) (.int 1), true)], res := .bool true, frows := [], same := [] }
abbrev OmD (d : Nat → D) : Om := ⟨fun _ => .bool false, d, F⟩
abbrev saysYO_q0 : Q := (.eq (.var 3) (.int 0))
abbrev saysYO_q1 : Q := (.fit .i64 (.var 6))
abbrev saysYO_q2 : Q := (.eq (.var 6) (.int 0))
abbrev saysYO_q3 : Q := (.eq (.var 0) (.int 1))
abbrev saysYO_q4 : Q := (.le (.var 1) (.int 0))
abbrev saysYO_q5 : Q := (.eq (.var 2) (.int 0))
abbrev saysYO_q6 : Q := (.eq (.var 4) (.int 0))
abbrev saysYO_q7 : Q := (.eq (.var 0) (.int 2))
abbrev saysYO_q8 : Q := (.le (.var 2) (.int 0))
abbrev saysYO_q9 : Q := (.eq (.var 0) (.int 3))
abbrev saysYO_q10 : Q := (.le (.var 3) (.int 0))
abbrev saysYO_q11 : Q := (.eq (.var 0) (.int 4))
abbrev saysYO_u0 : List (Q × Bool) := [(saysYO_q0, true), (saysYO_q1, true), (saysYO_q2, true), (saysYO_q3, true), (saysYO_q4, false), (saysYO_q5, true), (saysYO_q6, true)]
def saysYO_d0 : List Duty := []
theorem saysYO_y0 : endC saysYO [] 1000 (callC Tryd.prog (tellA saysYO_u0) [] [] [] 3000 40 35 saysYO) = some saysYO_d0 := by kernel_rfl
abbrev saysYO_u1 : List (Q × Bool) := [(saysYO_q0, true), (saysYO_q1, true), (saysYO_q2, true), (saysYO_q3, false), (saysYO_q7, true), (saysYO_q4, false), (saysYO_q8, false), (saysYO_q6, true)]
theorem saysYO_y1 : endC saysYO [] 1000 (callC Tryd.prog (tellA saysYO_u1) [] [] [] 3000 40 35 saysYO) = some saysYO_d0 := by kernel_rfl
abbrev saysYO_u2 : List (Q × Bool) := [(saysYO_q0, false), (saysYO_q3, false), (saysYO_q7, false), (saysYO_q9, true), (saysYO_q4, false), (saysYO_q8, false), (saysYO_q10, false)]
theorem saysYO_y2 : endC saysYO [] 1000 (callC Tryd.prog (tellA saysYO_u2) [] [] [] 3000 40 35 saysYO) = some saysYO_d0 := by kernel_rfl
abbrev saysYO_u3 : List (Q × Bool) := [(saysYO_q0, true), (saysYO_q1, true), (saysYO_q2, true), (saysYO_q3, false), (saysYO_q7, false), (saysYO_q9, false), (saysYO_q11, true), (saysYO_q4, false), (saysYO_q8, false)]
theorem saysYO_y3 : endC saysYO [] 1000 (callC Tryd.prog (tellA saysYO_u3) [] [] [] 3000 40 35 saysYO) = some saysYO_d0 := by kernel_rfl
abbrev saysYO_u4 : List (Q × Bool) := [(saysYO_q0, true), (saysYO_q1, true), (saysYO_q2, true), (saysYO_q3, false), (saysYO_q7, false), (saysYO_q9, false), (saysYO_q11, false), (saysYO_q4, false), (saysYO_q6, true)]
theorem saysYO_y4 : endC saysYO [] 1000 (callC Tryd.prog (tellA saysYO_u4) [] [] [] 3000 40 35 saysYO) = some saysYO_d0 := by kernel_rfl
set_option maxHeartbeats 8000000 in
theorem saysYO_holds : CHolds Tryd.prog 35 saysYO F := by
  refine cholds_of sound (tableNil _ _) (specsNil _ _) (oversNil _ _) (fuel := 3000) (depth := 40) (by kernel_rfl) fun d hp hR hA => ?_
  have hp := allTold'_iff.2 hp
  simp only [saysYO, allTold', dutiesTold, factsA, factsC, factsP, factsR, AV.facts, RW.facts, inK, and_true, Q.holds', E.i, E.s, E.n, D.nat, E.den, BO.den, UO.den, TO.den, D.toInt_int, D.toList_list, D.ints_ofInts, i64min, i64max, u8min, u8max, u16min, u16max, u32min, u32max, u64min, u64max, i32min, i32max, Om.sub, selI, ints_app, ints_cut, ints_upd, ints_rep, ints_splice, ints_seg, len_ints] at hp hR hA
  simp only [F17, argsE, allTold', dutiesTold, factsA, factsC, factsP, factsR, AV.facts, RW.facts, inK, and_true, Q.holds', E.i, E.s, E.n, D.nat, E.den, BO.den, UO.den, TO.den, D.toInt_int, D.toList_list, D.ints_ofInts, i64min, i64max, u8min, u8max, u16min, u16max, u32min, u32max, u64min, u64max, i32min, i32max, Om.sub, selI, ints_app, ints_cut, ints_upd, ints_rep, ints_splice, ints_seg, len_ints] at hp
  have hs := hp.2.2.2.2.2.2.2.2
  clear hR hA
  split at hs <;> first | omega | skip
  rename_i hs2
  unfold saysP at hs2
  cases h0 : Q.val (OmD d) saysYO_q0
  · have p0 : ¬ ((d 3).toInt = (0)) := of_decide_eq_false h0
    have p1 : ¬ ((d 0).toInt = (1)) := by omega
    have h1 : Q.val (OmD d) saysYO_q3 = false := decide_eq_false p1
    have p2 : ¬ ((d 0).toInt = (2)) := by omega
    have h2 : Q.val (OmD d) saysYO_q7 = false := decide_eq_false p2
    have p3 : (d 0).toInt = (3) := by omega
    have h3 : Q.val (OmD d) saysYO_q9 = true := decide_eq_true p3
    have p4 : ¬ ((d 1).toInt ≤ (0)) := by omega
    have h4 : Q.val (OmD d) saysYO_q4 = false := decide_eq_false p4
    have p5 : ¬ ((d 2).toInt ≤ (0)) := by omega
    have h5 : Q.val (OmD d) saysYO_q8 = false := decide_eq_false p5
    have p6 : ¬ ((d 3).toInt ≤ (0)) := by omega
    have h6 : Q.val (OmD d) saysYO_q10 = false := decide_eq_false p6
    refine ⟨tellA saysYO_u2, _, _, _, tellA_ok (by (repeat refine told_cons (by assumption) ?_); exact told_nil), saysYO_y2, dutiesTold_ok ?_⟩
    trivial
  have p0 : (d 3).toInt = (0) := of_decide_eq_true h0
  have p1 : -9223372036854775808 ≤ (d 6).toInt ∧ (d 6).toInt ≤ 9223372036854775807 := by omega
  have h1 : Q.val (OmD d) saysYO_q1 = true := decide_eq_true p1
  have p2 : (d 6).toInt = (0) := by omega
  have h2 : Q.val (OmD d) saysYO_q2 = true := decide_eq_true p2
  cases h3 : Q.val (OmD d) saysYO_q3
  rotate_left
  · have p3 : (d 0).toInt = (1) := of_decide_eq_true h3
    have p4 : ¬ ((d 1).toInt ≤ (0)) := by omega
    have h4 : Q.val (OmD d) saysYO_q4 = false := decide_eq_false p4
    have p5 : (d 2).toInt = (0) := by omega
    have h5 : Q.val (OmD d) saysYO_q5 = true := decide_eq_true p5
    have p6 : (d 4).toInt = (0) := by omega
    have h6 : Q.val (OmD d) saysYO_q6 = true := decide_eq_true p6
    refine ⟨tellA saysYO_u0, _, _, _, tellA_ok (by (repeat refine told_cons (by assumption) ?_); exact told_nil), saysYO_y0, dutiesTold_ok ?_⟩
    trivial
  have p3 : ¬ ((d 0).toInt = (1)) := of_decide_eq_false h3
  cases h4 : Q.val (OmD d) saysYO_q7
  rotate_left
  · have p4 : (d 0).toInt = (2) := of_decide_eq_true h4
    have p5 : ¬ ((d 1).toInt ≤ (0)) := by omega
    have h5 : Q.val (OmD d) saysYO_q4 = false := decide_eq_false p5
    have p6 : ¬ ((d 2).toInt ≤ (0)) := by omega
    have h6 : Q.val (OmD d) saysYO_q8 = false := decide_eq_false p6
    have p7 : (d 4).toInt = (0) := by omega
    have h7 : Q.val (OmD d) saysYO_q6 = true := decide_eq_true p7
    refine ⟨tellA saysYO_u1, _, _, _, tellA_ok (by (repeat refine told_cons (by assumption) ?_); exact told_nil), saysYO_y1, dutiesTold_ok ?_⟩
    trivial
  have p4 : ¬ ((d 0).toInt = (2)) := of_decide_eq_false h4
  have p5 : ¬ ((d 0).toInt = (3)) := by omega
  have h5 : Q.val (OmD d) saysYO_q9 = false := decide_eq_false p5
  cases h6 : Q.val (OmD d) saysYO_q11
  · have p6 : ¬ ((d 0).toInt = (4)) := of_decide_eq_false h6
    have p7 : ¬ ((d 1).toInt ≤ (0)) := by omega
    have h7 : Q.val (OmD d) saysYO_q4 = false := decide_eq_false p7
    have p8 : (d 4).toInt = (0) := by omega
    have h8 : Q.val (OmD d) saysYO_q6 = true := decide_eq_true p8
    refine ⟨tellA saysYO_u4, _, _, _, tellA_ok (by (repeat refine told_cons (by assumption) ?_); exact told_nil), saysYO_y4, dutiesTold_ok ?_⟩
    trivial
  have p6 : (d 0).toInt = (4) := of_decide_eq_true h6
  have p7 : ¬ ((d 1).toInt ≤ (0)) := by omega
  have h7 : Q.val (OmD d) saysYO_q4 = false := decide_eq_false p7
  have p8 : ¬ ((d 2).toInt ≤ (0)) := by omega
  have h8 : Q.val (OmD d) saysYO_q8 = false := decide_eq_false p8
  refine ⟨tellA saysYO_u3, _, _, _, tellA_ok (by (repeat refine told_cons (by assumption) ?_); exact told_nil), saysYO_y3, dutiesTold_ok ?_⟩
  trivial

def saysNO : CSpec := { args := [.agg [.sint .i64 (.var 0), .sint .i64 (.var 1), .sint .i64 (.var 2), .sint .i64 (.var 3), .sint .i64 (.var 4), .sslice 3 (.var 5) (.var 6) (.var 7) true]], next := 2, rows := [(3, .eseq ⟨.u8, .var 8, .var 9⟩)], pre := [(.le (.int 0) (.var 6), true), (.le (.var 6) (.int 1000000), true), (.le (.int 1) (.var 0), true), (.le (.var 0) (.int 5), true), (.le (.int 0) (.var 1), true), (.le (.int 0) (.var 2), true), (.le (.int 0) (.var 3), true), (.le (.int 0) (.var 4), true), (.eq (.fn 17 (argsE [.var 0, .var 1, .var 2, .var 3, .var 4, .var 6])) (.int 1), false)], res := .bool false, frows := [], same := [] }
abbrev saysNO_q0 : Q := (.eq (.var 3) (.int 0))
abbrev saysNO_q1 : Q := (.fit .i64 (.var 6))
abbrev saysNO_q2 : Q := (.eq (.var 6) (.int 0))
abbrev saysNO_q3 : Q := (.eq (.var 0) (.int 1))
abbrev saysNO_q4 : Q := (.le (.var 1) (.int 0))
abbrev saysNO_q5 : Q := (.eq (.var 2) (.int 0))
abbrev saysNO_q6 : Q := (.eq (.var 4) (.int 0))
abbrev saysNO_q7 : Q := (.eq (.var 0) (.int 2))
abbrev saysNO_q8 : Q := (.le (.var 2) (.int 0))
abbrev saysNO_q9 : Q := (.eq (.var 0) (.int 3))
abbrev saysNO_q10 : Q := (.le (.var 3) (.int 0))
abbrev saysNO_q11 : Q := (.eq (.var 0) (.int 4))
abbrev saysNO_u0 : List (Q × Bool) := [(saysNO_q0, true), (saysNO_q1, true), (saysNO_q2, true), (saysNO_q3, true), (saysNO_q4, true)]
def saysNO_d0 : List Duty := []
theorem saysNO_y0 : endC saysNO [] 1000 (callC Tryd.prog (tellA saysNO_u0) [] [] [] 3000 40 35 saysNO) = some saysNO_d0 := by kernel_rfl
abbrev saysNO_u1 : List (Q × Bool) := [(saysNO_q0, true), (saysNO_q1, true), (saysNO_q2, false), (saysNO_q3, true), (saysNO_q4, true)]
theorem saysNO_y1 : endC saysNO [] 1000 (callC Tryd.prog (tellA saysNO_u1) [] [] [] 3000 40 35 saysNO) = some saysNO_d0 := by kernel_rfl
abbrev saysNO_u2 : List (Q × Bool) := [(saysNO_q0, false), (saysNO_q3, true), (saysNO_q4, true)]
theorem saysNO_y2 : endC saysNO [] 1000 (callC Tryd.prog (tellA saysNO_u2) [] [] [] 3000 40 35 saysNO) = some saysNO_d0 := by kernel_rfl
abbrev saysNO_u3 : List (Q × Bool) := [(saysNO_q0, true), (saysNO_q1, true), (saysNO_q2, false), (saysNO_q3, true), (saysNO_q4, false), (saysNO_q5, true)]
theorem saysNO_y3 : endC saysNO [] 1000 (callC Tryd.prog (tellA saysNO_u3) [] [] [] 3000 40 35 saysNO) = some saysNO_d0 := by kernel_rfl
abbrev saysNO_u4 : List (Q × Bool) := [(saysNO_q0, true), (saysNO_q1, true), (saysNO_q2, true), (saysNO_q3, true), (saysNO_q4, false), (saysNO_q5, true), (saysNO_q6, false)]
theorem saysNO_y4 : endC saysNO [] 1000 (callC Tryd.prog (tellA saysNO_u4) [] [] [] 3000 40 35 saysNO) = some saysNO_d0 := by kernel_rfl
abbrev saysNO_u5 : List (Q × Bool) := [(saysNO_q0, false), (saysNO_q3, true), (saysNO_q4, false), (saysNO_q5, true)]
theorem saysNO_y5 : endC saysNO [] 1000 (callC Tryd.prog (tellA saysNO_u5) [] [] [] 3000 40 35 saysNO) = some saysNO_d0 := by kernel_rfl
abbrev saysNO_u6 : List (Q × Bool) := [(saysNO_q0, true), (saysNO_q1, true), (saysNO_q2, true), (saysNO_q3, true), (saysNO_q4, false), (saysNO_q5, false)]
theorem saysNO_y6 : endC saysNO [] 1000 (callC Tryd.prog (tellA saysNO_u6) [] [] [] 3000 40 35 saysNO) = some saysNO_d0 := by kernel_rfl
abbrev saysNO_u7 : List (Q × Bool) := [(saysNO_q0, true), (saysNO_q1, true), (saysNO_q2, false), (saysNO_q3, true), (saysNO_q4, false), (saysNO_q5, false)]
theorem saysNO_y7 : endC saysNO [] 1000 (callC Tryd.prog (tellA saysNO_u7) [] [] [] 3000 40 35 saysNO) = some saysNO_d0 := by kernel_rfl
abbrev saysNO_u8 : List (Q × Bool) := [(saysNO_q0, false), (saysNO_q3, true), (saysNO_q4, false), (saysNO_q5, false)]
theorem saysNO_y8 : endC saysNO [] 1000 (callC Tryd.prog (tellA saysNO_u8) [] [] [] 3000 40 35 saysNO) = some saysNO_d0 := by kernel_rfl
abbrev saysNO_u9 : List (Q × Bool) := [(saysNO_q0, true), (saysNO_q1, true), (saysNO_q2, true), (saysNO_q3, false), (saysNO_q7, true), (saysNO_q4, true)]
theorem saysNO_y9 : endC saysNO [] 1000 (callC Tryd.prog (tellA saysNO_u9) [] [] [] 3000 40 35 saysNO) = some saysNO_d0 := by kernel_rfl
abbrev saysNO_u10 : List (Q × Bool) := [(saysNO_q0, true), (saysNO_q1, true), (saysNO_q2, false), (saysNO_q3, false), (saysNO_q7, true), (saysNO_q4, true)]
theorem saysNO_y10 : endC saysNO [] 1000 (callC Tryd.prog (tellA saysNO_u10) [] [] [] 3000 40 35 saysNO) = some saysNO_d0 := by kernel_rfl
abbrev saysNO_u11 : List (Q × Bool) := [(saysNO_q0, false), (saysNO_q3, false), (saysNO_q7, true), (saysNO_q4, true)]
theorem saysNO_y11 : endC saysNO [] 1000 (callC Tryd.prog (tellA saysNO_u11) [] [] [] 3000 40 35 saysNO) = some saysNO_d0 := by kernel_rfl
abbrev saysNO_u12 : List (Q × Bool) := [(saysNO_q0, true), (saysNO_q1, true), (saysNO_q2, true), (saysNO_q3, false), (saysNO_q7, true), (saysNO_q4, false), (saysNO_q8, true)]
theorem saysNO_y12 : endC saysNO [] 1000 (callC Tryd.prog (tellA saysNO_u12) [] [] [] 3000 40 35 saysNO) = some saysNO_d0 := by kernel_rfl
abbrev saysNO_u13 : List (Q × Bool) := [(saysNO_q0, true), (saysNO_q1, true), (saysNO_q2, false), (saysNO_q3, false), (saysNO_q7, true), (saysNO_q4, false), (saysNO_q8, true)]
theorem saysNO_y13 : endC saysNO [] 1000 (callC Tryd.prog (tellA saysNO_u13) [] [] [] 3000 40 35 saysNO) = some saysNO_d0 := by kernel_rfl
abbrev saysNO_u14 : List (Q × Bool) := [(saysNO_q0, false), (saysNO_q3, false), (saysNO_q7, true), (saysNO_q4, false), (saysNO_q8, true)]
theorem saysNO_y14 : endC saysNO [] 1000 (callC Tryd.prog (tellA saysNO_u14) [] [] [] 3000 40 35 saysNO) = some saysNO_d0 := by kernel_rfl
abbrev saysNO_u15 : List (Q × Bool) := [(saysNO_q0, true), (saysNO_q1, true), (saysNO_q2, false), (saysNO_q3, false), (saysNO_q7, true), (saysNO_q4, false), (saysNO_q8, false)]
theorem saysNO_y15 : endC saysNO [] 1000 (callC Tryd.prog (tellA saysNO_u15) [] [] [] 3000 40 35 saysNO) = some saysNO_d0 := by kernel_rfl
abbrev saysNO_u16 : List (Q × Bool) := [(saysNO_q0, true), (saysNO_q1, true), (saysNO_q2, true), (saysNO_q3, false), (saysNO_q7, true), (saysNO_q4, false), (saysNO_q8, false), (saysNO_q6, false)]
theorem saysNO_y16 : endC saysNO [] 1000 (callC Tryd.prog (tellA saysNO_u16) [] [] [] 3000 40 35 saysNO) = some saysNO_d0 := by kernel_rfl
abbrev saysNO_u17 : List (Q × Bool) := [(saysNO_q0, false), (saysNO_q3, false), (saysNO_q7, true), (saysNO_q4, false), (saysNO_q8, false)]
theorem saysNO_y17 : endC saysNO [] 1000 (callC Tryd.prog (tellA saysNO_u17) [] [] [] 3000 40 35 saysNO) = some saysNO_d0 := by kernel_rfl
abbrev saysNO_u18 : List (Q × Bool) := [(saysNO_q0, true), (saysNO_q1, true), (saysNO_q2, true), (saysNO_q3, false), (saysNO_q7, false), (saysNO_q9, true), (saysNO_q4, true)]
theorem saysNO_y18 : endC saysNO [] 1000 (callC Tryd.prog (tellA saysNO_u18) [] [] [] 3000 40 35 saysNO) = some saysNO_d0 := by kernel_rfl
abbrev saysNO_u19 : List (Q × Bool) := [(saysNO_q0, true), (saysNO_q1, true), (saysNO_q2, false), (saysNO_q3, false), (saysNO_q7, false), (saysNO_q9, true), (saysNO_q4, true)]
theorem saysNO_y19 : endC saysNO [] 1000 (callC Tryd.prog (tellA saysNO_u19) [] [] [] 3000 40 35 saysNO) = some saysNO_d0 := by kernel_rfl
abbrev saysNO_u20 : List (Q × Bool) := [(saysNO_q0, false), (saysNO_q3, false), (saysNO_q7, false), (saysNO_q9, true), (saysNO_q4, true)]
theorem saysNO_y20 : endC saysNO [] 1000 (callC Tryd.prog (tellA saysNO_u20) [] [] [] 3000 40 35 saysNO) = some saysNO_d0 := by kernel_rfl
abbrev saysNO_u21 : List (Q × Bool) := [(saysNO_q0, true), (saysNO_q1, true), (saysNO_q2, true), (saysNO_q3, false), (saysNO_q7, false), (saysNO_q9, true), (saysNO_q4, false), (saysNO_q8, true)]
theorem saysNO_y21 : endC saysNO [] 1000 (callC Tryd.prog (tellA saysNO_u21) [] [] [] 3000 40 35 saysNO) = some saysNO_d0 := by kernel_rfl
abbrev saysNO_u22 : List (Q × Bool) := [(saysNO_q0, true), (saysNO_q1, true), (saysNO_q2, false), (saysNO_q3, false), (saysNO_q7, false), (saysNO_q9, true), (saysNO_q4, false), (saysNO_q8, true)]
theorem saysNO_y22 : endC saysNO [] 1000 (callC Tryd.prog (tellA saysNO_u22) [] [] [] 3000 40 35 saysNO) = some saysNO_d0 := by kernel_rfl
abbrev saysNO_u23 : List (Q × Bool) := [(saysNO_q0, false), (saysNO_q3, false), (saysNO_q7, false), (saysNO_q9, true), (saysNO_q4, false), (saysNO_q8, true)]
theorem saysNO_y23 : endC saysNO [] 1000 (callC Tryd.prog (tellA saysNO_u23) [] [] [] 3000 40 35 saysNO) = some saysNO_d0 := by kernel_rfl
abbrev saysNO_u24 : List (Q × Bool) := [(saysNO_q0, true), (saysNO_q1, true), (saysNO_q2, true), (saysNO_q3, false), (saysNO_q7, false), (saysNO_q9, true), (saysNO_q4, false), (saysNO_q8, false), (saysNO_q10, true)]
theorem saysNO_y24 : endC saysNO [] 1000 (callC Tryd.prog (tellA saysNO_u24) [] [] [] 3000 40 35 saysNO) = some saysNO_d0 := by kernel_rfl
abbrev saysNO_u25 : List (Q × Bool) := [(saysNO_q0, true), (saysNO_q1, true), (saysNO_q2, false), (saysNO_q3, false), (saysNO_q7, false), (saysNO_q9, true), (saysNO_q4, false), (saysNO_q8, false), (saysNO_q10, true)]
theorem saysNO_y25 : endC saysNO [] 1000 (callC Tryd.prog (tellA saysNO_u25) [] [] [] 3000 40 35 saysNO) = some saysNO_d0 := by kernel_rfl
abbrev saysNO_u26 : List (Q × Bool) := [(saysNO_q0, true), (saysNO_q1, true), (saysNO_q2, true), (saysNO_q3, false), (saysNO_q7, false), (saysNO_q9, false), (saysNO_q11, true), (saysNO_q4, true)]
theorem saysNO_y26 : endC saysNO [] 1000 (callC Tryd.prog (tellA saysNO_u26) [] [] [] 3000 40 35 saysNO) = some saysNO_d0 := by kernel_rfl
abbrev saysNO_u27 : List (Q × Bool) := [(saysNO_q0, true), (saysNO_q1, true), (saysNO_q2, false), (saysNO_q3, false), (saysNO_q7, false), (saysNO_q9, false), (saysNO_q11, true), (saysNO_q4, true)]
theorem saysNO_y27 : endC saysNO [] 1000 (callC Tryd.prog (tellA saysNO_u27) [] [] [] 3000 40 35 saysNO) = some saysNO_d0 := by kernel_rfl
abbrev saysNO_u28 : List (Q × Bool) := [(saysNO_q0, false), (saysNO_q3, false), (saysNO_q7, false), (saysNO_q9, false), (saysNO_q11, true), (saysNO_q4, true)]
theorem saysNO_y28 : endC saysNO [] 1000 (callC Tryd.prog (tellA saysNO_u28) [] [] [] 3000 40 35 saysNO) = some saysNO_d0 := by kernel_rfl
abbrev saysNO_u29 : List (Q × Bool) := [(saysNO_q0, true), (saysNO_q1, true), (saysNO_q2, true), (saysNO_q3, false), (saysNO_q7, false), (saysNO_q9, false), (saysNO_q11, true), (saysNO_q4, false), (saysNO_q8, true)]
theorem saysNO_y29 : endC saysNO [] 1000 (callC Tryd.prog (tellA saysNO_u29) [] [] [] 3000 40 35 saysNO) = some saysNO_d0 := by kernel_rfl
abbrev saysNO_u30 : List (Q × Bool) := [(saysNO_q0, true), (saysNO_q1, true), (saysNO_q2, false), (saysNO_q3, false), (saysNO_q7, false), (saysNO_q9, false), (saysNO_q11, true), (saysNO_q4, false), (saysNO_q8, true)]
theorem saysNO_y30 : endC saysNO [] 1000 (callC Tryd.prog (tellA saysNO_u30) [] [] [] 3000 40 35 saysNO) = some saysNO_d0 := by kernel_rfl
abbrev saysNO_u31 : List (Q × Bool) := [(saysNO_q0, false), (saysNO_q3, false), (saysNO_q7, false), (saysNO_q9, false), (saysNO_q11, true), (saysNO_q4, false), (saysNO_q8, true)]
theorem saysNO_y31 : endC saysNO [] 1000 (callC Tryd.prog (tellA saysNO_u31) [] [] [] 3000 40 35 saysNO) = some saysNO_d0 := by kernel_rfl
abbrev saysNO_u32 : List (Q × Bool) := [(saysNO_q0, true), (saysNO_q1, true), (saysNO_q2, false), (saysNO_q3, false), (saysNO_q7, false), (saysNO_q9, false), (saysNO_q11, true), (saysNO_q4, false), (saysNO_q8, false)]
theorem saysNO_y32 : endC saysNO [] 1000 (callC Tryd.prog (tellA saysNO_u32) [] [] [] 3000 40 35 saysNO) = some saysNO_d0 := by kernel_rfl
abbrev saysNO_u33 : List (Q × Bool) := [(saysNO_q0, false), (saysNO_q3, false), (saysNO_q7, false), (saysNO_q9, false), (saysNO_q11, true), (saysNO_q4, false), (saysNO_q8, false)]
theorem saysNO_y33 : endC saysNO [] 1000 (callC Tryd.prog (tellA saysNO_u33) [] [] [] 3000 40 35 saysNO) = some saysNO_d0 := by kernel_rfl
abbrev saysNO_u34 : List (Q × Bool) := [(saysNO_q0, true), (saysNO_q1, true), (saysNO_q2, true), (saysNO_q3, false), (saysNO_q7, false), (saysNO_q9, false), (saysNO_q11, false), (saysNO_q4, true)]
theorem saysNO_y34 : endC saysNO [] 1000 (callC Tryd.prog (tellA saysNO_u34) [] [] [] 3000 40 35 saysNO) = some saysNO_d0 := by kernel_rfl
abbrev saysNO_u35 : List (Q × Bool) := [(saysNO_q0, true), (saysNO_q1, true), (saysNO_q2, false), (saysNO_q3, false), (saysNO_q7, false), (saysNO_q9, false), (saysNO_q11, false), (saysNO_q4, true)]
theorem saysNO_y35 : endC saysNO [] 1000 (callC Tryd.prog (tellA saysNO_u35) [] [] [] 3000 40 35 saysNO) = some saysNO_d0 := by kernel_rfl
abbrev saysNO_u36 : List (Q × Bool) := [(saysNO_q0, false), (saysNO_q3, false), (saysNO_q7, false), (saysNO_q9, false), (saysNO_q11, false), (saysNO_q4, true)]
theorem saysNO_y36 : endC saysNO [] 1000 (callC Tryd.prog (tellA saysNO_u36) [] [] [] 3000 40 35 saysNO) = some saysNO_d0 := by kernel_rfl
abbrev saysNO_u37 : List (Q × Bool) := [(saysNO_q0, true), (saysNO_q1, true), (saysNO_q2, false), (saysNO_q3, false), (saysNO_q7, false), (saysNO_q9, false), (saysNO_q11, false), (saysNO_q4, false)]
theorem saysNO_y37 : endC saysNO [] 1000 (callC Tryd.prog (tellA saysNO_u37) [] [] [] 3000 40 35 saysNO) = some saysNO_d0 := by kernel_rfl
abbrev saysNO_u38 : List (Q × Bool) := [(saysNO_q0, true), (saysNO_q1, true), (saysNO_q2, true), (saysNO_q3, false), (saysNO_q7, false), (saysNO_q9, false), (saysNO_q11, false), (saysNO_q4, false), (saysNO_q6, false)]
theorem saysNO_y38 : endC saysNO [] 1000 (callC Tryd.prog (tellA saysNO_u38) [] [] [] 3000 40 35 saysNO) = some saysNO_d0 := by kernel_rfl
abbrev saysNO_u39 : List (Q × Bool) := [(saysNO_q0, false), (saysNO_q3, false), (saysNO_q7, false), (saysNO_q9, false), (saysNO_q11, false), (saysNO_q4, false)]
theorem saysNO_y39 : endC saysNO [] 1000 (callC Tryd.prog (tellA saysNO_u39) [] [] [] 3000 40 35 saysNO) = some saysNO_d0 := by kernel_rfl
set_option maxHeartbeats 8000000 in
theorem saysNO_holds : CHolds Tryd.prog 35 saysNO F := by
  refine cholds_of sound (tableNil _ _) (specsNil _ _) (oversNil _ _) (fuel := 3000) (depth := 40) (by kernel_rfl) fun d hp hR hA => ?_
  have hp := allTold'_iff.2 hp
  simp only [saysNO, allTold', dutiesTold, factsA, factsC, factsP, factsR, AV.facts, RW.facts, inK, and_true, Q.holds', E.i, E.s, E.n, D.nat, E.den, BO.den, UO.den, TO.den, D.toInt_int, D.toList_list, D.ints_ofInts, i64min, i64max, u8min, u8max, u16min, u16max, u32min, u32max, u64min, u64max, i32min, i32max, Om.sub, selI, ints_app, ints_cut, ints_upd, ints_rep, ints_splice, ints_seg, len_ints] at hp hR hA
  simp only [F17, argsE, allTold', dutiesTold, factsA, factsC, factsP, factsR, AV.facts, RW.facts, inK, and_true, Q.holds', E.i, E.s, E.n, D.nat, E.den, BO.den, UO.den, TO.den, D.toInt_int, D.toList_list, D.ints_ofInts, i64min, i64max, u8min, u8max, u16min, u16max, u32min, u32max, u64min, u64max, i32min, i32max, Om.sub, selI, ints_app, ints_cut, ints_upd, ints_rep, ints_splice, ints_seg, len_ints] at hp
  have hs := hp.2.2.2.2.2.2.2.2
  clear hR hA
  split at hs <;> first | omega | skip
  rename_i hs2
  unfold saysP at hs2
  cases h0 : Q.val (OmD d) saysNO_q0
  · have p0 : ¬ ((d 3).toInt = (0)) := of_decide_eq_false h0
    cases h1 : Q.val (OmD d) saysNO_q3
    rotate_left
    · have p1 : (d 0).toInt = (1) := of_decide_eq_true h1
      cases h2 : Q.val (OmD d) saysNO_q4
      rotate_left
      · have p2 : (d 1).toInt ≤ (0) := of_decide_eq_true h2
        refine ⟨tellA saysNO_u2, _, _, _, tellA_ok (told_cons h0 (told_cons h1 (told_cons h2 told_nil))), saysNO_y2, dutiesTold_ok ?_⟩
        trivial
      have p2 : ¬ ((d 1).toInt ≤ (0)) := of_decide_eq_false h2
      cases h3 : Q.val (OmD d) saysNO_q5
      · have p3 : ¬ ((d 2).toInt = (0)) := of_decide_eq_false h3
        refine ⟨tellA saysNO_u8, _, _, _, tellA_ok (by (repeat refine told_cons (by assumption) ?_); exact told_nil), saysNO_y8, dutiesTold_ok ?_⟩
        trivial
      have p3 : (d 2).toInt = (0) := of_decide_eq_true h3
      refine ⟨tellA saysNO_u5, _, _, _, tellA_ok (by (repeat refine told_cons (by assumption) ?_); exact told_nil), saysNO_y5, dutiesTold_ok ?_⟩
      trivial
    have p1 : ¬ ((d 0).toInt = (1)) := of_decide_eq_false h1
    cases h2 : Q.val (OmD d) saysNO_q7
    rotate_left
    · have p2 : (d 0).toInt = (2) := of_decide_eq_true h2
      cases h3 : Q.val (OmD d) saysNO_q4
      rotate_left
      · have p3 : (d 1).toInt ≤ (0) := of_decide_eq_true h3
        refine ⟨tellA saysNO_u11, _, _, _, tellA_ok (by (repeat refine told_cons (by assumption) ?_); exact told_nil), saysNO_y11, dutiesTold_ok ?_⟩
        trivial
      have p3 : ¬ ((d 1).toInt ≤ (0)) := of_decide_eq_false h3
      cases h4 : Q.val (OmD d) saysNO_q8
      · have p4 : ¬ ((d 2).toInt ≤ (0)) := of_decide_eq_false h4
        refine ⟨tellA saysNO_u17, _, _, _, tellA_ok (by (repeat refine told_cons (by assumption) ?_); exact told_nil), saysNO_y17, dutiesTold_ok ?_⟩
        trivial
      have p4 : (d 2).toInt ≤ (0) := of_decide_eq_true h4
      refine ⟨tellA saysNO_u14, _, _, _, tellA_ok (by (repeat refine told_cons (by assumption) ?_); exact told_nil), saysNO_y14, dutiesTold_ok ?_⟩
      trivial
    have p2 : ¬ ((d 0).toInt = (2)) := of_decide_eq_false h2
    cases h3 : Q.val (OmD d) saysNO_q9
    rotate_left
    · have p3 : (d 0).toInt = (3) := of_decide_eq_true h3
      cases h4 : Q.val (OmD d) saysNO_q4
      · have p4 : ¬ ((d 1).toInt ≤ (0)) := of_decide_eq_false h4
        have p5 : (d 2).toInt ≤ (0) := by omega
        have h5 : Q.val (OmD d) saysNO_q8 = true := decide_eq_true p5
        refine ⟨tellA saysNO_u23, _, _, _, tellA_ok (by (repeat refine told_cons (by assumption) ?_); exact told_nil), saysNO_y23, dutiesTold_ok ?_⟩
        trivial
      have p4 : (d 1).toInt ≤ (0) := of_decide_eq_true h4
      refine ⟨tellA saysNO_u20, _, _, _, tellA_ok (by (repeat refine told_cons (by assumption) ?_); exact told_nil), saysNO_y20, dutiesTold_ok ?_⟩
      trivial
    have p3 : ¬ ((d 0).toInt = (3)) := of_decide_eq_false h3
    cases h4 : Q.val (OmD d) saysNO_q11
    · have p4 : ¬ ((d 0).toInt = (4)) := of_decide_eq_false h4
      cases h5 : Q.val (OmD d) saysNO_q4
      · have p5 : ¬ ((d 1).toInt ≤ (0)) := of_decide_eq_false h5
        refine ⟨tellA saysNO_u39, _, _, _, tellA_ok (by (repeat refine told_cons (by assumption) ?_); exact told_nil), saysNO_y39, dutiesTold_ok ?_⟩
        trivial
      have p5 : (d 1).toInt ≤ (0) := of_decide_eq_true h5
      refine ⟨tellA saysNO_u36, _, _, _, tellA_ok (by (repeat refine told_cons (by assumption) ?_); exact told_nil), saysNO_y36, dutiesTold_ok ?_⟩
      trivial
    have p4 : (d 0).toInt = (4) := of_decide_eq_true h4
    cases h5 : Q.val (OmD d) saysNO_q4
    rotate_left
    · have p5 : (d 1).toInt ≤ (0) := of_decide_eq_true h5
      refine ⟨tellA saysNO_u28, _, _, _, tellA_ok (by (repeat refine told_cons (by assumption) ?_); exact told_nil), saysNO_y28, dutiesTold_ok ?_⟩
      trivial
    have p5 : ¬ ((d 1).toInt ≤ (0)) := of_decide_eq_false h5
    cases h6 : Q.val (OmD d) saysNO_q8
    · have p6 : ¬ ((d 2).toInt ≤ (0)) := of_decide_eq_false h6
      refine ⟨tellA saysNO_u33, _, _, _, tellA_ok (by (repeat refine told_cons (by assumption) ?_); exact told_nil), saysNO_y33, dutiesTold_ok ?_⟩
      trivial
    have p6 : (d 2).toInt ≤ (0) := of_decide_eq_true h6
    refine ⟨tellA saysNO_u31, _, _, _, tellA_ok (by (repeat refine told_cons (by assumption) ?_); exact told_nil), saysNO_y31, dutiesTold_ok ?_⟩
    trivial
  have p0 : (d 3).toInt = (0) := of_decide_eq_true h0
  have p1 : -9223372036854775808 ≤ (d 6).toInt ∧ (d 6).toInt ≤ 9223372036854775807 := by omega
  have h1 : Q.val (OmD d) saysNO_q1 = true := decide_eq_true p1
  cases h2 : Q.val (OmD d) saysNO_q2
  rotate_left
  · have p2 : (d 6).toInt = (0) := of_decide_eq_true h2
    cases h3 : Q.val (OmD d) saysNO_q3
    rotate_left
    · have p3 : (d 0).toInt = (1) := of_decide_eq_true h3
      cases h4 : Q.val (OmD d) saysNO_q4
      rotate_left
      · have p4 : (d 1).toInt ≤ (0) := of_decide_eq_true h4
        refine ⟨tellA saysNO_u0, _, _, _, tellA_ok (by (repeat refine told_cons (by assumption) ?_); exact told_nil), saysNO_y0, dutiesTold_ok ?_⟩
        trivial
      have p4 : ¬ ((d 1).toInt ≤ (0)) := of_decide_eq_false h4
      cases h5 : Q.val (OmD d) saysNO_q5
      · have p5 : ¬ ((d 2).toInt = (0)) := of_decide_eq_false h5
        refine ⟨tellA saysNO_u6, _, _, _, tellA_ok (by (repeat refine told_cons (by assumption) ?_); exact told_nil), saysNO_y6, dutiesTold_ok ?_⟩
        trivial
      have p5 : (d 2).toInt = (0) := of_decide_eq_true h5
      have p6 : ¬ ((d 4).toInt = (0)) := by omega
      have h6 : Q.val (OmD d) saysNO_q6 = false := decide_eq_false p6
      refine ⟨tellA saysNO_u4, _, _, _, tellA_ok (by (repeat refine told_cons (by assumption) ?_); exact told_nil), saysNO_y4, dutiesTold_ok ?_⟩
      trivial
    have p3 : ¬ ((d 0).toInt = (1)) := of_decide_eq_false h3
    cases h4 : Q.val (OmD d) saysNO_q7
    rotate_left
    · have p4 : (d 0).toInt = (2) := of_decide_eq_true h4
      cases h5 : Q.val (OmD d) saysNO_q4
      rotate_left
      · have p5 : (d 1).toInt ≤ (0) := of_decide_eq_true h5
        refine ⟨tellA saysNO_u9, _, _, _, tellA_ok (by (repeat refine told_cons (by assumption) ?_); exact told_nil), saysNO_y9, dutiesTold_ok ?_⟩
        trivial
      have p5 : ¬ ((d 1).toInt ≤ (0)) := of_decide_eq_false h5
      cases h6 : Q.val (OmD d) saysNO_q8
      · have p6 : ¬ ((d 2).toInt ≤ (0)) := of_decide_eq_false h6
        have p7 : ¬ ((d 4).toInt = (0)) := by omega
        have h7 : Q.val (OmD d) saysNO_q6 = false := decide_eq_false p7
        refine ⟨tellA saysNO_u16, _, _, _, tellA_ok (by (repeat refine told_cons (by assumption) ?_); exact told_nil), saysNO_y16, dutiesTold_ok ?_⟩
        trivial
      have p6 : (d 2).toInt ≤ (0) := of_decide_eq_true h6
      refine ⟨tellA saysNO_u12, _, _, _, tellA_ok (by (repeat refine told_cons (by assumption) ?_); exact told_nil), saysNO_y12, dutiesTold_ok ?_⟩
      trivial
    have p4 : ¬ ((d 0).toInt = (2)) := of_decide_eq_false h4
    cases h5 : Q.val (OmD d) saysNO_q9
    rotate_left
    · have p5 : (d 0).toInt = (3) := of_decide_eq_true h5
      cases h6 : Q.val (OmD d) saysNO_q4
      rotate_left
      · have p6 : (d 1).toInt ≤ (0) := of_decide_eq_true h6
        refine ⟨tellA saysNO_u18, _, _, _, tellA_ok (by (repeat refine told_cons (by assumption) ?_); exact told_nil), saysNO_y18, dutiesTold_ok ?_⟩
        trivial
      have p6 : ¬ ((d 1).toInt ≤ (0)) := of_decide_eq_false h6
      cases h7 : Q.val (OmD d) saysNO_q8
      · have p7 : ¬ ((d 2).toInt ≤ (0)) := of_decide_eq_false h7
        have p8 : (d 3).toInt ≤ (0) := by omega
        have h8 : Q.val (OmD d) saysNO_q10 = true := decide_eq_true p8
        refine ⟨tellA saysNO_u24, _, _, _, tellA_ok (by (repeat refine told_cons (by assumption) ?_); exact told_nil), saysNO_y24, dutiesTold_ok ?_⟩
        trivial
      have p7 : (d 2).toInt ≤ (0) := of_decide_eq_true h7
      refine ⟨tellA saysNO_u21, _, _, _, tellA_ok (by (repeat refine told_cons (by assumption) ?_); exact told_nil), saysNO_y21, dutiesTold_ok ?_⟩
      trivial
    have p5 : ¬ ((d 0).toInt = (3)) := of_decide_eq_false h5
    cases h6 : Q.val (OmD d) saysNO_q11
    · have p6 : ¬ ((d 0).toInt = (4)) := of_decide_eq_false h6
      cases h7 : Q.val (OmD d) saysNO_q4
      · have p7 : ¬ ((d 1).toInt ≤ (0)) := of_decide_eq_false h7
        have p8 : ¬ ((d 4).toInt = (0)) := by omega
        have h8 : Q.val (OmD d) saysNO_q6 = false := decide_eq_false p8
        refine ⟨tellA saysNO_u38, _, _, _, tellA_ok (by (repeat refine told_cons (by assumption) ?_); exact told_nil), saysNO_y38, dutiesTold_ok ?_⟩
        trivial
      have p7 : (d 1).toInt ≤ (0) := of_decide_eq_true h7
      refine ⟨tellA saysNO_u34, _, _, _, tellA_ok (by (repeat refine told_cons (by assumption) ?_); exact told_nil), saysNO_y34, dutiesTold_ok ?_⟩
      trivial
    have p6 : (d 0).toInt = (4) := of_decide_eq_true h6
    cases h7 : Q.val (OmD d) saysNO_q4
    · have p7 : ¬ ((d 1).toInt ≤ (0)) := of_decide_eq_false h7
      have p8 : (d 2).toInt ≤ (0) := by omega
      have h8 : Q.val (OmD d) saysNO_q8 = true := decide_eq_true p8
      refine ⟨tellA saysNO_u29, _, _, _, tellA_ok (by (repeat refine told_cons (by assumption) ?_); exact told_nil), saysNO_y29, dutiesTold_ok ?_⟩
      trivial
    have p7 : (d 1).toInt ≤ (0) := of_decide_eq_true h7
    refine ⟨tellA saysNO_u26, _, _, _, tellA_ok (by (repeat refine told_cons (by assumption) ?_); exact told_nil), saysNO_y26, dutiesTold_ok ?_⟩
    trivial
  have p2 : ¬ ((d 6).toInt = (0)) := of_decide_eq_false h2
  cases h3 : Q.val (OmD d) saysNO_q3
  rotate_left
  · have p3 : (d 0).toInt = (1) := of_decide_eq_true h3
    cases h4 : Q.val (OmD d) saysNO_q4
    rotate_left
    · have p4 : (d 1).toInt ≤ (0) := of_decide_eq_true h4
      refine ⟨tellA saysNO_u1, _, _, _, tellA_ok (by (repeat refine told_cons (by assumption) ?_); exact told_nil), saysNO_y1, dutiesTold_ok ?_⟩
      trivial
    have p4 : ¬ ((d 1).toInt ≤ (0)) := of_decide_eq_false h4
    cases h5 : Q.val (OmD d) saysNO_q5
    · have p5 : ¬ ((d 2).toInt = (0)) := of_decide_eq_false h5
      refine ⟨tellA saysNO_u7, _, _, _, tellA_ok (by (repeat refine told_cons (by assumption) ?_); exact told_nil), saysNO_y7, dutiesTold_ok ?_⟩
      trivial
    have p5 : (d 2).toInt = (0) := of_decide_eq_true h5
    refine ⟨tellA saysNO_u3, _, _, _, tellA_ok (by (repeat refine told_cons (by assumption) ?_); exact told_nil), saysNO_y3, dutiesTold_ok ?_⟩
    trivial
  have p3 : ¬ ((d 0).toInt = (1)) := of_decide_eq_false h3
  cases h4 : Q.val (OmD d) saysNO_q7
  rotate_left
  · have p4 : (d 0).toInt = (2) := of_decide_eq_true h4
    cases h5 : Q.val (OmD d) saysNO_q4
    rotate_left
    · have p5 : (d 1).toInt ≤ (0) := of_decide_eq_true h5
      refine ⟨tellA saysNO_u10, _, _, _, tellA_ok (by (repeat refine told_cons (by assumption) ?_); exact told_nil), saysNO_y10, dutiesTold_ok ?_⟩
      trivial
    have p5 : ¬ ((d 1).toInt ≤ (0)) := of_decide_eq_false h5
    cases h6 : Q.val (OmD d) saysNO_q8
    · have p6 : ¬ ((d 2).toInt ≤ (0)) := of_decide_eq_false h6
      refine ⟨tellA saysNO_u15, _, _, _, tellA_ok (by (repeat refine told_cons (by assumption) ?_); exact told_nil), saysNO_y15, dutiesTold_ok ?_⟩
      trivial
    have p6 : (d 2).toInt ≤ (0) := of_decide_eq_true h6
    refine ⟨tellA saysNO_u13, _, _, _, tellA_ok (by (repeat refine told_cons (by assumption) ?_); exact told_nil), saysNO_y13, dutiesTold_ok ?_⟩
    trivial
  have p4 : ¬ ((d 0).toInt = (2)) := of_decide_eq_false h4
  cases h5 : Q.val (OmD d) saysNO_q9
  rotate_left
  · have p5 : (d 0).toInt = (3) := of_decide_eq_true h5
    cases h6 : Q.val (OmD d) saysNO_q4
    rotate_left
    · have p6 : (d 1).toInt ≤ (0) := of_decide_eq_true h6
      refine ⟨tellA saysNO_u19, _, _, _, tellA_ok (by (repeat refine told_cons (by assumption) ?_); exact told_nil), saysNO_y19, dutiesTold_ok ?_⟩
      trivial
    have p6 : ¬ ((d 1).toInt ≤ (0)) := of_decide_eq_false h6
    cases h7 : Q.val (OmD d) saysNO_q8
    · have p7 : ¬ ((d 2).toInt ≤ (0)) := of_decide_eq_false h7
      have p8 : (d 3).toInt ≤ (0) := by omega
      have h8 : Q.val (OmD d) saysNO_q10 = true := decide_eq_true p8
      refine ⟨tellA saysNO_u25, _, _, _, tellA_ok (by (repeat refine told_cons (by assumption) ?_); exact told_nil), saysNO_y25, dutiesTold_ok ?_⟩
      trivial
    have p7 : (d 2).toInt ≤ (0) := of_decide_eq_true h7
    refine ⟨tellA saysNO_u22, _, _, _, tellA_ok (by (repeat refine told_cons (by assumption) ?_); exact told_nil), saysNO_y22, dutiesTold_ok ?_⟩
    trivial
  have p5 : ¬ ((d 0).toInt = (3)) := of_decide_eq_false h5
  cases h6 : Q.val (OmD d) saysNO_q11
  · have p6 : ¬ ((d 0).toInt = (4)) := of_decide_eq_false h6
    cases h7 : Q.val (OmD d) saysNO_q4
    · have p7 : ¬ ((d 1).toInt ≤ (0)) := of_decide_eq_false h7
      refine ⟨tellA saysNO_u37, _, _, _, tellA_ok (by (repeat refine told_cons (by assumption) ?_); exact told_nil), saysNO_y37, dutiesTold_ok ?_⟩
      trivial
    have p7 : (d 1).toInt ≤ (0) := of_decide_eq_true h7
    refine ⟨tellA saysNO_u35, _, _, _, tellA_ok (by (repeat refine told_cons (by assumption) ?_); exact told_nil), saysNO_y35, dutiesTold_ok ?_⟩
    trivial
  have p6 : (d 0).toInt = (4) := of_decide_eq_true h6
  cases h7 : Q.val (OmD d) saysNO_q4
  rotate_left
  · have p7 : (d 1).toInt ≤ (0) := of_decide_eq_true h7
    refine ⟨tellA saysNO_u27, _, _, _, tellA_ok (by (repeat refine told_cons (by assumption) ?_); exact told_nil), saysNO_y27, dutiesTold_ok ?_⟩
    trivial
  have p7 : ¬ ((d 1).toInt ≤ (0)) := of_decide_eq_false h7
  cases h8 : Q.val (OmD d) saysNO_q8
  · have p8 : ¬ ((d 2).toInt ≤ (0)) := of_decide_eq_false h8
    refine ⟨tellA saysNO_u32, _, _, _, tellA_ok (by (repeat refine told_cons (by assumption) ?_); exact told_nil), saysNO_y32, dutiesTold_ok ?_⟩
    trivial
  have p8 : (d 2).toInt ≤ (0) := of_decide_eq_true h8
  refine ⟨tellA saysNO_u30, _, _, _, tellA_ok (by (repeat refine told_cons (by assumption) ?_); exact told_nil), saysNO_y30, dutiesTold_ok ?_⟩
  trivial

end Go.Proofs.YtlmcjfcfmcdcpaaDoor.F4
