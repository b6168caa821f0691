/-
  Contracts of this seat: what loops and calls leave, for all inputs. No condition.
-/
import Derived.Test.YtlmcjfcfmcdcpaaDoorSycp
import Derived.Test.YtlmcjfcfmcdcpaaDoorCo
import Derived.Test.YtlmcjfcfmcdcpaaDoorGa
set_option linter.unusedSimpArgs false
set_option linter.unusedVariables false
namespace Go.Proofs.YtlmcjfcfmcdcpaaDoor.Fc
open Go.RowKit Go.Ev Go.Proofs.YtlmcjfcfmcdcpaaDoor.Co

open Go.Proofs.YtlmcjfcfmcdcpaaDoor.Ga

def scheckCO : CSpec := { args := [.agg [.sint .i64 (.var 10), .sint .i64 (.var 11), .sint .i64 (.var 12), .sint .i64 (.var 0), .sint .i64 (.var 1), .sint .i64 (.var 2), .sint .i64 (.var 3), .sint .i64 (.var 4), .sslice 3 (.var 5) (.var 6) (.var 7) true]], next := 2, rows := [(3, .eseq ⟨.u8, .var 8, .var 9⟩), (0, .ext cellsG)], pre := [(.le (.int 0) (.var 6), true), (.le (.var 6) (.int 1000000), true)], res := .sint .i64 (.fn 13 (argsE [.var 10, .var 11, .var 0, .var 1, .var 2, .var 3, .var 4, .var 12, .var 6])), frows := [], same := [] }
abbrev OmD (d : Nat → D) : Om := ⟨fun _ => .bool false, d, F⟩
abbrev scheckCO_q0 : Q := (.eq (.var 10) (.int 21323))
abbrev scheckCO_q1 : Q := (.eq (.var 11) (.int 1))
abbrev scheckCO_q2 : Q := (.le (.int 1) (.var 0))
abbrev scheckCO_q3 : Q := (.le (.int 6) (.var 0))
abbrev scheckCO_q4 : Q := (.le (.int 0) (.var 1))
abbrev scheckCO_q5 : Q := (.le (.var 1) (.int 2147483647))
abbrev scheckCO_q6 : Q := (.le (.int 0) (.var 2))
abbrev scheckCO_q7 : Q := (.le (.var 2) (.int 2147483647))
abbrev scheckCO_q8 : Q := (.le (.int 0) (.var 3))
abbrev scheckCO_q9 : Q := (.le (.var 3) (.int 2147483647))
abbrev scheckCO_q10 : Q := (.le (.int 0) (.var 4))
abbrev scheckCO_q11 : Q := (.le (.var 4) (.int 2147483647))
abbrev scheckCO_q12 : Q := (.fit .i64 (.var 6))
abbrev scheckCO_q13 : Q := (.eq (.var 12) (.var 6))
abbrev scheckCO_q14 : Q := (.eq (.var 0) (.int 0))
abbrev scheckCO_q15 : Q := (.eq (.var 0) (.int 1))
abbrev scheckCO_q16 : Q := (.le (.int 1) (.var 1))
abbrev scheckCO_q17 : Q := (.eq (.var 2) (.int 0))
abbrev scheckCO_q18 : Q := (.eq (.var 3) (.int 0))
abbrev scheckCO_q19 : Q := (.eq (.var 4) (.int 0))
abbrev scheckCO_q20 : Q := (.eq (.var 6) (.int 0))
abbrev scheckCO_q21 : Q := (.eq (.var 0) (.int 2))
abbrev scheckCO_q22 : Q := (.le (.int 1) (.var 2))
abbrev scheckCO_q23 : Q := (.eq (.var 0) (.int 3))
abbrev scheckCO_q24 : Q := (.le (.int 1) (.var 3))
abbrev scheckCO_q25 : Q := (.eq (.var 0) (.int 4))
abbrev scheckCO_q26 : Q := (.eq (.var 0) (.int 5))
abbrev scheckCO_u0 : List (Q × Bool) := [(scheckCO_q0, false)]
def scheckCO_d0 : List Duty := [(true, (.int 211), (.fn 13 (.bi .pair (.var 10) (.bi .pair (.var 11) (.bi .pair (.var 0) (.bi .pair (.var 1) (.bi .pair (.var 2) (.bi .pair (.var 3) (.bi .pair (.var 4) (.bi .pair (.var 12) (.bi .pair (.var 6) (.int 0))))))))))))]
theorem scheckCO_y0 : endC scheckCO [] 1000 (callC Tryd.prog (tellA scheckCO_u0) [] [] [] 3000 40 38 scheckCO) = some scheckCO_d0 := by kernel_rfl
abbrev scheckCO_u1 : List (Q × Bool) := [(scheckCO_q0, true), (scheckCO_q1, false)]
def scheckCO_d1 : List Duty := [(true, (.int 212), (.fn 13 (.bi .pair (.var 10) (.bi .pair (.var 11) (.bi .pair (.var 0) (.bi .pair (.var 1) (.bi .pair (.var 2) (.bi .pair (.var 3) (.bi .pair (.var 4) (.bi .pair (.var 12) (.bi .pair (.var 6) (.int 0))))))))))))]
theorem scheckCO_y1 : endC scheckCO [] 1000 (callC Tryd.prog (tellA scheckCO_u1) [] [] [] 3000 40 38 scheckCO) = some scheckCO_d1 := by kernel_rfl
abbrev scheckCO_u2 : List (Q × Bool) := [(scheckCO_q0, true), (scheckCO_q1, true), (scheckCO_q2, false)]
def scheckCO_d2 : List Duty := [(true, (.int 213), (.fn 13 (.bi .pair (.var 10) (.bi .pair (.var 11) (.bi .pair (.var 0) (.bi .pair (.var 1) (.bi .pair (.var 2) (.bi .pair (.var 3) (.bi .pair (.var 4) (.bi .pair (.var 12) (.bi .pair (.var 6) (.int 0))))))))))))]
theorem scheckCO_y2 : endC scheckCO [] 1000 (callC Tryd.prog (tellA scheckCO_u2) [] [] [] 3000 40 38 scheckCO) = some scheckCO_d2 := by kernel_rfl
abbrev scheckCO_u3 : List (Q × Bool) := [(scheckCO_q0, true), (scheckCO_q1, true), (scheckCO_q2, true), (scheckCO_q3, true)]
theorem scheckCO_y3 : endC scheckCO [] 1000 (callC Tryd.prog (tellA scheckCO_u3) [] [] [] 3000 40 38 scheckCO) = some scheckCO_d2 := by kernel_rfl
abbrev scheckCO_u4 : List (Q × Bool) := [(scheckCO_q0, true), (scheckCO_q1, true), (scheckCO_q2, true), (scheckCO_q3, false), (scheckCO_q4, true), (scheckCO_q5, false)]
def scheckCO_d3 : List Duty := [(true, (.int 5), (.fn 13 (.bi .pair (.var 10) (.bi .pair (.var 11) (.bi .pair (.var 0) (.bi .pair (.var 1) (.bi .pair (.var 2) (.bi .pair (.var 3) (.bi .pair (.var 4) (.bi .pair (.var 12) (.bi .pair (.var 6) (.int 0))))))))))))]
theorem scheckCO_y4 : endC scheckCO [] 1000 (callC Tryd.prog (tellA scheckCO_u4) [] [] [] 3000 40 38 scheckCO) = some scheckCO_d3 := by kernel_rfl
abbrev scheckCO_u5 : List (Q × Bool) := [(scheckCO_q0, true), (scheckCO_q1, true), (scheckCO_q2, true), (scheckCO_q3, false), (scheckCO_q4, false)]
theorem scheckCO_y5 : endC scheckCO [] 1000 (callC Tryd.prog (tellA scheckCO_u5) [] [] [] 3000 40 38 scheckCO) = some scheckCO_d3 := by kernel_rfl
abbrev scheckCO_u6 : List (Q × Bool) := [(scheckCO_q0, true), (scheckCO_q1, true), (scheckCO_q2, true), (scheckCO_q3, false), (scheckCO_q4, true), (scheckCO_q5, true), (scheckCO_q6, true), (scheckCO_q7, false)]
theorem scheckCO_y6 : endC scheckCO [] 1000 (callC Tryd.prog (tellA scheckCO_u6) [] [] [] 3000 40 38 scheckCO) = some scheckCO_d3 := by kernel_rfl
abbrev scheckCO_u7 : List (Q × Bool) := [(scheckCO_q0, true), (scheckCO_q1, true), (scheckCO_q2, true), (scheckCO_q3, false), (scheckCO_q4, true), (scheckCO_q5, true), (scheckCO_q6, false)]
theorem scheckCO_y7 : endC scheckCO [] 1000 (callC Tryd.prog (tellA scheckCO_u7) [] [] [] 3000 40 38 scheckCO) = some scheckCO_d3 := by kernel_rfl
abbrev scheckCO_u8 : List (Q × Bool) := [(scheckCO_q0, true), (scheckCO_q1, true), (scheckCO_q2, true), (scheckCO_q3, false), (scheckCO_q4, true), (scheckCO_q5, true), (scheckCO_q6, true), (scheckCO_q7, true), (scheckCO_q8, true), (scheckCO_q9, false)]
theorem scheckCO_y8 : endC scheckCO [] 1000 (callC Tryd.prog (tellA scheckCO_u8) [] [] [] 3000 40 38 scheckCO) = some scheckCO_d3 := by kernel_rfl
abbrev scheckCO_u9 : List (Q × Bool) := [(scheckCO_q0, true), (scheckCO_q1, true), (scheckCO_q2, true), (scheckCO_q3, false), (scheckCO_q4, true), (scheckCO_q5, true), (scheckCO_q6, true), (scheckCO_q7, true), (scheckCO_q8, false)]
theorem scheckCO_y9 : endC scheckCO [] 1000 (callC Tryd.prog (tellA scheckCO_u9) [] [] [] 3000 40 38 scheckCO) = some scheckCO_d3 := by kernel_rfl
abbrev scheckCO_u10 : List (Q × Bool) := [(scheckCO_q0, true), (scheckCO_q1, true), (scheckCO_q2, true), (scheckCO_q3, false), (scheckCO_q4, true), (scheckCO_q5, true), (scheckCO_q6, true), (scheckCO_q7, true), (scheckCO_q8, true), (scheckCO_q9, true), (scheckCO_q10, true), (scheckCO_q11, false)]
theorem scheckCO_y10 : endC scheckCO [] 1000 (callC Tryd.prog (tellA scheckCO_u10) [] [] [] 3000 40 38 scheckCO) = some scheckCO_d3 := by kernel_rfl
abbrev scheckCO_u11 : List (Q × Bool) := [(scheckCO_q0, true), (scheckCO_q1, true), (scheckCO_q2, true), (scheckCO_q3, false), (scheckCO_q4, true), (scheckCO_q5, true), (scheckCO_q6, true), (scheckCO_q7, true), (scheckCO_q8, true), (scheckCO_q9, true), (scheckCO_q10, false)]
theorem scheckCO_y11 : endC scheckCO [] 1000 (callC Tryd.prog (tellA scheckCO_u11) [] [] [] 3000 40 38 scheckCO) = some scheckCO_d3 := by kernel_rfl
abbrev scheckCO_u12 : List (Q × Bool) := [(scheckCO_q0, true), (scheckCO_q1, true), (scheckCO_q2, true), (scheckCO_q3, false), (scheckCO_q4, true), (scheckCO_q5, true), (scheckCO_q6, true), (scheckCO_q7, true), (scheckCO_q8, true), (scheckCO_q9, true), (scheckCO_q10, true), (scheckCO_q11, true), (scheckCO_q12, true), (scheckCO_q13, false)]
def scheckCO_d4 : List Duty := [(true, (.int 214), (.fn 13 (.bi .pair (.var 10) (.bi .pair (.var 11) (.bi .pair (.var 0) (.bi .pair (.var 1) (.bi .pair (.var 2) (.bi .pair (.var 3) (.bi .pair (.var 4) (.bi .pair (.var 12) (.bi .pair (.var 6) (.int 0))))))))))))]
theorem scheckCO_y12 : endC scheckCO [] 1000 (callC Tryd.prog (tellA scheckCO_u12) [] [] [] 3000 40 38 scheckCO) = some scheckCO_d4 := by kernel_rfl
abbrev scheckCO_u13 : List (Q × Bool) := [(scheckCO_q0, true), (scheckCO_q1, true), (scheckCO_q2, true), (scheckCO_q3, false), (scheckCO_q4, true), (scheckCO_q5, true), (scheckCO_q6, true), (scheckCO_q7, true), (scheckCO_q8, true), (scheckCO_q9, true), (scheckCO_q10, true), (scheckCO_q11, true), (scheckCO_q12, true), (scheckCO_q13, true), (scheckCO_q14, false), (scheckCO_q15, true), (scheckCO_q16, false)]
def scheckCO_d5 : List Duty := [(true, (.int 2), (.fn 13 (.bi .pair (.var 10) (.bi .pair (.var 11) (.bi .pair (.var 0) (.bi .pair (.var 1) (.bi .pair (.var 2) (.bi .pair (.var 3) (.bi .pair (.var 4) (.bi .pair (.var 12) (.bi .pair (.var 6) (.int 0))))))))))))]
theorem scheckCO_y13 : endC scheckCO [] 1000 (callC Tryd.prog (tellA scheckCO_u13) [] [] [] 3000 40 38 scheckCO) = some scheckCO_d5 := by kernel_rfl
abbrev scheckCO_u14 : List (Q × Bool) := [(scheckCO_q0, true), (scheckCO_q1, true), (scheckCO_q2, true), (scheckCO_q3, false), (scheckCO_q4, true), (scheckCO_q5, true), (scheckCO_q6, true), (scheckCO_q7, true), (scheckCO_q8, true), (scheckCO_q9, true), (scheckCO_q10, true), (scheckCO_q11, true), (scheckCO_q12, true), (scheckCO_q13, true), (scheckCO_q14, false), (scheckCO_q15, true), (scheckCO_q16, true), (scheckCO_q17, true), (scheckCO_q18, true), (scheckCO_q19, true), (scheckCO_q20, true)]
def scheckCO_d6 : List Duty := [(true, (.int 0), (.fn 13 (.bi .pair (.var 10) (.bi .pair (.var 11) (.bi .pair (.var 0) (.bi .pair (.var 1) (.bi .pair (.var 2) (.bi .pair (.var 3) (.bi .pair (.var 4) (.bi .pair (.var 12) (.bi .pair (.var 6) (.int 0))))))))))))]
theorem scheckCO_y14 : endC scheckCO [] 1000 (callC Tryd.prog (tellA scheckCO_u14) [] [] [] 3000 40 38 scheckCO) = some scheckCO_d6 := by kernel_rfl
abbrev scheckCO_u15 : List (Q × Bool) := [(scheckCO_q0, true), (scheckCO_q1, true), (scheckCO_q2, true), (scheckCO_q3, false), (scheckCO_q4, true), (scheckCO_q5, true), (scheckCO_q6, true), (scheckCO_q7, true), (scheckCO_q8, true), (scheckCO_q9, true), (scheckCO_q10, true), (scheckCO_q11, true), (scheckCO_q12, true), (scheckCO_q13, true), (scheckCO_q14, false), (scheckCO_q15, true), (scheckCO_q16, true), (scheckCO_q17, true), (scheckCO_q18, true), (scheckCO_q19, true), (scheckCO_q20, false)]
theorem scheckCO_y15 : endC scheckCO [] 1000 (callC Tryd.prog (tellA scheckCO_u15) [] [] [] 3000 40 38 scheckCO) = some scheckCO_d5 := by kernel_rfl
abbrev scheckCO_u16 : List (Q × Bool) := [(scheckCO_q0, true), (scheckCO_q1, true), (scheckCO_q2, true), (scheckCO_q3, false), (scheckCO_q4, true), (scheckCO_q5, true), (scheckCO_q6, true), (scheckCO_q7, true), (scheckCO_q8, true), (scheckCO_q9, true), (scheckCO_q10, true), (scheckCO_q11, true), (scheckCO_q12, true), (scheckCO_q13, true), (scheckCO_q14, false), (scheckCO_q15, true), (scheckCO_q16, true), (scheckCO_q17, true), (scheckCO_q18, true), (scheckCO_q19, false)]
theorem scheckCO_y16 : endC scheckCO [] 1000 (callC Tryd.prog (tellA scheckCO_u16) [] [] [] 3000 40 38 scheckCO) = some scheckCO_d5 := by kernel_rfl
abbrev scheckCO_u17 : List (Q × Bool) := [(scheckCO_q0, true), (scheckCO_q1, true), (scheckCO_q2, true), (scheckCO_q3, false), (scheckCO_q4, true), (scheckCO_q5, true), (scheckCO_q6, true), (scheckCO_q7, true), (scheckCO_q8, true), (scheckCO_q9, true), (scheckCO_q10, true), (scheckCO_q11, true), (scheckCO_q12, true), (scheckCO_q13, true), (scheckCO_q14, false), (scheckCO_q15, true), (scheckCO_q16, true), (scheckCO_q17, true), (scheckCO_q18, false)]
theorem scheckCO_y17 : endC scheckCO [] 1000 (callC Tryd.prog (tellA scheckCO_u17) [] [] [] 3000 40 38 scheckCO) = some scheckCO_d5 := by kernel_rfl
abbrev scheckCO_u18 : List (Q × Bool) := [(scheckCO_q0, true), (scheckCO_q1, true), (scheckCO_q2, true), (scheckCO_q3, false), (scheckCO_q4, true), (scheckCO_q5, true), (scheckCO_q6, true), (scheckCO_q7, true), (scheckCO_q8, true), (scheckCO_q9, true), (scheckCO_q10, true), (scheckCO_q11, true), (scheckCO_q12, true), (scheckCO_q13, true), (scheckCO_q14, false), (scheckCO_q15, true), (scheckCO_q16, true), (scheckCO_q17, false)]
theorem scheckCO_y18 : endC scheckCO [] 1000 (callC Tryd.prog (tellA scheckCO_u18) [] [] [] 3000 40 38 scheckCO) = some scheckCO_d5 := by kernel_rfl
abbrev scheckCO_u19 : List (Q × Bool) := [(scheckCO_q0, true), (scheckCO_q1, true), (scheckCO_q2, true), (scheckCO_q3, false), (scheckCO_q4, true), (scheckCO_q5, true), (scheckCO_q6, true), (scheckCO_q7, true), (scheckCO_q8, true), (scheckCO_q9, true), (scheckCO_q10, true), (scheckCO_q11, true), (scheckCO_q12, true), (scheckCO_q13, true), (scheckCO_q14, false), (scheckCO_q15, false), (scheckCO_q21, true), (scheckCO_q16, false)]
theorem scheckCO_y19 : endC scheckCO [] 1000 (callC Tryd.prog (tellA scheckCO_u19) [] [] [] 3000 40 38 scheckCO) = some scheckCO_d5 := by kernel_rfl
abbrev scheckCO_u20 : List (Q × Bool) := [(scheckCO_q0, true), (scheckCO_q1, true), (scheckCO_q2, true), (scheckCO_q3, false), (scheckCO_q4, true), (scheckCO_q5, true), (scheckCO_q6, true), (scheckCO_q7, true), (scheckCO_q8, true), (scheckCO_q9, true), (scheckCO_q10, true), (scheckCO_q11, true), (scheckCO_q12, true), (scheckCO_q13, true), (scheckCO_q14, false), (scheckCO_q15, false), (scheckCO_q21, true), (scheckCO_q16, true), (scheckCO_q22, false)]
theorem scheckCO_y20 : endC scheckCO [] 1000 (callC Tryd.prog (tellA scheckCO_u20) [] [] [] 3000 40 38 scheckCO) = some scheckCO_d5 := by kernel_rfl
abbrev scheckCO_u21 : List (Q × Bool) := [(scheckCO_q0, true), (scheckCO_q1, true), (scheckCO_q2, true), (scheckCO_q3, false), (scheckCO_q4, true), (scheckCO_q5, true), (scheckCO_q6, true), (scheckCO_q7, true), (scheckCO_q8, true), (scheckCO_q9, true), (scheckCO_q10, true), (scheckCO_q11, true), (scheckCO_q12, true), (scheckCO_q13, true), (scheckCO_q14, false), (scheckCO_q15, false), (scheckCO_q21, true), (scheckCO_q16, true), (scheckCO_q22, true), (scheckCO_q18, true), (scheckCO_q19, true), (scheckCO_q20, true)]
theorem scheckCO_y21 : endC scheckCO [] 1000 (callC Tryd.prog (tellA scheckCO_u21) [] [] [] 3000 40 38 scheckCO) = some scheckCO_d6 := by kernel_rfl
abbrev scheckCO_u22 : List (Q × Bool) := [(scheckCO_q0, true), (scheckCO_q1, true), (scheckCO_q2, true), (scheckCO_q3, false), (scheckCO_q4, true), (scheckCO_q5, true), (scheckCO_q6, true), (scheckCO_q7, true), (scheckCO_q8, true), (scheckCO_q9, true), (scheckCO_q10, true), (scheckCO_q11, true), (scheckCO_q12, true), (scheckCO_q13, true), (scheckCO_q14, false), (scheckCO_q15, false), (scheckCO_q21, true), (scheckCO_q16, true), (scheckCO_q22, true), (scheckCO_q18, true), (scheckCO_q19, true), (scheckCO_q20, false)]
theorem scheckCO_y22 : endC scheckCO [] 1000 (callC Tryd.prog (tellA scheckCO_u22) [] [] [] 3000 40 38 scheckCO) = some scheckCO_d5 := by kernel_rfl
abbrev scheckCO_u23 : List (Q × Bool) := [(scheckCO_q0, true), (scheckCO_q1, true), (scheckCO_q2, true), (scheckCO_q3, false), (scheckCO_q4, true), (scheckCO_q5, true), (scheckCO_q6, true), (scheckCO_q7, true), (scheckCO_q8, true), (scheckCO_q9, true), (scheckCO_q10, true), (scheckCO_q11, true), (scheckCO_q12, true), (scheckCO_q13, true), (scheckCO_q14, false), (scheckCO_q15, false), (scheckCO_q21, true), (scheckCO_q16, true), (scheckCO_q22, true), (scheckCO_q18, true), (scheckCO_q19, false)]
theorem scheckCO_y23 : endC scheckCO [] 1000 (callC Tryd.prog (tellA scheckCO_u23) [] [] [] 3000 40 38 scheckCO) = some scheckCO_d5 := by kernel_rfl
abbrev scheckCO_u24 : List (Q × Bool) := [(scheckCO_q0, true), (scheckCO_q1, true), (scheckCO_q2, true), (scheckCO_q3, false), (scheckCO_q4, true), (scheckCO_q5, true), (scheckCO_q6, true), (scheckCO_q7, true), (scheckCO_q8, true), (scheckCO_q9, true), (scheckCO_q10, true), (scheckCO_q11, true), (scheckCO_q12, true), (scheckCO_q13, true), (scheckCO_q14, false), (scheckCO_q15, false), (scheckCO_q21, true), (scheckCO_q16, true), (scheckCO_q22, true), (scheckCO_q18, false)]
theorem scheckCO_y24 : endC scheckCO [] 1000 (callC Tryd.prog (tellA scheckCO_u24) [] [] [] 3000 40 38 scheckCO) = some scheckCO_d5 := by kernel_rfl
abbrev scheckCO_u25 : List (Q × Bool) := [(scheckCO_q0, true), (scheckCO_q1, true), (scheckCO_q2, true), (scheckCO_q3, false), (scheckCO_q4, true), (scheckCO_q5, true), (scheckCO_q6, true), (scheckCO_q7, true), (scheckCO_q8, true), (scheckCO_q9, true), (scheckCO_q10, true), (scheckCO_q11, true), (scheckCO_q12, true), (scheckCO_q13, true), (scheckCO_q14, false), (scheckCO_q15, false), (scheckCO_q21, false), (scheckCO_q23, true), (scheckCO_q16, false)]
theorem scheckCO_y25 : endC scheckCO [] 1000 (callC Tryd.prog (tellA scheckCO_u25) [] [] [] 3000 40 38 scheckCO) = some scheckCO_d5 := by kernel_rfl
abbrev scheckCO_u26 : List (Q × Bool) := [(scheckCO_q0, true), (scheckCO_q1, true), (scheckCO_q2, true), (scheckCO_q3, false), (scheckCO_q4, true), (scheckCO_q5, true), (scheckCO_q6, true), (scheckCO_q7, true), (scheckCO_q8, true), (scheckCO_q9, true), (scheckCO_q10, true), (scheckCO_q11, true), (scheckCO_q12, true), (scheckCO_q13, true), (scheckCO_q14, false), (scheckCO_q15, false), (scheckCO_q21, false), (scheckCO_q23, true), (scheckCO_q16, true), (scheckCO_q22, false)]
theorem scheckCO_y26 : endC scheckCO [] 1000 (callC Tryd.prog (tellA scheckCO_u26) [] [] [] 3000 40 38 scheckCO) = some scheckCO_d5 := by kernel_rfl
abbrev scheckCO_u27 : List (Q × Bool) := [(scheckCO_q0, true), (scheckCO_q1, true), (scheckCO_q2, true), (scheckCO_q3, false), (scheckCO_q4, true), (scheckCO_q5, true), (scheckCO_q6, true), (scheckCO_q7, true), (scheckCO_q8, true), (scheckCO_q9, true), (scheckCO_q10, true), (scheckCO_q11, true), (scheckCO_q12, true), (scheckCO_q13, true), (scheckCO_q14, false), (scheckCO_q15, false), (scheckCO_q21, false), (scheckCO_q23, true), (scheckCO_q16, true), (scheckCO_q22, true), (scheckCO_q24, false)]
theorem scheckCO_y27 : endC scheckCO [] 1000 (callC Tryd.prog (tellA scheckCO_u27) [] [] [] 3000 40 38 scheckCO) = some scheckCO_d5 := by kernel_rfl
abbrev scheckCO_u28 : List (Q × Bool) := [(scheckCO_q0, true), (scheckCO_q1, true), (scheckCO_q2, true), (scheckCO_q3, false), (scheckCO_q4, true), (scheckCO_q5, true), (scheckCO_q6, true), (scheckCO_q7, true), (scheckCO_q8, true), (scheckCO_q9, true), (scheckCO_q10, true), (scheckCO_q11, true), (scheckCO_q12, true), (scheckCO_q13, true), (scheckCO_q14, false), (scheckCO_q15, false), (scheckCO_q21, false), (scheckCO_q23, true), (scheckCO_q16, true), (scheckCO_q22, true), (scheckCO_q24, true)]
theorem scheckCO_y28 : endC scheckCO [] 1000 (callC Tryd.prog (tellA scheckCO_u28) [] [] [] 3000 40 38 scheckCO) = some scheckCO_d6 := by kernel_rfl
abbrev scheckCO_u29 : List (Q × Bool) := [(scheckCO_q0, true), (scheckCO_q1, true), (scheckCO_q2, true), (scheckCO_q3, false), (scheckCO_q4, true), (scheckCO_q5, true), (scheckCO_q6, true), (scheckCO_q7, true), (scheckCO_q8, true), (scheckCO_q9, true), (scheckCO_q10, true), (scheckCO_q11, true), (scheckCO_q12, true), (scheckCO_q13, true), (scheckCO_q14, false), (scheckCO_q15, false), (scheckCO_q21, false), (scheckCO_q23, false), (scheckCO_q25, true), (scheckCO_q16, false)]
theorem scheckCO_y29 : endC scheckCO [] 1000 (callC Tryd.prog (tellA scheckCO_u29) [] [] [] 3000 40 38 scheckCO) = some scheckCO_d5 := by kernel_rfl
abbrev scheckCO_u30 : List (Q × Bool) := [(scheckCO_q0, true), (scheckCO_q1, true), (scheckCO_q2, true), (scheckCO_q3, false), (scheckCO_q4, true), (scheckCO_q5, true), (scheckCO_q6, true), (scheckCO_q7, true), (scheckCO_q8, true), (scheckCO_q9, true), (scheckCO_q10, true), (scheckCO_q11, true), (scheckCO_q12, true), (scheckCO_q13, true), (scheckCO_q14, false), (scheckCO_q15, false), (scheckCO_q21, false), (scheckCO_q23, false), (scheckCO_q25, true), (scheckCO_q16, true), (scheckCO_q22, false)]
theorem scheckCO_y30 : endC scheckCO [] 1000 (callC Tryd.prog (tellA scheckCO_u30) [] [] [] 3000 40 38 scheckCO) = some scheckCO_d5 := by kernel_rfl
abbrev scheckCO_u31 : List (Q × Bool) := [(scheckCO_q0, true), (scheckCO_q1, true), (scheckCO_q2, true), (scheckCO_q3, false), (scheckCO_q4, true), (scheckCO_q5, true), (scheckCO_q6, true), (scheckCO_q7, true), (scheckCO_q8, true), (scheckCO_q9, true), (scheckCO_q10, true), (scheckCO_q11, true), (scheckCO_q12, true), (scheckCO_q13, true), (scheckCO_q14, false), (scheckCO_q15, false), (scheckCO_q21, false), (scheckCO_q23, false), (scheckCO_q25, true), (scheckCO_q16, true), (scheckCO_q22, true), (scheckCO_q18, true), (scheckCO_q20, true)]
theorem scheckCO_y31 : endC scheckCO [] 1000 (callC Tryd.prog (tellA scheckCO_u31) [] [] [] 3000 40 38 scheckCO) = some scheckCO_d6 := by kernel_rfl
abbrev scheckCO_u32 : List (Q × Bool) := [(scheckCO_q0, true), (scheckCO_q1, true), (scheckCO_q2, true), (scheckCO_q3, false), (scheckCO_q4, true), (scheckCO_q5, true), (scheckCO_q6, true), (scheckCO_q7, true), (scheckCO_q8, true), (scheckCO_q9, true), (scheckCO_q10, true), (scheckCO_q11, true), (scheckCO_q12, true), (scheckCO_q13, true), (scheckCO_q14, false), (scheckCO_q15, false), (scheckCO_q21, false), (scheckCO_q23, false), (scheckCO_q25, true), (scheckCO_q16, true), (scheckCO_q22, true), (scheckCO_q18, true), (scheckCO_q20, false)]
theorem scheckCO_y32 : endC scheckCO [] 1000 (callC Tryd.prog (tellA scheckCO_u32) [] [] [] 3000 40 38 scheckCO) = some scheckCO_d5 := by kernel_rfl
abbrev scheckCO_u33 : List (Q × Bool) := [(scheckCO_q0, true), (scheckCO_q1, true), (scheckCO_q2, true), (scheckCO_q3, false), (scheckCO_q4, true), (scheckCO_q5, true), (scheckCO_q6, true), (scheckCO_q7, true), (scheckCO_q8, true), (scheckCO_q9, true), (scheckCO_q10, true), (scheckCO_q11, true), (scheckCO_q12, true), (scheckCO_q13, true), (scheckCO_q14, false), (scheckCO_q15, false), (scheckCO_q21, false), (scheckCO_q23, false), (scheckCO_q25, true), (scheckCO_q16, true), (scheckCO_q22, true), (scheckCO_q18, false)]
theorem scheckCO_y33 : endC scheckCO [] 1000 (callC Tryd.prog (tellA scheckCO_u33) [] [] [] 3000 40 38 scheckCO) = some scheckCO_d5 := by kernel_rfl
abbrev scheckCO_u34 : List (Q × Bool) := [(scheckCO_q0, true), (scheckCO_q1, true), (scheckCO_q2, true), (scheckCO_q3, false), (scheckCO_q4, true), (scheckCO_q5, true), (scheckCO_q6, true), (scheckCO_q7, true), (scheckCO_q8, true), (scheckCO_q9, true), (scheckCO_q10, true), (scheckCO_q11, true), (scheckCO_q12, true), (scheckCO_q13, true), (scheckCO_q14, false), (scheckCO_q15, false), (scheckCO_q21, false), (scheckCO_q23, false), (scheckCO_q25, false), (scheckCO_q26, true), (scheckCO_q16, false)]
theorem scheckCO_y34 : endC scheckCO [] 1000 (callC Tryd.prog (tellA scheckCO_u34) [] [] [] 3000 40 38 scheckCO) = some scheckCO_d5 := by kernel_rfl
abbrev scheckCO_u35 : List (Q × Bool) := [(scheckCO_q0, true), (scheckCO_q1, true), (scheckCO_q2, true), (scheckCO_q3, false), (scheckCO_q4, true), (scheckCO_q5, true), (scheckCO_q6, true), (scheckCO_q7, true), (scheckCO_q8, true), (scheckCO_q9, true), (scheckCO_q10, true), (scheckCO_q11, true), (scheckCO_q12, true), (scheckCO_q13, true), (scheckCO_q14, false), (scheckCO_q15, false), (scheckCO_q21, false), (scheckCO_q23, false), (scheckCO_q25, false), (scheckCO_q26, true), (scheckCO_q16, true), (scheckCO_q18, true), (scheckCO_q19, true), (scheckCO_q20, true)]
theorem scheckCO_y35 : endC scheckCO [] 1000 (callC Tryd.prog (tellA scheckCO_u35) [] [] [] 3000 40 38 scheckCO) = some scheckCO_d6 := by kernel_rfl
abbrev scheckCO_u36 : List (Q × Bool) := [(scheckCO_q0, true), (scheckCO_q1, true), (scheckCO_q2, true), (scheckCO_q3, false), (scheckCO_q4, true), (scheckCO_q5, true), (scheckCO_q6, true), (scheckCO_q7, true), (scheckCO_q8, true), (scheckCO_q9, true), (scheckCO_q10, true), (scheckCO_q11, true), (scheckCO_q12, true), (scheckCO_q13, true), (scheckCO_q14, false), (scheckCO_q15, false), (scheckCO_q21, false), (scheckCO_q23, false), (scheckCO_q25, false), (scheckCO_q26, true), (scheckCO_q16, true), (scheckCO_q18, true), (scheckCO_q19, true), (scheckCO_q20, false)]
theorem scheckCO_y36 : endC scheckCO [] 1000 (callC Tryd.prog (tellA scheckCO_u36) [] [] [] 3000 40 38 scheckCO) = some scheckCO_d5 := by kernel_rfl
abbrev scheckCO_u37 : List (Q × Bool) := [(scheckCO_q0, true), (scheckCO_q1, true), (scheckCO_q2, true), (scheckCO_q3, false), (scheckCO_q4, true), (scheckCO_q5, true), (scheckCO_q6, true), (scheckCO_q7, true), (scheckCO_q8, true), (scheckCO_q9, true), (scheckCO_q10, true), (scheckCO_q11, true), (scheckCO_q12, true), (scheckCO_q13, true), (scheckCO_q14, false), (scheckCO_q15, false), (scheckCO_q21, false), (scheckCO_q23, false), (scheckCO_q25, false), (scheckCO_q26, true), (scheckCO_q16, true), (scheckCO_q18, true), (scheckCO_q19, false)]
theorem scheckCO_y37 : endC scheckCO [] 1000 (callC Tryd.prog (tellA scheckCO_u37) [] [] [] 3000 40 38 scheckCO) = some scheckCO_d5 := by kernel_rfl
abbrev scheckCO_u38 : List (Q × Bool) := [(scheckCO_q0, true), (scheckCO_q1, true), (scheckCO_q2, true), (scheckCO_q3, false), (scheckCO_q4, true), (scheckCO_q5, true), (scheckCO_q6, true), (scheckCO_q7, true), (scheckCO_q8, true), (scheckCO_q9, true), (scheckCO_q10, true), (scheckCO_q11, true), (scheckCO_q12, true), (scheckCO_q13, true), (scheckCO_q14, false), (scheckCO_q15, false), (scheckCO_q21, false), (scheckCO_q23, false), (scheckCO_q25, false), (scheckCO_q26, true), (scheckCO_q16, true), (scheckCO_q18, false)]
theorem scheckCO_y38 : endC scheckCO [] 1000 (callC Tryd.prog (tellA scheckCO_u38) [] [] [] 3000 40 38 scheckCO) = some scheckCO_d5 := by kernel_rfl
set_option maxHeartbeats 8000000 in
theorem scheckCO_holds : CHolds Tryd.prog 38 scheckCO F := by
  refine cholds_of sound (tableNil _ _) (specsNil _ _) (oversNil _ _) (fuel := 3000) (depth := 40) (by kernel_rfl) fun d hp hR hA => ?_
  have hp := allTold'_iff.2 hp
  simp only [scheckCO, allTold', dutiesTold, factsA, factsC, factsP, factsR, AV.facts, RW.facts, inK, and_true, Q.holds', E.i, E.s, E.n, D.nat, E.den, BO.den, UO.den, TO.den, D.toInt_int, D.toList_list, D.ints_ofInts, i64min, i64max, u8min, u8max, u16min, u16max, u32min, u32max, u64min, u64max, i32min, i32max, Om.sub, selI, ints_app, ints_cut, ints_upd, ints_rep, ints_splice, ints_seg, len_ints] at hp hR hA
  cases h0 : Q.val (OmD d) scheckCO_q0
  · have p0 : ¬ ((d 10).toInt = (21323)) := of_decide_eq_false h0
    refine ⟨tellA scheckCO_u0, _, _, _, tellA_ok (told_cons h0 told_nil), scheckCO_y0, dutiesTold_ok ?_⟩
    refine ⟨?_, trivial⟩
    show (211 : Int) = sayI (d 10).toInt (d 11).toInt (d 0).toInt (d 1).toInt (d 2).toInt (d 3).toInt (d 4).toInt (d 12).toInt (d 6).toInt
    unfold sayI saysP rangeP
    repeat' split
    all_goals omega
  have p0 : (d 10).toInt = (21323) := of_decide_eq_true h0
  cases h1 : Q.val (OmD d) scheckCO_q1
  · have p1 : ¬ ((d 11).toInt = (1)) := of_decide_eq_false h1
    refine ⟨tellA scheckCO_u1, _, _, _, tellA_ok (told_cons h0 (told_cons h1 told_nil)), scheckCO_y1, dutiesTold_ok ?_⟩
    refine ⟨?_, trivial⟩
    show (212 : Int) = sayI (d 10).toInt (d 11).toInt (d 0).toInt (d 1).toInt (d 2).toInt (d 3).toInt (d 4).toInt (d 12).toInt (d 6).toInt
    unfold sayI saysP rangeP
    repeat' split
    all_goals omega
  have p1 : (d 11).toInt = (1) := of_decide_eq_true h1
  cases h2 : Q.val (OmD d) scheckCO_q2
  · have p2 : ¬ ((1) ≤ (d 0).toInt) := of_decide_eq_false h2
    refine ⟨tellA scheckCO_u2, _, _, _, tellA_ok (told_cons h0 (told_cons h1 (told_cons h2 told_nil))), scheckCO_y2, dutiesTold_ok ?_⟩
    refine ⟨?_, trivial⟩
    show (213 : Int) = sayI (d 10).toInt (d 11).toInt (d 0).toInt (d 1).toInt (d 2).toInt (d 3).toInt (d 4).toInt (d 12).toInt (d 6).toInt
    unfold sayI saysP rangeP
    repeat' split
    all_goals omega
  have p2 : (1) ≤ (d 0).toInt := of_decide_eq_true h2
  cases h3 : Q.val (OmD d) scheckCO_q3
  rotate_left
  · have p3 : (6) ≤ (d 0).toInt := of_decide_eq_true h3
    refine ⟨tellA scheckCO_u3, _, _, _, tellA_ok (by (repeat refine told_cons (by assumption) ?_); exact told_nil), scheckCO_y3, dutiesTold_ok ?_⟩
    refine ⟨?_, trivial⟩
    show (213 : Int) = sayI (d 10).toInt (d 11).toInt (d 0).toInt (d 1).toInt (d 2).toInt (d 3).toInt (d 4).toInt (d 12).toInt (d 6).toInt
    unfold sayI saysP rangeP
    repeat' split
    all_goals omega
  have p3 : ¬ ((6) ≤ (d 0).toInt) := of_decide_eq_false h3
  cases h4 : Q.val (OmD d) scheckCO_q4
  · have p4 : ¬ ((0) ≤ (d 1).toInt) := of_decide_eq_false h4
    refine ⟨tellA scheckCO_u5, _, _, _, tellA_ok (by (repeat refine told_cons (by assumption) ?_); exact told_nil), scheckCO_y5, dutiesTold_ok ?_⟩
    refine ⟨?_, trivial⟩
    show (5 : Int) = sayI (d 10).toInt (d 11).toInt (d 0).toInt (d 1).toInt (d 2).toInt (d 3).toInt (d 4).toInt (d 12).toInt (d 6).toInt
    unfold sayI saysP rangeP
    repeat' split
    all_goals omega
  have p4 : (0) ≤ (d 1).toInt := of_decide_eq_true h4
  cases h5 : Q.val (OmD d) scheckCO_q5
  · have p5 : ¬ ((d 1).toInt ≤ (2147483647)) := of_decide_eq_false h5
    refine ⟨tellA scheckCO_u4, _, _, _, tellA_ok (by (repeat refine told_cons (by assumption) ?_); exact told_nil), scheckCO_y4, dutiesTold_ok ?_⟩
    refine ⟨?_, trivial⟩
    show (5 : Int) = sayI (d 10).toInt (d 11).toInt (d 0).toInt (d 1).toInt (d 2).toInt (d 3).toInt (d 4).toInt (d 12).toInt (d 6).toInt
    unfold sayI saysP rangeP
    repeat' split
    all_goals omega
  have p5 : (d 1).toInt ≤ (2147483647) := of_decide_eq_true h5
  cases h6 : Q.val (OmD d) scheckCO_q6
  · have p6 : ¬ ((0) ≤ (d 2).toInt) := of_decide_eq_false h6
    refine ⟨tellA scheckCO_u7, _, _, _, tellA_ok (by (repeat refine told_cons (by assumption) ?_); exact told_nil), scheckCO_y7, dutiesTold_ok ?_⟩
    refine ⟨?_, trivial⟩
    show (5 : Int) = sayI (d 10).toInt (d 11).toInt (d 0).toInt (d 1).toInt (d 2).toInt (d 3).toInt (d 4).toInt (d 12).toInt (d 6).toInt
    unfold sayI saysP rangeP
    repeat' split
    all_goals omega
  have p6 : (0) ≤ (d 2).toInt := of_decide_eq_true h6
  cases h7 : Q.val (OmD d) scheckCO_q7
  · have p7 : ¬ ((d 2).toInt ≤ (2147483647)) := of_decide_eq_false h7
    refine ⟨tellA scheckCO_u6, _, _, _, tellA_ok (by (repeat refine told_cons (by assumption) ?_); exact told_nil), scheckCO_y6, dutiesTold_ok ?_⟩
    refine ⟨?_, trivial⟩
    show (5 : Int) = sayI (d 10).toInt (d 11).toInt (d 0).toInt (d 1).toInt (d 2).toInt (d 3).toInt (d 4).toInt (d 12).toInt (d 6).toInt
    unfold sayI saysP rangeP
    repeat' split
    all_goals omega
  have p7 : (d 2).toInt ≤ (2147483647) := of_decide_eq_true h7
  cases h8 : Q.val (OmD d) scheckCO_q8
  · have p8 : ¬ ((0) ≤ (d 3).toInt) := of_decide_eq_false h8
    refine ⟨tellA scheckCO_u9, _, _, _, tellA_ok (by (repeat refine told_cons (by assumption) ?_); exact told_nil), scheckCO_y9, dutiesTold_ok ?_⟩
    refine ⟨?_, trivial⟩
    show (5 : Int) = sayI (d 10).toInt (d 11).toInt (d 0).toInt (d 1).toInt (d 2).toInt (d 3).toInt (d 4).toInt (d 12).toInt (d 6).toInt
    unfold sayI saysP rangeP
    repeat' split
    all_goals omega
  have p8 : (0) ≤ (d 3).toInt := of_decide_eq_true h8
  cases h9 : Q.val (OmD d) scheckCO_q9
  · have p9 : ¬ ((d 3).toInt ≤ (2147483647)) := of_decide_eq_false h9
    refine ⟨tellA scheckCO_u8, _, _, _, tellA_ok (by (repeat refine told_cons (by assumption) ?_); exact told_nil), scheckCO_y8, dutiesTold_ok ?_⟩
    refine ⟨?_, trivial⟩
    show (5 : Int) = sayI (d 10).toInt (d 11).toInt (d 0).toInt (d 1).toInt (d 2).toInt (d 3).toInt (d 4).toInt (d 12).toInt (d 6).toInt
    unfold sayI saysP rangeP
    repeat' split
    all_goals omega
  have p9 : (d 3).toInt ≤ (2147483647) := of_decide_eq_true h9
  cases h10 : Q.val (OmD d) scheckCO_q10
  · have p10 : ¬ ((0) ≤ (d 4).toInt) := of_decide_eq_false h10
    refine ⟨tellA scheckCO_u11, _, _, _, tellA_ok (by (repeat refine told_cons (by assumption) ?_); exact told_nil), scheckCO_y11, dutiesTold_ok ?_⟩
    refine ⟨?_, trivial⟩
    show (5 : Int) = sayI (d 10).toInt (d 11).toInt (d 0).toInt (d 1).toInt (d 2).toInt (d 3).toInt (d 4).toInt (d 12).toInt (d 6).toInt
    unfold sayI saysP rangeP
    repeat' split
    all_goals omega
  have p10 : (0) ≤ (d 4).toInt := of_decide_eq_true h10
  cases h11 : Q.val (OmD d) scheckCO_q11
  · have p11 : ¬ ((d 4).toInt ≤ (2147483647)) := of_decide_eq_false h11
    refine ⟨tellA scheckCO_u10, _, _, _, tellA_ok (by (repeat refine told_cons (by assumption) ?_); exact told_nil), scheckCO_y10, dutiesTold_ok ?_⟩
    refine ⟨?_, trivial⟩
    show (5 : Int) = sayI (d 10).toInt (d 11).toInt (d 0).toInt (d 1).toInt (d 2).toInt (d 3).toInt (d 4).toInt (d 12).toInt (d 6).toInt
    unfold sayI saysP rangeP
    repeat' split
    all_goals omega
  have p11 : (d 4).toInt ≤ (2147483647) := of_decide_eq_true h11
  have p12 : -9223372036854775808 ≤ (d 6).toInt ∧ (d 6).toInt ≤ 9223372036854775807 := by omega
  have h12 : Q.val (OmD d) scheckCO_q12 = true := decide_eq_true p12
  cases h13 : Q.val (OmD d) scheckCO_q13
  · have p13 : ¬ ((d 12).toInt = (d 6).toInt) := of_decide_eq_false h13
    refine ⟨tellA scheckCO_u12, _, _, _, tellA_ok (by (repeat refine told_cons (by assumption) ?_); exact told_nil), scheckCO_y12, dutiesTold_ok ?_⟩
    refine ⟨?_, trivial⟩
    show (214 : Int) = sayI (d 10).toInt (d 11).toInt (d 0).toInt (d 1).toInt (d 2).toInt (d 3).toInt (d 4).toInt (d 12).toInt (d 6).toInt
    unfold sayI saysP rangeP
    repeat' split
    all_goals omega
  have p13 : (d 12).toInt = (d 6).toInt := of_decide_eq_true h13
  have p14 : ¬ ((d 0).toInt = (0)) := by omega
  have h14 : Q.val (OmD d) scheckCO_q14 = false := decide_eq_false p14
  cases h15 : Q.val (OmD d) scheckCO_q15
  rotate_left
  · have p15 : (d 0).toInt = (1) := of_decide_eq_true h15
    cases h16 : Q.val (OmD d) scheckCO_q16
    · have p16 : ¬ ((1) ≤ (d 1).toInt) := of_decide_eq_false h16
      refine ⟨tellA scheckCO_u13, _, _, _, tellA_ok (by (repeat refine told_cons (by assumption) ?_); exact told_nil), scheckCO_y13, dutiesTold_ok ?_⟩
      refine ⟨?_, trivial⟩
      show (2 : Int) = sayI (d 10).toInt (d 11).toInt (d 0).toInt (d 1).toInt (d 2).toInt (d 3).toInt (d 4).toInt (d 12).toInt (d 6).toInt
      unfold sayI saysP rangeP
      repeat' split
      all_goals omega
    have p16 : (1) ≤ (d 1).toInt := of_decide_eq_true h16
    cases h17 : Q.val (OmD d) scheckCO_q17
    · have p17 : ¬ ((d 2).toInt = (0)) := of_decide_eq_false h17
      refine ⟨tellA scheckCO_u18, _, _, _, tellA_ok (by (repeat refine told_cons (by assumption) ?_); exact told_nil), scheckCO_y18, dutiesTold_ok ?_⟩
      refine ⟨?_, trivial⟩
      show (2 : Int) = sayI (d 10).toInt (d 11).toInt (d 0).toInt (d 1).toInt (d 2).toInt (d 3).toInt (d 4).toInt (d 12).toInt (d 6).toInt
      unfold sayI saysP rangeP
      repeat' split
      all_goals omega
    have p17 : (d 2).toInt = (0) := of_decide_eq_true h17
    cases h18 : Q.val (OmD d) scheckCO_q18
    · have p18 : ¬ ((d 3).toInt = (0)) := of_decide_eq_false h18
      refine ⟨tellA scheckCO_u17, _, _, _, tellA_ok (by (repeat refine told_cons (by assumption) ?_); exact told_nil), scheckCO_y17, dutiesTold_ok ?_⟩
      refine ⟨?_, trivial⟩
      show (2 : Int) = sayI (d 10).toInt (d 11).toInt (d 0).toInt (d 1).toInt (d 2).toInt (d 3).toInt (d 4).toInt (d 12).toInt (d 6).toInt
      unfold sayI saysP rangeP
      repeat' split
      all_goals omega
    have p18 : (d 3).toInt = (0) := of_decide_eq_true h18
    cases h19 : Q.val (OmD d) scheckCO_q19
    · have p19 : ¬ ((d 4).toInt = (0)) := of_decide_eq_false h19
      refine ⟨tellA scheckCO_u16, _, _, _, tellA_ok (by (repeat refine told_cons (by assumption) ?_); exact told_nil), scheckCO_y16, dutiesTold_ok ?_⟩
      refine ⟨?_, trivial⟩
      show (2 : Int) = sayI (d 10).toInt (d 11).toInt (d 0).toInt (d 1).toInt (d 2).toInt (d 3).toInt (d 4).toInt (d 12).toInt (d 6).toInt
      unfold sayI saysP rangeP
      repeat' split
      all_goals omega
    have p19 : (d 4).toInt = (0) := of_decide_eq_true h19
    cases h20 : Q.val (OmD d) scheckCO_q20
    · have p20 : ¬ ((d 6).toInt = (0)) := of_decide_eq_false h20
      refine ⟨tellA scheckCO_u15, _, _, _, tellA_ok (by (repeat refine told_cons (by assumption) ?_); exact told_nil), scheckCO_y15, dutiesTold_ok ?_⟩
      refine ⟨?_, trivial⟩
      show (2 : Int) = sayI (d 10).toInt (d 11).toInt (d 0).toInt (d 1).toInt (d 2).toInt (d 3).toInt (d 4).toInt (d 12).toInt (d 6).toInt
      unfold sayI saysP rangeP
      repeat' split
      all_goals omega
    have p20 : (d 6).toInt = (0) := of_decide_eq_true h20
    refine ⟨tellA scheckCO_u14, _, _, _, tellA_ok (by (repeat refine told_cons (by assumption) ?_); exact told_nil), scheckCO_y14, dutiesTold_ok ?_⟩
    refine ⟨?_, trivial⟩
    show (0 : Int) = sayI (d 10).toInt (d 11).toInt (d 0).toInt (d 1).toInt (d 2).toInt (d 3).toInt (d 4).toInt (d 12).toInt (d 6).toInt
    unfold sayI saysP rangeP
    repeat' split
    all_goals omega
  have p15 : ¬ ((d 0).toInt = (1)) := of_decide_eq_false h15
  cases h16 : Q.val (OmD d) scheckCO_q21
  rotate_left
  · have p16 : (d 0).toInt = (2) := of_decide_eq_true h16
    cases h17 : Q.val (OmD d) scheckCO_q16
    · have p17 : ¬ ((1) ≤ (d 1).toInt) := of_decide_eq_false h17
      refine ⟨tellA scheckCO_u19, _, _, _, tellA_ok (by (repeat refine told_cons (by assumption) ?_); exact told_nil), scheckCO_y19, dutiesTold_ok ?_⟩
      refine ⟨?_, trivial⟩
      show (2 : Int) = sayI (d 10).toInt (d 11).toInt (d 0).toInt (d 1).toInt (d 2).toInt (d 3).toInt (d 4).toInt (d 12).toInt (d 6).toInt
      unfold sayI saysP rangeP
      repeat' split
      all_goals omega
    have p17 : (1) ≤ (d 1).toInt := of_decide_eq_true h17
    cases h18 : Q.val (OmD d) scheckCO_q22
    · have p18 : ¬ ((1) ≤ (d 2).toInt) := of_decide_eq_false h18
      refine ⟨tellA scheckCO_u20, _, _, _, tellA_ok (by (repeat refine told_cons (by assumption) ?_); exact told_nil), scheckCO_y20, dutiesTold_ok ?_⟩
      refine ⟨?_, trivial⟩
      show (2 : Int) = sayI (d 10).toInt (d 11).toInt (d 0).toInt (d 1).toInt (d 2).toInt (d 3).toInt (d 4).toInt (d 12).toInt (d 6).toInt
      unfold sayI saysP rangeP
      repeat' split
      all_goals omega
    have p18 : (1) ≤ (d 2).toInt := of_decide_eq_true h18
    cases h19 : Q.val (OmD d) scheckCO_q18
    · have p19 : ¬ ((d 3).toInt = (0)) := of_decide_eq_false h19
      refine ⟨tellA scheckCO_u24, _, _, _, tellA_ok (by (repeat refine told_cons (by assumption) ?_); exact told_nil), scheckCO_y24, dutiesTold_ok ?_⟩
      refine ⟨?_, trivial⟩
      show (2 : Int) = sayI (d 10).toInt (d 11).toInt (d 0).toInt (d 1).toInt (d 2).toInt (d 3).toInt (d 4).toInt (d 12).toInt (d 6).toInt
      unfold sayI saysP rangeP
      repeat' split
      all_goals omega
    have p19 : (d 3).toInt = (0) := of_decide_eq_true h19
    cases h20 : Q.val (OmD d) scheckCO_q19
    · have p20 : ¬ ((d 4).toInt = (0)) := of_decide_eq_false h20
      refine ⟨tellA scheckCO_u23, _, _, _, tellA_ok (by (repeat refine told_cons (by assumption) ?_); exact told_nil), scheckCO_y23, dutiesTold_ok ?_⟩
      refine ⟨?_, trivial⟩
      show (2 : Int) = sayI (d 10).toInt (d 11).toInt (d 0).toInt (d 1).toInt (d 2).toInt (d 3).toInt (d 4).toInt (d 12).toInt (d 6).toInt
      unfold sayI saysP rangeP
      repeat' split
      all_goals omega
    have p20 : (d 4).toInt = (0) := of_decide_eq_true h20
    cases h21 : Q.val (OmD d) scheckCO_q20
    · have p21 : ¬ ((d 6).toInt = (0)) := of_decide_eq_false h21
      refine ⟨tellA scheckCO_u22, _, _, _, tellA_ok (by (repeat refine told_cons (by assumption) ?_); exact told_nil), scheckCO_y22, dutiesTold_ok ?_⟩
      refine ⟨?_, trivial⟩
      show (2 : Int) = sayI (d 10).toInt (d 11).toInt (d 0).toInt (d 1).toInt (d 2).toInt (d 3).toInt (d 4).toInt (d 12).toInt (d 6).toInt
      unfold sayI saysP rangeP
      repeat' split
      all_goals omega
    have p21 : (d 6).toInt = (0) := of_decide_eq_true h21
    refine ⟨tellA scheckCO_u21, _, _, _, tellA_ok (by (repeat refine told_cons (by assumption) ?_); exact told_nil), scheckCO_y21, dutiesTold_ok ?_⟩
    refine ⟨?_, trivial⟩
    show (0 : Int) = sayI (d 10).toInt (d 11).toInt (d 0).toInt (d 1).toInt (d 2).toInt (d 3).toInt (d 4).toInt (d 12).toInt (d 6).toInt
    unfold sayI saysP rangeP
    repeat' split
    all_goals omega
  have p16 : ¬ ((d 0).toInt = (2)) := of_decide_eq_false h16
  cases h17 : Q.val (OmD d) scheckCO_q23
  rotate_left
  · have p17 : (d 0).toInt = (3) := of_decide_eq_true h17
    cases h18 : Q.val (OmD d) scheckCO_q16
    · have p18 : ¬ ((1) ≤ (d 1).toInt) := of_decide_eq_false h18
      refine ⟨tellA scheckCO_u25, _, _, _, tellA_ok (by (repeat refine told_cons (by assumption) ?_); exact told_nil), scheckCO_y25, dutiesTold_ok ?_⟩
      refine ⟨?_, trivial⟩
      show (2 : Int) = sayI (d 10).toInt (d 11).toInt (d 0).toInt (d 1).toInt (d 2).toInt (d 3).toInt (d 4).toInt (d 12).toInt (d 6).toInt
      unfold sayI saysP rangeP
      repeat' split
      all_goals omega
    have p18 : (1) ≤ (d 1).toInt := of_decide_eq_true h18
    cases h19 : Q.val (OmD d) scheckCO_q22
    · have p19 : ¬ ((1) ≤ (d 2).toInt) := of_decide_eq_false h19
      refine ⟨tellA scheckCO_u26, _, _, _, tellA_ok (by (repeat refine told_cons (by assumption) ?_); exact told_nil), scheckCO_y26, dutiesTold_ok ?_⟩
      refine ⟨?_, trivial⟩
      show (2 : Int) = sayI (d 10).toInt (d 11).toInt (d 0).toInt (d 1).toInt (d 2).toInt (d 3).toInt (d 4).toInt (d 12).toInt (d 6).toInt
      unfold sayI saysP rangeP
      repeat' split
      all_goals omega
    have p19 : (1) ≤ (d 2).toInt := of_decide_eq_true h19
    cases h20 : Q.val (OmD d) scheckCO_q24
    · have p20 : ¬ ((1) ≤ (d 3).toInt) := of_decide_eq_false h20
      refine ⟨tellA scheckCO_u27, _, _, _, tellA_ok (by (repeat refine told_cons (by assumption) ?_); exact told_nil), scheckCO_y27, dutiesTold_ok ?_⟩
      refine ⟨?_, trivial⟩
      show (2 : Int) = sayI (d 10).toInt (d 11).toInt (d 0).toInt (d 1).toInt (d 2).toInt (d 3).toInt (d 4).toInt (d 12).toInt (d 6).toInt
      unfold sayI saysP rangeP
      repeat' split
      all_goals omega
    have p20 : (1) ≤ (d 3).toInt := of_decide_eq_true h20
    refine ⟨tellA scheckCO_u28, _, _, _, tellA_ok (by (repeat refine told_cons (by assumption) ?_); exact told_nil), scheckCO_y28, dutiesTold_ok ?_⟩
    refine ⟨?_, trivial⟩
    show (0 : Int) = sayI (d 10).toInt (d 11).toInt (d 0).toInt (d 1).toInt (d 2).toInt (d 3).toInt (d 4).toInt (d 12).toInt (d 6).toInt
    unfold sayI saysP rangeP
    repeat' split
    all_goals omega
  have p17 : ¬ ((d 0).toInt = (3)) := of_decide_eq_false h17
  cases h18 : Q.val (OmD d) scheckCO_q25
  · have p18 : ¬ ((d 0).toInt = (4)) := of_decide_eq_false h18
    have p19 : (d 0).toInt = (5) := by omega
    have h19 : Q.val (OmD d) scheckCO_q26 = true := decide_eq_true p19
    cases h20 : Q.val (OmD d) scheckCO_q16
    · have p20 : ¬ ((1) ≤ (d 1).toInt) := of_decide_eq_false h20
      refine ⟨tellA scheckCO_u34, _, _, _, tellA_ok (by (repeat refine told_cons (by assumption) ?_); exact told_nil), scheckCO_y34, dutiesTold_ok ?_⟩
      refine ⟨?_, trivial⟩
      show (2 : Int) = sayI (d 10).toInt (d 11).toInt (d 0).toInt (d 1).toInt (d 2).toInt (d 3).toInt (d 4).toInt (d 12).toInt (d 6).toInt
      unfold sayI saysP rangeP
      repeat' split
      all_goals omega
    have p20 : (1) ≤ (d 1).toInt := of_decide_eq_true h20
    cases h21 : Q.val (OmD d) scheckCO_q18
    · have p21 : ¬ ((d 3).toInt = (0)) := of_decide_eq_false h21
      refine ⟨tellA scheckCO_u38, _, _, _, tellA_ok (by (repeat refine told_cons (by assumption) ?_); exact told_nil), scheckCO_y38, dutiesTold_ok ?_⟩
      refine ⟨?_, trivial⟩
      show (2 : Int) = sayI (d 10).toInt (d 11).toInt (d 0).toInt (d 1).toInt (d 2).toInt (d 3).toInt (d 4).toInt (d 12).toInt (d 6).toInt
      unfold sayI saysP rangeP
      repeat' split
      all_goals omega
    have p21 : (d 3).toInt = (0) := of_decide_eq_true h21
    cases h22 : Q.val (OmD d) scheckCO_q19
    · have p22 : ¬ ((d 4).toInt = (0)) := of_decide_eq_false h22
      refine ⟨tellA scheckCO_u37, _, _, _, tellA_ok (by (repeat refine told_cons (by assumption) ?_); exact told_nil), scheckCO_y37, dutiesTold_ok ?_⟩
      refine ⟨?_, trivial⟩
      show (2 : Int) = sayI (d 10).toInt (d 11).toInt (d 0).toInt (d 1).toInt (d 2).toInt (d 3).toInt (d 4).toInt (d 12).toInt (d 6).toInt
      unfold sayI saysP rangeP
      repeat' split
      all_goals omega
    have p22 : (d 4).toInt = (0) := of_decide_eq_true h22
    cases h23 : Q.val (OmD d) scheckCO_q20
    · have p23 : ¬ ((d 6).toInt = (0)) := of_decide_eq_false h23
      refine ⟨tellA scheckCO_u36, _, _, _, tellA_ok (by (repeat refine told_cons (by assumption) ?_); exact told_nil), scheckCO_y36, dutiesTold_ok ?_⟩
      refine ⟨?_, trivial⟩
      show (2 : Int) = sayI (d 10).toInt (d 11).toInt (d 0).toInt (d 1).toInt (d 2).toInt (d 3).toInt (d 4).toInt (d 12).toInt (d 6).toInt
      unfold sayI saysP rangeP
      repeat' split
      all_goals omega
    have p23 : (d 6).toInt = (0) := of_decide_eq_true h23
    refine ⟨tellA scheckCO_u35, _, _, _, tellA_ok (by (repeat refine told_cons (by assumption) ?_); exact told_nil), scheckCO_y35, dutiesTold_ok ?_⟩
    refine ⟨?_, trivial⟩
    show (0 : Int) = sayI (d 10).toInt (d 11).toInt (d 0).toInt (d 1).toInt (d 2).toInt (d 3).toInt (d 4).toInt (d 12).toInt (d 6).toInt
    unfold sayI saysP rangeP
    repeat' split
    all_goals omega
  have p18 : (d 0).toInt = (4) := of_decide_eq_true h18
  cases h19 : Q.val (OmD d) scheckCO_q16
  · have p19 : ¬ ((1) ≤ (d 1).toInt) := of_decide_eq_false h19
    refine ⟨tellA scheckCO_u29, _, _, _, tellA_ok (by (repeat refine told_cons (by assumption) ?_); exact told_nil), scheckCO_y29, dutiesTold_ok ?_⟩
    refine ⟨?_, trivial⟩
    show (2 : Int) = sayI (d 10).toInt (d 11).toInt (d 0).toInt (d 1).toInt (d 2).toInt (d 3).toInt (d 4).toInt (d 12).toInt (d 6).toInt
    unfold sayI saysP rangeP
    repeat' split
    all_goals omega
  have p19 : (1) ≤ (d 1).toInt := of_decide_eq_true h19
  cases h20 : Q.val (OmD d) scheckCO_q22
  · have p20 : ¬ ((1) ≤ (d 2).toInt) := of_decide_eq_false h20
    refine ⟨tellA scheckCO_u30, _, _, _, tellA_ok (by (repeat refine told_cons (by assumption) ?_); exact told_nil), scheckCO_y30, dutiesTold_ok ?_⟩
    refine ⟨?_, trivial⟩
    show (2 : Int) = sayI (d 10).toInt (d 11).toInt (d 0).toInt (d 1).toInt (d 2).toInt (d 3).toInt (d 4).toInt (d 12).toInt (d 6).toInt
    unfold sayI saysP rangeP
    repeat' split
    all_goals omega
  have p20 : (1) ≤ (d 2).toInt := of_decide_eq_true h20
  cases h21 : Q.val (OmD d) scheckCO_q18
  · have p21 : ¬ ((d 3).toInt = (0)) := of_decide_eq_false h21
    refine ⟨tellA scheckCO_u33, _, _, _, tellA_ok (by (repeat refine told_cons (by assumption) ?_); exact told_nil), scheckCO_y33, dutiesTold_ok ?_⟩
    refine ⟨?_, trivial⟩
    show (2 : Int) = sayI (d 10).toInt (d 11).toInt (d 0).toInt (d 1).toInt (d 2).toInt (d 3).toInt (d 4).toInt (d 12).toInt (d 6).toInt
    unfold sayI saysP rangeP
    repeat' split
    all_goals omega
  have p21 : (d 3).toInt = (0) := of_decide_eq_true h21
  cases h22 : Q.val (OmD d) scheckCO_q20
  · have p22 : ¬ ((d 6).toInt = (0)) := of_decide_eq_false h22
    refine ⟨tellA scheckCO_u32, _, _, _, tellA_ok (by (repeat refine told_cons (by assumption) ?_); exact told_nil), scheckCO_y32, dutiesTold_ok ?_⟩
    refine ⟨?_, trivial⟩
    show (2 : Int) = sayI (d 10).toInt (d 11).toInt (d 0).toInt (d 1).toInt (d 2).toInt (d 3).toInt (d 4).toInt (d 12).toInt (d 6).toInt
    unfold sayI saysP rangeP
    repeat' split
    all_goals omega
  have p22 : (d 6).toInt = (0) := of_decide_eq_true h22
  refine ⟨tellA scheckCO_u31, _, _, _, tellA_ok (by (repeat refine told_cons (by assumption) ?_); exact told_nil), scheckCO_y31, dutiesTold_ok ?_⟩
  refine ⟨?_, trivial⟩
  show (0 : Int) = sayI (d 10).toInt (d 11).toInt (d 0).toInt (d 1).toInt (d 2).toInt (d 3).toInt (d 4).toInt (d 12).toInt (d 6).toInt
  unfold sayI saysP rangeP
  repeat' split
  all_goals omega

end Go.Proofs.YtlmcjfcfmcdcpaaDoor.Fc
