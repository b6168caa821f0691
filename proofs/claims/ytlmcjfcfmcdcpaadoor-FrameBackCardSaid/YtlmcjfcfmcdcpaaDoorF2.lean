/-
  Contracts of this seat: what loops and calls leave, for all inputs. No condition.
-/
import Derived.Test.YtlmcjfcfmcdcpaaDoorSycp
import Derived.Test.YtlmcjfcfmcdcpaaDoorCo
import Derived.Test.YtlmcjfcfmcdcpaaDoorGa
set_option linter.unusedSimpArgs false
set_option linter.unusedVariables false
namespace Go.Proofs.YtlmcjfcfmcdcpaaDoor.F2
open Go.RowKit Go.Ev Go.Proofs.YtlmcjfcfmcdcpaaDoor.Co

open Go.Proofs.YtlmcjfcfmcdcpaaDoor.Ga

def chkCO : CSpec := { args := [.agg [.sint .i64 (.var 0), .sint .i64 (.var 1), .sint .i64 (.var 2), .sint .i64 (.var 3), .sint .i64 (.var 4), .sslice 3 (.var 5) (.var 6) (.var 7) true]], next := 2, rows := [(3, .eseq ⟨.u8, .var 8, .var 9⟩), (0, .ext cellsG)], pre := [(.le (.int 0) (.var 6), true), (.le (.var 6) (.int 1000000), true)], res := .sint .i64 (.fn 11 (argsE [.var 0, .var 1, .var 2, .var 3, .var 4, .var 6])), frows := [], same := [] }
abbrev OmD (d : Nat → D) : Om := ⟨fun _ => .bool false, d, F⟩
abbrev chkCO_q0 : Q := (.le (.int 1) (.var 0))
abbrev chkCO_q1 : Q := (.le (.int 6) (.var 0))
abbrev chkCO_q2 : Q := (.le (.int 0) (.var 1))
abbrev chkCO_q3 : Q := (.le (.var 1) (.int 2147483647))
abbrev chkCO_q4 : Q := (.le (.int 0) (.var 2))
abbrev chkCO_q5 : Q := (.le (.var 2) (.int 2147483647))
abbrev chkCO_q6 : Q := (.le (.int 0) (.var 3))
abbrev chkCO_q7 : Q := (.le (.var 3) (.int 2147483647))
abbrev chkCO_q8 : Q := (.le (.int 0) (.var 4))
abbrev chkCO_q9 : Q := (.le (.var 4) (.int 2147483647))
abbrev chkCO_q10 : Q := (.fit .i64 (.var 6))
abbrev chkCO_q11 : Q := (.le (.var 6) (.int 1400))
abbrev chkCO_q12 : Q := (.eq (.var 0) (.int 0))
abbrev chkCO_q13 : Q := (.eq (.var 0) (.int 1))
abbrev chkCO_q14 : Q := (.le (.int 1) (.var 1))
abbrev chkCO_q15 : Q := (.eq (.var 2) (.int 0))
abbrev chkCO_q16 : Q := (.eq (.var 3) (.int 0))
abbrev chkCO_q17 : Q := (.eq (.var 4) (.int 0))
abbrev chkCO_q18 : Q := (.eq (.var 6) (.int 0))
abbrev chkCO_q19 : Q := (.eq (.var 0) (.int 2))
abbrev chkCO_q20 : Q := (.le (.int 1) (.var 2))
abbrev chkCO_q21 : Q := (.eq (.var 0) (.int 3))
abbrev chkCO_q22 : Q := (.le (.int 1) (.var 3))
abbrev chkCO_q23 : Q := (.eq (.var 0) (.int 4))
abbrev chkCO_q24 : Q := (.eq (.var 0) (.int 5))
abbrev chkCO_u0 : List (Q × Bool) := [(chkCO_q0, false)]
def chkCO_d0 : List Duty := [(true, (.int 213), (.fn 11 (.bi .pair (.var 0) (.bi .pair (.var 1) (.bi .pair (.var 2) (.bi .pair (.var 3) (.bi .pair (.var 4) (.bi .pair (.var 6) (.int 0)))))))))]
theorem chkCO_y0 : endC chkCO [] 1000 (callC Tryd.prog (tellA chkCO_u0) [] [] [] 3000 40 14 chkCO) = some chkCO_d0 := by kernel_rfl
abbrev chkCO_u1 : List (Q × Bool) := [(chkCO_q0, true), (chkCO_q1, true)]
theorem chkCO_y1 : endC chkCO [] 1000 (callC Tryd.prog (tellA chkCO_u1) [] [] [] 3000 40 14 chkCO) = some chkCO_d0 := by kernel_rfl
abbrev chkCO_u2 : List (Q × Bool) := [(chkCO_q0, true), (chkCO_q1, false), (chkCO_q2, false)]
def chkCO_d1 : List Duty := [(true, (.int 5), (.fn 11 (.bi .pair (.var 0) (.bi .pair (.var 1) (.bi .pair (.var 2) (.bi .pair (.var 3) (.bi .pair (.var 4) (.bi .pair (.var 6) (.int 0)))))))))]
theorem chkCO_y2 : endC chkCO [] 1000 (callC Tryd.prog (tellA chkCO_u2) [] [] [] 3000 40 14 chkCO) = some chkCO_d1 := by kernel_rfl
abbrev chkCO_u3 : List (Q × Bool) := [(chkCO_q0, true), (chkCO_q1, false), (chkCO_q2, true), (chkCO_q3, false)]
theorem chkCO_y3 : endC chkCO [] 1000 (callC Tryd.prog (tellA chkCO_u3) [] [] [] 3000 40 14 chkCO) = some chkCO_d1 := by kernel_rfl
abbrev chkCO_u4 : List (Q × Bool) := [(chkCO_q0, true), (chkCO_q1, false), (chkCO_q2, true), (chkCO_q3, true), (chkCO_q4, false)]
theorem chkCO_y4 : endC chkCO [] 1000 (callC Tryd.prog (tellA chkCO_u4) [] [] [] 3000 40 14 chkCO) = some chkCO_d1 := by kernel_rfl
abbrev chkCO_u5 : List (Q × Bool) := [(chkCO_q0, true), (chkCO_q1, false), (chkCO_q2, true), (chkCO_q3, true), (chkCO_q4, true), (chkCO_q5, false)]
theorem chkCO_y5 : endC chkCO [] 1000 (callC Tryd.prog (tellA chkCO_u5) [] [] [] 3000 40 14 chkCO) = some chkCO_d1 := by kernel_rfl
abbrev chkCO_u6 : List (Q × Bool) := [(chkCO_q0, true), (chkCO_q1, false), (chkCO_q2, true), (chkCO_q3, true), (chkCO_q4, true), (chkCO_q5, true), (chkCO_q6, false)]
theorem chkCO_y6 : endC chkCO [] 1000 (callC Tryd.prog (tellA chkCO_u6) [] [] [] 3000 40 14 chkCO) = some chkCO_d1 := by kernel_rfl
abbrev chkCO_u7 : List (Q × Bool) := [(chkCO_q0, true), (chkCO_q1, false), (chkCO_q2, true), (chkCO_q3, true), (chkCO_q4, true), (chkCO_q5, true), (chkCO_q6, true), (chkCO_q7, false)]
theorem chkCO_y7 : endC chkCO [] 1000 (callC Tryd.prog (tellA chkCO_u7) [] [] [] 3000 40 14 chkCO) = some chkCO_d1 := by kernel_rfl
abbrev chkCO_u8 : List (Q × Bool) := [(chkCO_q0, true), (chkCO_q1, false), (chkCO_q2, true), (chkCO_q3, true), (chkCO_q4, true), (chkCO_q5, true), (chkCO_q6, true), (chkCO_q7, true), (chkCO_q8, false)]
theorem chkCO_y8 : endC chkCO [] 1000 (callC Tryd.prog (tellA chkCO_u8) [] [] [] 3000 40 14 chkCO) = some chkCO_d1 := by kernel_rfl
abbrev chkCO_u9 : List (Q × Bool) := [(chkCO_q0, true), (chkCO_q1, false), (chkCO_q2, true), (chkCO_q3, true), (chkCO_q4, true), (chkCO_q5, true), (chkCO_q6, true), (chkCO_q7, true), (chkCO_q8, true), (chkCO_q9, false)]
theorem chkCO_y9 : endC chkCO [] 1000 (callC Tryd.prog (tellA chkCO_u9) [] [] [] 3000 40 14 chkCO) = some chkCO_d1 := by kernel_rfl
abbrev chkCO_u10 : List (Q × Bool) := [(chkCO_q0, true), (chkCO_q1, false), (chkCO_q2, true), (chkCO_q3, true), (chkCO_q4, true), (chkCO_q5, true), (chkCO_q6, true), (chkCO_q7, true), (chkCO_q8, true), (chkCO_q9, true), (chkCO_q10, true), (chkCO_q11, false)]
def chkCO_d2 : List Duty := [(true, (.int 3), (.fn 11 (.bi .pair (.var 0) (.bi .pair (.var 1) (.bi .pair (.var 2) (.bi .pair (.var 3) (.bi .pair (.var 4) (.bi .pair (.var 6) (.int 0)))))))))]
theorem chkCO_y10 : endC chkCO [] 1000 (callC Tryd.prog (tellA chkCO_u10) [] [] [] 3000 40 14 chkCO) = some chkCO_d2 := by kernel_rfl
abbrev chkCO_u11 : List (Q × Bool) := [(chkCO_q0, true), (chkCO_q1, false), (chkCO_q2, true), (chkCO_q3, true), (chkCO_q4, true), (chkCO_q5, true), (chkCO_q6, true), (chkCO_q7, true), (chkCO_q8, true), (chkCO_q9, true), (chkCO_q10, true), (chkCO_q11, true), (chkCO_q12, false), (chkCO_q13, true), (chkCO_q14, false)]
def chkCO_d3 : List Duty := [(true, (.int 2), (.fn 11 (.bi .pair (.var 0) (.bi .pair (.var 1) (.bi .pair (.var 2) (.bi .pair (.var 3) (.bi .pair (.var 4) (.bi .pair (.var 6) (.int 0)))))))))]
theorem chkCO_y11 : endC chkCO [] 1000 (callC Tryd.prog (tellA chkCO_u11) [] [] [] 3000 40 14 chkCO) = some chkCO_d3 := by kernel_rfl
abbrev chkCO_u12 : List (Q × Bool) := [(chkCO_q0, true), (chkCO_q1, false), (chkCO_q2, true), (chkCO_q3, true), (chkCO_q4, true), (chkCO_q5, true), (chkCO_q6, true), (chkCO_q7, true), (chkCO_q8, true), (chkCO_q9, true), (chkCO_q10, true), (chkCO_q11, true), (chkCO_q12, false), (chkCO_q13, true), (chkCO_q14, true), (chkCO_q15, true), (chkCO_q16, true), (chkCO_q17, true), (chkCO_q18, true)]
def chkCO_d4 : List Duty := [(true, (.int 0), (.fn 11 (.bi .pair (.var 0) (.bi .pair (.var 1) (.bi .pair (.var 2) (.bi .pair (.var 3) (.bi .pair (.var 4) (.bi .pair (.var 6) (.int 0)))))))))]
theorem chkCO_y12 : endC chkCO [] 1000 (callC Tryd.prog (tellA chkCO_u12) [] [] [] 3000 40 14 chkCO) = some chkCO_d4 := by kernel_rfl
abbrev chkCO_u13 : List (Q × Bool) := [(chkCO_q0, true), (chkCO_q1, false), (chkCO_q2, true), (chkCO_q3, true), (chkCO_q4, true), (chkCO_q5, true), (chkCO_q6, true), (chkCO_q7, true), (chkCO_q8, true), (chkCO_q9, true), (chkCO_q10, true), (chkCO_q11, true), (chkCO_q12, false), (chkCO_q13, true), (chkCO_q14, true), (chkCO_q15, true), (chkCO_q16, true), (chkCO_q17, true), (chkCO_q18, false)]
theorem chkCO_y13 : endC chkCO [] 1000 (callC Tryd.prog (tellA chkCO_u13) [] [] [] 3000 40 14 chkCO) = some chkCO_d3 := by kernel_rfl
abbrev chkCO_u14 : List (Q × Bool) := [(chkCO_q0, true), (chkCO_q1, false), (chkCO_q2, true), (chkCO_q3, true), (chkCO_q4, true), (chkCO_q5, true), (chkCO_q6, true), (chkCO_q7, true), (chkCO_q8, true), (chkCO_q9, true), (chkCO_q10, true), (chkCO_q11, true), (chkCO_q12, false), (chkCO_q13, true), (chkCO_q14, true), (chkCO_q15, true), (chkCO_q16, true), (chkCO_q17, false)]
theorem chkCO_y14 : endC chkCO [] 1000 (callC Tryd.prog (tellA chkCO_u14) [] [] [] 3000 40 14 chkCO) = some chkCO_d3 := by kernel_rfl
abbrev chkCO_u15 : List (Q × Bool) := [(chkCO_q0, true), (chkCO_q1, false), (chkCO_q2, true), (chkCO_q3, true), (chkCO_q4, true), (chkCO_q5, true), (chkCO_q6, true), (chkCO_q7, true), (chkCO_q8, true), (chkCO_q9, true), (chkCO_q10, true), (chkCO_q11, true), (chkCO_q12, false), (chkCO_q13, true), (chkCO_q14, true), (chkCO_q15, true), (chkCO_q16, false)]
theorem chkCO_y15 : endC chkCO [] 1000 (callC Tryd.prog (tellA chkCO_u15) [] [] [] 3000 40 14 chkCO) = some chkCO_d3 := by kernel_rfl
abbrev chkCO_u16 : List (Q × Bool) := [(chkCO_q0, true), (chkCO_q1, false), (chkCO_q2, true), (chkCO_q3, true), (chkCO_q4, true), (chkCO_q5, true), (chkCO_q6, true), (chkCO_q7, true), (chkCO_q8, true), (chkCO_q9, true), (chkCO_q10, true), (chkCO_q11, true), (chkCO_q12, false), (chkCO_q13, true), (chkCO_q14, true), (chkCO_q15, false)]
theorem chkCO_y16 : endC chkCO [] 1000 (callC Tryd.prog (tellA chkCO_u16) [] [] [] 3000 40 14 chkCO) = some chkCO_d3 := by kernel_rfl
abbrev chkCO_u17 : List (Q × Bool) := [(chkCO_q0, true), (chkCO_q1, false), (chkCO_q2, true), (chkCO_q3, true), (chkCO_q4, true), (chkCO_q5, true), (chkCO_q6, true), (chkCO_q7, true), (chkCO_q8, true), (chkCO_q9, true), (chkCO_q10, true), (chkCO_q11, true), (chkCO_q12, false), (chkCO_q13, false), (chkCO_q19, true), (chkCO_q14, false)]
theorem chkCO_y17 : endC chkCO [] 1000 (callC Tryd.prog (tellA chkCO_u17) [] [] [] 3000 40 14 chkCO) = some chkCO_d3 := by kernel_rfl
abbrev chkCO_u18 : List (Q × Bool) := [(chkCO_q0, true), (chkCO_q1, false), (chkCO_q2, true), (chkCO_q3, true), (chkCO_q4, true), (chkCO_q5, true), (chkCO_q6, true), (chkCO_q7, true), (chkCO_q8, true), (chkCO_q9, true), (chkCO_q10, true), (chkCO_q11, true), (chkCO_q12, false), (chkCO_q13, false), (chkCO_q19, true), (chkCO_q14, true), (chkCO_q20, false)]
theorem chkCO_y18 : endC chkCO [] 1000 (callC Tryd.prog (tellA chkCO_u18) [] [] [] 3000 40 14 chkCO) = some chkCO_d3 := by kernel_rfl
abbrev chkCO_u19 : List (Q × Bool) := [(chkCO_q0, true), (chkCO_q1, false), (chkCO_q2, true), (chkCO_q3, true), (chkCO_q4, true), (chkCO_q5, true), (chkCO_q6, true), (chkCO_q7, true), (chkCO_q8, true), (chkCO_q9, true), (chkCO_q10, true), (chkCO_q11, true), (chkCO_q12, false), (chkCO_q13, false), (chkCO_q19, true), (chkCO_q14, true), (chkCO_q20, true), (chkCO_q16, true), (chkCO_q17, true), (chkCO_q18, true)]
theorem chkCO_y19 : endC chkCO [] 1000 (callC Tryd.prog (tellA chkCO_u19) [] [] [] 3000 40 14 chkCO) = some chkCO_d4 := by kernel_rfl
abbrev chkCO_u20 : List (Q × Bool) := [(chkCO_q0, true), (chkCO_q1, false), (chkCO_q2, true), (chkCO_q3, true), (chkCO_q4, true), (chkCO_q5, true), (chkCO_q6, true), (chkCO_q7, true), (chkCO_q8, true), (chkCO_q9, true), (chkCO_q10, true), (chkCO_q11, true), (chkCO_q12, false), (chkCO_q13, false), (chkCO_q19, true), (chkCO_q14, true), (chkCO_q20, true), (chkCO_q16, true), (chkCO_q17, true), (chkCO_q18, false)]
theorem chkCO_y20 : endC chkCO [] 1000 (callC Tryd.prog (tellA chkCO_u20) [] [] [] 3000 40 14 chkCO) = some chkCO_d3 := by kernel_rfl
abbrev chkCO_u21 : List (Q × Bool) := [(chkCO_q0, true), (chkCO_q1, false), (chkCO_q2, true), (chkCO_q3, true), (chkCO_q4, true), (chkCO_q5, true), (chkCO_q6, true), (chkCO_q7, true), (chkCO_q8, true), (chkCO_q9, true), (chkCO_q10, true), (chkCO_q11, true), (chkCO_q12, false), (chkCO_q13, false), (chkCO_q19, true), (chkCO_q14, true), (chkCO_q20, true), (chkCO_q16, true), (chkCO_q17, false)]
theorem chkCO_y21 : endC chkCO [] 1000 (callC Tryd.prog (tellA chkCO_u21) [] [] [] 3000 40 14 chkCO) = some chkCO_d3 := by kernel_rfl
abbrev chkCO_u22 : List (Q × Bool) := [(chkCO_q0, true), (chkCO_q1, false), (chkCO_q2, true), (chkCO_q3, true), (chkCO_q4, true), (chkCO_q5, true), (chkCO_q6, true), (chkCO_q7, true), (chkCO_q8, true), (chkCO_q9, true), (chkCO_q10, true), (chkCO_q11, true), (chkCO_q12, false), (chkCO_q13, false), (chkCO_q19, true), (chkCO_q14, true), (chkCO_q20, true), (chkCO_q16, false)]
theorem chkCO_y22 : endC chkCO [] 1000 (callC Tryd.prog (tellA chkCO_u22) [] [] [] 3000 40 14 chkCO) = some chkCO_d3 := by kernel_rfl
abbrev chkCO_u23 : List (Q × Bool) := [(chkCO_q0, true), (chkCO_q1, false), (chkCO_q2, true), (chkCO_q3, true), (chkCO_q4, true), (chkCO_q5, true), (chkCO_q6, true), (chkCO_q7, true), (chkCO_q8, true), (chkCO_q9, true), (chkCO_q10, true), (chkCO_q11, true), (chkCO_q12, false), (chkCO_q13, false), (chkCO_q19, false), (chkCO_q21, true), (chkCO_q14, false)]
theorem chkCO_y23 : endC chkCO [] 1000 (callC Tryd.prog (tellA chkCO_u23) [] [] [] 3000 40 14 chkCO) = some chkCO_d3 := by kernel_rfl
abbrev chkCO_u24 : List (Q × Bool) := [(chkCO_q0, true), (chkCO_q1, false), (chkCO_q2, true), (chkCO_q3, true), (chkCO_q4, true), (chkCO_q5, true), (chkCO_q6, true), (chkCO_q7, true), (chkCO_q8, true), (chkCO_q9, true), (chkCO_q10, true), (chkCO_q11, true), (chkCO_q12, false), (chkCO_q13, false), (chkCO_q19, false), (chkCO_q21, true), (chkCO_q14, true), (chkCO_q20, false)]
theorem chkCO_y24 : endC chkCO [] 1000 (callC Tryd.prog (tellA chkCO_u24) [] [] [] 3000 40 14 chkCO) = some chkCO_d3 := by kernel_rfl
abbrev chkCO_u25 : List (Q × Bool) := [(chkCO_q0, true), (chkCO_q1, false), (chkCO_q2, true), (chkCO_q3, true), (chkCO_q4, true), (chkCO_q5, true), (chkCO_q6, true), (chkCO_q7, true), (chkCO_q8, true), (chkCO_q9, true), (chkCO_q10, true), (chkCO_q11, true), (chkCO_q12, false), (chkCO_q13, false), (chkCO_q19, false), (chkCO_q21, true), (chkCO_q14, true), (chkCO_q20, true), (chkCO_q22, false)]
theorem chkCO_y25 : endC chkCO [] 1000 (callC Tryd.prog (tellA chkCO_u25) [] [] [] 3000 40 14 chkCO) = some chkCO_d3 := by kernel_rfl
abbrev chkCO_u26 : List (Q × Bool) := [(chkCO_q0, true), (chkCO_q1, false), (chkCO_q2, true), (chkCO_q3, true), (chkCO_q4, true), (chkCO_q5, true), (chkCO_q6, true), (chkCO_q7, true), (chkCO_q8, true), (chkCO_q9, true), (chkCO_q10, true), (chkCO_q11, true), (chkCO_q12, false), (chkCO_q13, false), (chkCO_q19, false), (chkCO_q21, true), (chkCO_q14, true), (chkCO_q20, true), (chkCO_q22, true)]
theorem chkCO_y26 : endC chkCO [] 1000 (callC Tryd.prog (tellA chkCO_u26) [] [] [] 3000 40 14 chkCO) = some chkCO_d4 := by kernel_rfl
abbrev chkCO_u27 : List (Q × Bool) := [(chkCO_q0, true), (chkCO_q1, false), (chkCO_q2, true), (chkCO_q3, true), (chkCO_q4, true), (chkCO_q5, true), (chkCO_q6, true), (chkCO_q7, true), (chkCO_q8, true), (chkCO_q9, true), (chkCO_q10, true), (chkCO_q11, true), (chkCO_q12, false), (chkCO_q13, false), (chkCO_q19, false), (chkCO_q21, false), (chkCO_q23, true), (chkCO_q14, false)]
theorem chkCO_y27 : endC chkCO [] 1000 (callC Tryd.prog (tellA chkCO_u27) [] [] [] 3000 40 14 chkCO) = some chkCO_d3 := by kernel_rfl
abbrev chkCO_u28 : List (Q × Bool) := [(chkCO_q0, true), (chkCO_q1, false), (chkCO_q2, true), (chkCO_q3, true), (chkCO_q4, true), (chkCO_q5, true), (chkCO_q6, true), (chkCO_q7, true), (chkCO_q8, true), (chkCO_q9, true), (chkCO_q10, true), (chkCO_q11, true), (chkCO_q12, false), (chkCO_q13, false), (chkCO_q19, false), (chkCO_q21, false), (chkCO_q23, true), (chkCO_q14, true), (chkCO_q20, false)]
theorem chkCO_y28 : endC chkCO [] 1000 (callC Tryd.prog (tellA chkCO_u28) [] [] [] 3000 40 14 chkCO) = some chkCO_d3 := by kernel_rfl
abbrev chkCO_u29 : List (Q × Bool) := [(chkCO_q0, true), (chkCO_q1, false), (chkCO_q2, true), (chkCO_q3, true), (chkCO_q4, true), (chkCO_q5, true), (chkCO_q6, true), (chkCO_q7, true), (chkCO_q8, true), (chkCO_q9, true), (chkCO_q10, true), (chkCO_q11, true), (chkCO_q12, false), (chkCO_q13, false), (chkCO_q19, false), (chkCO_q21, false), (chkCO_q23, true), (chkCO_q14, true), (chkCO_q20, true), (chkCO_q16, true), (chkCO_q18, true)]
theorem chkCO_y29 : endC chkCO [] 1000 (callC Tryd.prog (tellA chkCO_u29) [] [] [] 3000 40 14 chkCO) = some chkCO_d4 := by kernel_rfl
abbrev chkCO_u30 : List (Q × Bool) := [(chkCO_q0, true), (chkCO_q1, false), (chkCO_q2, true), (chkCO_q3, true), (chkCO_q4, true), (chkCO_q5, true), (chkCO_q6, true), (chkCO_q7, true), (chkCO_q8, true), (chkCO_q9, true), (chkCO_q10, true), (chkCO_q11, true), (chkCO_q12, false), (chkCO_q13, false), (chkCO_q19, false), (chkCO_q21, false), (chkCO_q23, true), (chkCO_q14, true), (chkCO_q20, true), (chkCO_q16, true), (chkCO_q18, false)]
theorem chkCO_y30 : endC chkCO [] 1000 (callC Tryd.prog (tellA chkCO_u30) [] [] [] 3000 40 14 chkCO) = some chkCO_d3 := by kernel_rfl
abbrev chkCO_u31 : List (Q × Bool) := [(chkCO_q0, true), (chkCO_q1, false), (chkCO_q2, true), (chkCO_q3, true), (chkCO_q4, true), (chkCO_q5, true), (chkCO_q6, true), (chkCO_q7, true), (chkCO_q8, true), (chkCO_q9, true), (chkCO_q10, true), (chkCO_q11, true), (chkCO_q12, false), (chkCO_q13, false), (chkCO_q19, false), (chkCO_q21, false), (chkCO_q23, true), (chkCO_q14, true), (chkCO_q20, true), (chkCO_q16, false)]
theorem chkCO_y31 : endC chkCO [] 1000 (callC Tryd.prog (tellA chkCO_u31) [] [] [] 3000 40 14 chkCO) = some chkCO_d3 := by kernel_rfl
abbrev chkCO_u32 : List (Q × Bool) := [(chkCO_q0, true), (chkCO_q1, false), (chkCO_q2, true), (chkCO_q3, true), (chkCO_q4, true), (chkCO_q5, true), (chkCO_q6, true), (chkCO_q7, true), (chkCO_q8, true), (chkCO_q9, true), (chkCO_q10, true), (chkCO_q11, true), (chkCO_q12, false), (chkCO_q13, false), (chkCO_q19, false), (chkCO_q21, false), (chkCO_q23, false), (chkCO_q24, true), (chkCO_q14, false)]
theorem chkCO_y32 : endC chkCO [] 1000 (callC Tryd.prog (tellA chkCO_u32) [] [] [] 3000 40 14 chkCO) = some chkCO_d3 := by kernel_rfl
abbrev chkCO_u33 : List (Q × Bool) := [(chkCO_q0, true), (chkCO_q1, false), (chkCO_q2, true), (chkCO_q3, true), (chkCO_q4, true), (chkCO_q5, true), (chkCO_q6, true), (chkCO_q7, true), (chkCO_q8, true), (chkCO_q9, true), (chkCO_q10, true), (chkCO_q11, true), (chkCO_q12, false), (chkCO_q13, false), (chkCO_q19, false), (chkCO_q21, false), (chkCO_q23, false), (chkCO_q24, true), (chkCO_q14, true), (chkCO_q16, true), (chkCO_q17, true), (chkCO_q18, true)]
theorem chkCO_y33 : endC chkCO [] 1000 (callC Tryd.prog (tellA chkCO_u33) [] [] [] 3000 40 14 chkCO) = some chkCO_d4 := by kernel_rfl
abbrev chkCO_u34 : List (Q × Bool) := [(chkCO_q0, true), (chkCO_q1, false), (chkCO_q2, true), (chkCO_q3, true), (chkCO_q4, true), (chkCO_q5, true), (chkCO_q6, true), (chkCO_q7, true), (chkCO_q8, true), (chkCO_q9, true), (chkCO_q10, true), (chkCO_q11, true), (chkCO_q12, false), (chkCO_q13, false), (chkCO_q19, false), (chkCO_q21, false), (chkCO_q23, false), (chkCO_q24, true), (chkCO_q14, true), (chkCO_q16, true), (chkCO_q17, true), (chkCO_q18, false)]
theorem chkCO_y34 : endC chkCO [] 1000 (callC Tryd.prog (tellA chkCO_u34) [] [] [] 3000 40 14 chkCO) = some chkCO_d3 := by kernel_rfl
abbrev chkCO_u35 : List (Q × Bool) := [(chkCO_q0, true), (chkCO_q1, false), (chkCO_q2, true), (chkCO_q3, true), (chkCO_q4, true), (chkCO_q5, true), (chkCO_q6, true), (chkCO_q7, true), (chkCO_q8, true), (chkCO_q9, true), (chkCO_q10, true), (chkCO_q11, true), (chkCO_q12, false), (chkCO_q13, false), (chkCO_q19, false), (chkCO_q21, false), (chkCO_q23, false), (chkCO_q24, true), (chkCO_q14, true), (chkCO_q16, true), (chkCO_q17, false)]
theorem chkCO_y35 : endC chkCO [] 1000 (callC Tryd.prog (tellA chkCO_u35) [] [] [] 3000 40 14 chkCO) = some chkCO_d3 := by kernel_rfl
abbrev chkCO_u36 : List (Q × Bool) := [(chkCO_q0, true), (chkCO_q1, false), (chkCO_q2, true), (chkCO_q3, true), (chkCO_q4, true), (chkCO_q5, true), (chkCO_q6, true), (chkCO_q7, true), (chkCO_q8, true), (chkCO_q9, true), (chkCO_q10, true), (chkCO_q11, true), (chkCO_q12, false), (chkCO_q13, false), (chkCO_q19, false), (chkCO_q21, false), (chkCO_q23, false), (chkCO_q24, true), (chkCO_q14, true), (chkCO_q16, false)]
theorem chkCO_y36 : endC chkCO [] 1000 (callC Tryd.prog (tellA chkCO_u36) [] [] [] 3000 40 14 chkCO) = some chkCO_d3 := by kernel_rfl
set_option maxHeartbeats 8000000 in
theorem chkCO_holds : CHolds Tryd.prog 14 chkCO F := by
  refine cholds_of sound (tableNil _ _) (specsNil _ _) (oversNil _ _) (fuel := 3000) (depth := 40) (by kernel_rfl) fun d hp hR hA => ?_
  have hp := allTold'_iff.2 hp
  simp only [chkCO, allTold', dutiesTold, factsA, factsC, factsP, factsR, AV.facts, RW.facts, inK, and_true, Q.holds', E.i, E.s, E.n, D.nat, E.den, BO.den, UO.den, TO.den, D.toInt_int, D.toList_list, D.ints_ofInts, i64min, i64max, u8min, u8max, u16min, u16max, u32min, u32max, u64min, u64max, i32min, i32max, Om.sub, selI, ints_app, ints_cut, ints_upd, ints_rep, ints_splice, ints_seg, len_ints] at hp hR hA
  cases h0 : Q.val (OmD d) chkCO_q0
  · have p0 : ¬ ((1) ≤ (d 0).toInt) := of_decide_eq_false h0
    refine ⟨tellA chkCO_u0, _, _, _, tellA_ok (told_cons h0 told_nil), chkCO_y0, dutiesTold_ok ?_⟩
    refine ⟨?_, trivial⟩
    show (213 : Int) = errI (d 0).toInt (d 1).toInt (d 2).toInt (d 3).toInt (d 4).toInt (d 6).toInt
    unfold errI saysP rangeP
    repeat' split
    all_goals omega
  have p0 : (1) ≤ (d 0).toInt := of_decide_eq_true h0
  cases h1 : Q.val (OmD d) chkCO_q1
  rotate_left
  · have p1 : (6) ≤ (d 0).toInt := of_decide_eq_true h1
    refine ⟨tellA chkCO_u1, _, _, _, tellA_ok (told_cons h0 (told_cons h1 told_nil)), chkCO_y1, dutiesTold_ok ?_⟩
    refine ⟨?_, trivial⟩
    show (213 : Int) = errI (d 0).toInt (d 1).toInt (d 2).toInt (d 3).toInt (d 4).toInt (d 6).toInt
    unfold errI saysP rangeP
    repeat' split
    all_goals omega
  have p1 : ¬ ((6) ≤ (d 0).toInt) := of_decide_eq_false h1
  cases h2 : Q.val (OmD d) chkCO_q2
  · have p2 : ¬ ((0) ≤ (d 1).toInt) := of_decide_eq_false h2
    refine ⟨tellA chkCO_u2, _, _, _, tellA_ok (told_cons h0 (told_cons h1 (told_cons h2 told_nil))), chkCO_y2, dutiesTold_ok ?_⟩
    refine ⟨?_, trivial⟩
    show (5 : Int) = errI (d 0).toInt (d 1).toInt (d 2).toInt (d 3).toInt (d 4).toInt (d 6).toInt
    unfold errI saysP rangeP
    repeat' split
    all_goals omega
  have p2 : (0) ≤ (d 1).toInt := of_decide_eq_true h2
  cases h3 : Q.val (OmD d) chkCO_q3
  · have p3 : ¬ ((d 1).toInt ≤ (2147483647)) := of_decide_eq_false h3
    refine ⟨tellA chkCO_u3, _, _, _, tellA_ok (by (repeat refine told_cons (by assumption) ?_); exact told_nil), chkCO_y3, dutiesTold_ok ?_⟩
    refine ⟨?_, trivial⟩
    show (5 : Int) = errI (d 0).toInt (d 1).toInt (d 2).toInt (d 3).toInt (d 4).toInt (d 6).toInt
    unfold errI saysP rangeP
    repeat' split
    all_goals omega
  have p3 : (d 1).toInt ≤ (2147483647) := of_decide_eq_true h3
  cases h4 : Q.val (OmD d) chkCO_q4
  · have p4 : ¬ ((0) ≤ (d 2).toInt) := of_decide_eq_false h4
    refine ⟨tellA chkCO_u4, _, _, _, tellA_ok (by (repeat refine told_cons (by assumption) ?_); exact told_nil), chkCO_y4, dutiesTold_ok ?_⟩
    refine ⟨?_, trivial⟩
    show (5 : Int) = errI (d 0).toInt (d 1).toInt (d 2).toInt (d 3).toInt (d 4).toInt (d 6).toInt
    unfold errI saysP rangeP
    repeat' split
    all_goals omega
  have p4 : (0) ≤ (d 2).toInt := of_decide_eq_true h4
  cases h5 : Q.val (OmD d) chkCO_q5
  · have p5 : ¬ ((d 2).toInt ≤ (2147483647)) := of_decide_eq_false h5
    refine ⟨tellA chkCO_u5, _, _, _, tellA_ok (by (repeat refine told_cons (by assumption) ?_); exact told_nil), chkCO_y5, dutiesTold_ok ?_⟩
    refine ⟨?_, trivial⟩
    show (5 : Int) = errI (d 0).toInt (d 1).toInt (d 2).toInt (d 3).toInt (d 4).toInt (d 6).toInt
    unfold errI saysP rangeP
    repeat' split
    all_goals omega
  have p5 : (d 2).toInt ≤ (2147483647) := of_decide_eq_true h5
  cases h6 : Q.val (OmD d) chkCO_q6
  · have p6 : ¬ ((0) ≤ (d 3).toInt) := of_decide_eq_false h6
    refine ⟨tellA chkCO_u6, _, _, _, tellA_ok (by (repeat refine told_cons (by assumption) ?_); exact told_nil), chkCO_y6, dutiesTold_ok ?_⟩
    refine ⟨?_, trivial⟩
    show (5 : Int) = errI (d 0).toInt (d 1).toInt (d 2).toInt (d 3).toInt (d 4).toInt (d 6).toInt
    unfold errI saysP rangeP
    repeat' split
    all_goals omega
  have p6 : (0) ≤ (d 3).toInt := of_decide_eq_true h6
  cases h7 : Q.val (OmD d) chkCO_q7
  · have p7 : ¬ ((d 3).toInt ≤ (2147483647)) := of_decide_eq_false h7
    refine ⟨tellA chkCO_u7, _, _, _, tellA_ok (by (repeat refine told_cons (by assumption) ?_); exact told_nil), chkCO_y7, dutiesTold_ok ?_⟩
    refine ⟨?_, trivial⟩
    show (5 : Int) = errI (d 0).toInt (d 1).toInt (d 2).toInt (d 3).toInt (d 4).toInt (d 6).toInt
    unfold errI saysP rangeP
    repeat' split
    all_goals omega
  have p7 : (d 3).toInt ≤ (2147483647) := of_decide_eq_true h7
  cases h8 : Q.val (OmD d) chkCO_q8
  · have p8 : ¬ ((0) ≤ (d 4).toInt) := of_decide_eq_false h8
    refine ⟨tellA chkCO_u8, _, _, _, tellA_ok (by (repeat refine told_cons (by assumption) ?_); exact told_nil), chkCO_y8, dutiesTold_ok ?_⟩
    refine ⟨?_, trivial⟩
    show (5 : Int) = errI (d 0).toInt (d 1).toInt (d 2).toInt (d 3).toInt (d 4).toInt (d 6).toInt
    unfold errI saysP rangeP
    repeat' split
    all_goals omega
  have p8 : (0) ≤ (d 4).toInt := of_decide_eq_true h8
  cases h9 : Q.val (OmD d) chkCO_q9
  · have p9 : ¬ ((d 4).toInt ≤ (2147483647)) := of_decide_eq_false h9
    refine ⟨tellA chkCO_u9, _, _, _, tellA_ok (by (repeat refine told_cons (by assumption) ?_); exact told_nil), chkCO_y9, dutiesTold_ok ?_⟩
    refine ⟨?_, trivial⟩
    show (5 : Int) = errI (d 0).toInt (d 1).toInt (d 2).toInt (d 3).toInt (d 4).toInt (d 6).toInt
    unfold errI saysP rangeP
    repeat' split
    all_goals omega
  have p9 : (d 4).toInt ≤ (2147483647) := of_decide_eq_true h9
  have p10 : -9223372036854775808 ≤ (d 6).toInt ∧ (d 6).toInt ≤ 9223372036854775807 := by omega
  have h10 : Q.val (OmD d) chkCO_q10 = true := decide_eq_true p10
  cases h11 : Q.val (OmD d) chkCO_q11
  · have p11 : ¬ ((d 6).toInt ≤ (1400)) := of_decide_eq_false h11
    refine ⟨tellA chkCO_u10, _, _, _, tellA_ok (by (repeat refine told_cons (by assumption) ?_); exact told_nil), chkCO_y10, dutiesTold_ok ?_⟩
    refine ⟨?_, trivial⟩
    show (3 : Int) = errI (d 0).toInt (d 1).toInt (d 2).toInt (d 3).toInt (d 4).toInt (d 6).toInt
    unfold errI saysP rangeP
    repeat' split
    all_goals omega
  have p11 : (d 6).toInt ≤ (1400) := of_decide_eq_true h11
  have p12 : ¬ ((d 0).toInt = (0)) := by omega
  have h12 : Q.val (OmD d) chkCO_q12 = false := decide_eq_false p12
  cases h13 : Q.val (OmD d) chkCO_q13
  rotate_left
  · have p13 : (d 0).toInt = (1) := of_decide_eq_true h13
    cases h14 : Q.val (OmD d) chkCO_q14
    · have p14 : ¬ ((1) ≤ (d 1).toInt) := of_decide_eq_false h14
      refine ⟨tellA chkCO_u11, _, _, _, tellA_ok (by (repeat refine told_cons (by assumption) ?_); exact told_nil), chkCO_y11, dutiesTold_ok ?_⟩
      refine ⟨?_, trivial⟩
      show (2 : Int) = errI (d 0).toInt (d 1).toInt (d 2).toInt (d 3).toInt (d 4).toInt (d 6).toInt
      unfold errI saysP rangeP
      repeat' split
      all_goals omega
    have p14 : (1) ≤ (d 1).toInt := of_decide_eq_true h14
    cases h15 : Q.val (OmD d) chkCO_q15
    · have p15 : ¬ ((d 2).toInt = (0)) := of_decide_eq_false h15
      refine ⟨tellA chkCO_u16, _, _, _, tellA_ok (by (repeat refine told_cons (by assumption) ?_); exact told_nil), chkCO_y16, dutiesTold_ok ?_⟩
      refine ⟨?_, trivial⟩
      show (2 : Int) = errI (d 0).toInt (d 1).toInt (d 2).toInt (d 3).toInt (d 4).toInt (d 6).toInt
      unfold errI saysP rangeP
      repeat' split
      all_goals omega
    have p15 : (d 2).toInt = (0) := of_decide_eq_true h15
    cases h16 : Q.val (OmD d) chkCO_q16
    · have p16 : ¬ ((d 3).toInt = (0)) := of_decide_eq_false h16
      refine ⟨tellA chkCO_u15, _, _, _, tellA_ok (by (repeat refine told_cons (by assumption) ?_); exact told_nil), chkCO_y15, dutiesTold_ok ?_⟩
      refine ⟨?_, trivial⟩
      show (2 : Int) = errI (d 0).toInt (d 1).toInt (d 2).toInt (d 3).toInt (d 4).toInt (d 6).toInt
      unfold errI saysP rangeP
      repeat' split
      all_goals omega
    have p16 : (d 3).toInt = (0) := of_decide_eq_true h16
    cases h17 : Q.val (OmD d) chkCO_q17
    · have p17 : ¬ ((d 4).toInt = (0)) := of_decide_eq_false h17
      refine ⟨tellA chkCO_u14, _, _, _, tellA_ok (by (repeat refine told_cons (by assumption) ?_); exact told_nil), chkCO_y14, dutiesTold_ok ?_⟩
      refine ⟨?_, trivial⟩
      show (2 : Int) = errI (d 0).toInt (d 1).toInt (d 2).toInt (d 3).toInt (d 4).toInt (d 6).toInt
      unfold errI saysP rangeP
      repeat' split
      all_goals omega
    have p17 : (d 4).toInt = (0) := of_decide_eq_true h17
    cases h18 : Q.val (OmD d) chkCO_q18
    · have p18 : ¬ ((d 6).toInt = (0)) := of_decide_eq_false h18
      refine ⟨tellA chkCO_u13, _, _, _, tellA_ok (by (repeat refine told_cons (by assumption) ?_); exact told_nil), chkCO_y13, dutiesTold_ok ?_⟩
      refine ⟨?_, trivial⟩
      show (2 : Int) = errI (d 0).toInt (d 1).toInt (d 2).toInt (d 3).toInt (d 4).toInt (d 6).toInt
      unfold errI saysP rangeP
      repeat' split
      all_goals omega
    have p18 : (d 6).toInt = (0) := of_decide_eq_true h18
    refine ⟨tellA chkCO_u12, _, _, _, tellA_ok (by (repeat refine told_cons (by assumption) ?_); exact told_nil), chkCO_y12, dutiesTold_ok ?_⟩
    refine ⟨?_, trivial⟩
    show (0 : Int) = errI (d 0).toInt (d 1).toInt (d 2).toInt (d 3).toInt (d 4).toInt (d 6).toInt
    unfold errI saysP rangeP
    repeat' split
    all_goals omega
  have p13 : ¬ ((d 0).toInt = (1)) := of_decide_eq_false h13
  cases h14 : Q.val (OmD d) chkCO_q19
  rotate_left
  · have p14 : (d 0).toInt = (2) := of_decide_eq_true h14
    cases h15 : Q.val (OmD d) chkCO_q14
    · have p15 : ¬ ((1) ≤ (d 1).toInt) := of_decide_eq_false h15
      refine ⟨tellA chkCO_u17, _, _, _, tellA_ok (by (repeat refine told_cons (by assumption) ?_); exact told_nil), chkCO_y17, dutiesTold_ok ?_⟩
      refine ⟨?_, trivial⟩
      show (2 : Int) = errI (d 0).toInt (d 1).toInt (d 2).toInt (d 3).toInt (d 4).toInt (d 6).toInt
      unfold errI saysP rangeP
      repeat' split
      all_goals omega
    have p15 : (1) ≤ (d 1).toInt := of_decide_eq_true h15
    cases h16 : Q.val (OmD d) chkCO_q20
    · have p16 : ¬ ((1) ≤ (d 2).toInt) := of_decide_eq_false h16
      refine ⟨tellA chkCO_u18, _, _, _, tellA_ok (by (repeat refine told_cons (by assumption) ?_); exact told_nil), chkCO_y18, dutiesTold_ok ?_⟩
      refine ⟨?_, trivial⟩
      show (2 : Int) = errI (d 0).toInt (d 1).toInt (d 2).toInt (d 3).toInt (d 4).toInt (d 6).toInt
      unfold errI saysP rangeP
      repeat' split
      all_goals omega
    have p16 : (1) ≤ (d 2).toInt := of_decide_eq_true h16
    cases h17 : Q.val (OmD d) chkCO_q16
    · have p17 : ¬ ((d 3).toInt = (0)) := of_decide_eq_false h17
      refine ⟨tellA chkCO_u22, _, _, _, tellA_ok (by (repeat refine told_cons (by assumption) ?_); exact told_nil), chkCO_y22, dutiesTold_ok ?_⟩
      refine ⟨?_, trivial⟩
      show (2 : Int) = errI (d 0).toInt (d 1).toInt (d 2).toInt (d 3).toInt (d 4).toInt (d 6).toInt
      unfold errI saysP rangeP
      repeat' split
      all_goals omega
    have p17 : (d 3).toInt = (0) := of_decide_eq_true h17
    cases h18 : Q.val (OmD d) chkCO_q17
    · have p18 : ¬ ((d 4).toInt = (0)) := of_decide_eq_false h18
      refine ⟨tellA chkCO_u21, _, _, _, tellA_ok (by (repeat refine told_cons (by assumption) ?_); exact told_nil), chkCO_y21, dutiesTold_ok ?_⟩
      refine ⟨?_, trivial⟩
      show (2 : Int) = errI (d 0).toInt (d 1).toInt (d 2).toInt (d 3).toInt (d 4).toInt (d 6).toInt
      unfold errI saysP rangeP
      repeat' split
      all_goals omega
    have p18 : (d 4).toInt = (0) := of_decide_eq_true h18
    cases h19 : Q.val (OmD d) chkCO_q18
    · have p19 : ¬ ((d 6).toInt = (0)) := of_decide_eq_false h19
      refine ⟨tellA chkCO_u20, _, _, _, tellA_ok (by (repeat refine told_cons (by assumption) ?_); exact told_nil), chkCO_y20, dutiesTold_ok ?_⟩
      refine ⟨?_, trivial⟩
      show (2 : Int) = errI (d 0).toInt (d 1).toInt (d 2).toInt (d 3).toInt (d 4).toInt (d 6).toInt
      unfold errI saysP rangeP
      repeat' split
      all_goals omega
    have p19 : (d 6).toInt = (0) := of_decide_eq_true h19
    refine ⟨tellA chkCO_u19, _, _, _, tellA_ok (by (repeat refine told_cons (by assumption) ?_); exact told_nil), chkCO_y19, dutiesTold_ok ?_⟩
    refine ⟨?_, trivial⟩
    show (0 : Int) = errI (d 0).toInt (d 1).toInt (d 2).toInt (d 3).toInt (d 4).toInt (d 6).toInt
    unfold errI saysP rangeP
    repeat' split
    all_goals omega
  have p14 : ¬ ((d 0).toInt = (2)) := of_decide_eq_false h14
  cases h15 : Q.val (OmD d) chkCO_q21
  rotate_left
  · have p15 : (d 0).toInt = (3) := of_decide_eq_true h15
    cases h16 : Q.val (OmD d) chkCO_q14
    · have p16 : ¬ ((1) ≤ (d 1).toInt) := of_decide_eq_false h16
      refine ⟨tellA chkCO_u23, _, _, _, tellA_ok (by (repeat refine told_cons (by assumption) ?_); exact told_nil), chkCO_y23, dutiesTold_ok ?_⟩
      refine ⟨?_, trivial⟩
      show (2 : Int) = errI (d 0).toInt (d 1).toInt (d 2).toInt (d 3).toInt (d 4).toInt (d 6).toInt
      unfold errI saysP rangeP
      repeat' split
      all_goals omega
    have p16 : (1) ≤ (d 1).toInt := of_decide_eq_true h16
    cases h17 : Q.val (OmD d) chkCO_q20
    · have p17 : ¬ ((1) ≤ (d 2).toInt) := of_decide_eq_false h17
      refine ⟨tellA chkCO_u24, _, _, _, tellA_ok (by (repeat refine told_cons (by assumption) ?_); exact told_nil), chkCO_y24, dutiesTold_ok ?_⟩
      refine ⟨?_, trivial⟩
      show (2 : Int) = errI (d 0).toInt (d 1).toInt (d 2).toInt (d 3).toInt (d 4).toInt (d 6).toInt
      unfold errI saysP rangeP
      repeat' split
      all_goals omega
    have p17 : (1) ≤ (d 2).toInt := of_decide_eq_true h17
    cases h18 : Q.val (OmD d) chkCO_q22
    · have p18 : ¬ ((1) ≤ (d 3).toInt) := of_decide_eq_false h18
      refine ⟨tellA chkCO_u25, _, _, _, tellA_ok (by (repeat refine told_cons (by assumption) ?_); exact told_nil), chkCO_y25, dutiesTold_ok ?_⟩
      refine ⟨?_, trivial⟩
      show (2 : Int) = errI (d 0).toInt (d 1).toInt (d 2).toInt (d 3).toInt (d 4).toInt (d 6).toInt
      unfold errI saysP rangeP
      repeat' split
      all_goals omega
    have p18 : (1) ≤ (d 3).toInt := of_decide_eq_true h18
    refine ⟨tellA chkCO_u26, _, _, _, tellA_ok (by (repeat refine told_cons (by assumption) ?_); exact told_nil), chkCO_y26, dutiesTold_ok ?_⟩
    refine ⟨?_, trivial⟩
    show (0 : Int) = errI (d 0).toInt (d 1).toInt (d 2).toInt (d 3).toInt (d 4).toInt (d 6).toInt
    unfold errI saysP rangeP
    repeat' split
    all_goals omega
  have p15 : ¬ ((d 0).toInt = (3)) := of_decide_eq_false h15
  cases h16 : Q.val (OmD d) chkCO_q23
  · have p16 : ¬ ((d 0).toInt = (4)) := of_decide_eq_false h16
    have p17 : (d 0).toInt = (5) := by omega
    have h17 : Q.val (OmD d) chkCO_q24 = true := decide_eq_true p17
    cases h18 : Q.val (OmD d) chkCO_q14
    · have p18 : ¬ ((1) ≤ (d 1).toInt) := of_decide_eq_false h18
      refine ⟨tellA chkCO_u32, _, _, _, tellA_ok (by (repeat refine told_cons (by assumption) ?_); exact told_nil), chkCO_y32, dutiesTold_ok ?_⟩
      refine ⟨?_, trivial⟩
      show (2 : Int) = errI (d 0).toInt (d 1).toInt (d 2).toInt (d 3).toInt (d 4).toInt (d 6).toInt
      unfold errI saysP rangeP
      repeat' split
      all_goals omega
    have p18 : (1) ≤ (d 1).toInt := of_decide_eq_true h18
    cases h19 : Q.val (OmD d) chkCO_q16
    · have p19 : ¬ ((d 3).toInt = (0)) := of_decide_eq_false h19
      refine ⟨tellA chkCO_u36, _, _, _, tellA_ok (by (repeat refine told_cons (by assumption) ?_); exact told_nil), chkCO_y36, dutiesTold_ok ?_⟩
      refine ⟨?_, trivial⟩
      show (2 : Int) = errI (d 0).toInt (d 1).toInt (d 2).toInt (d 3).toInt (d 4).toInt (d 6).toInt
      unfold errI saysP rangeP
      repeat' split
      all_goals omega
    have p19 : (d 3).toInt = (0) := of_decide_eq_true h19
    cases h20 : Q.val (OmD d) chkCO_q17
    · have p20 : ¬ ((d 4).toInt = (0)) := of_decide_eq_false h20
      refine ⟨tellA chkCO_u35, _, _, _, tellA_ok (by (repeat refine told_cons (by assumption) ?_); exact told_nil), chkCO_y35, dutiesTold_ok ?_⟩
      refine ⟨?_, trivial⟩
      show (2 : Int) = errI (d 0).toInt (d 1).toInt (d 2).toInt (d 3).toInt (d 4).toInt (d 6).toInt
      unfold errI saysP rangeP
      repeat' split
      all_goals omega
    have p20 : (d 4).toInt = (0) := of_decide_eq_true h20
    cases h21 : Q.val (OmD d) chkCO_q18
    · have p21 : ¬ ((d 6).toInt = (0)) := of_decide_eq_false h21
      refine ⟨tellA chkCO_u34, _, _, _, tellA_ok (by (repeat refine told_cons (by assumption) ?_); exact told_nil), chkCO_y34, dutiesTold_ok ?_⟩
      refine ⟨?_, trivial⟩
      show (2 : Int) = errI (d 0).toInt (d 1).toInt (d 2).toInt (d 3).toInt (d 4).toInt (d 6).toInt
      unfold errI saysP rangeP
      repeat' split
      all_goals omega
    have p21 : (d 6).toInt = (0) := of_decide_eq_true h21
    refine ⟨tellA chkCO_u33, _, _, _, tellA_ok (by (repeat refine told_cons (by assumption) ?_); exact told_nil), chkCO_y33, dutiesTold_ok ?_⟩
    refine ⟨?_, trivial⟩
    show (0 : Int) = errI (d 0).toInt (d 1).toInt (d 2).toInt (d 3).toInt (d 4).toInt (d 6).toInt
    unfold errI saysP rangeP
    repeat' split
    all_goals omega
  have p16 : (d 0).toInt = (4) := of_decide_eq_true h16
  cases h17 : Q.val (OmD d) chkCO_q14
  · have p17 : ¬ ((1) ≤ (d 1).toInt) := of_decide_eq_false h17
    refine ⟨tellA chkCO_u27, _, _, _, tellA_ok (by (repeat refine told_cons (by assumption) ?_); exact told_nil), chkCO_y27, dutiesTold_ok ?_⟩
    refine ⟨?_, trivial⟩
    show (2 : Int) = errI (d 0).toInt (d 1).toInt (d 2).toInt (d 3).toInt (d 4).toInt (d 6).toInt
    unfold errI saysP rangeP
    repeat' split
    all_goals omega
  have p17 : (1) ≤ (d 1).toInt := of_decide_eq_true h17
  cases h18 : Q.val (OmD d) chkCO_q20
  · have p18 : ¬ ((1) ≤ (d 2).toInt) := of_decide_eq_false h18
    refine ⟨tellA chkCO_u28, _, _, _, tellA_ok (by (repeat refine told_cons (by assumption) ?_); exact told_nil), chkCO_y28, dutiesTold_ok ?_⟩
    refine ⟨?_, trivial⟩
    show (2 : Int) = errI (d 0).toInt (d 1).toInt (d 2).toInt (d 3).toInt (d 4).toInt (d 6).toInt
    unfold errI saysP rangeP
    repeat' split
    all_goals omega
  have p18 : (1) ≤ (d 2).toInt := of_decide_eq_true h18
  cases h19 : Q.val (OmD d) chkCO_q16
  · have p19 : ¬ ((d 3).toInt = (0)) := of_decide_eq_false h19
    refine ⟨tellA chkCO_u31, _, _, _, tellA_ok (by (repeat refine told_cons (by assumption) ?_); exact told_nil), chkCO_y31, dutiesTold_ok ?_⟩
    refine ⟨?_, trivial⟩
    show (2 : Int) = errI (d 0).toInt (d 1).toInt (d 2).toInt (d 3).toInt (d 4).toInt (d 6).toInt
    unfold errI saysP rangeP
    repeat' split
    all_goals omega
  have p19 : (d 3).toInt = (0) := of_decide_eq_true h19
  cases h20 : Q.val (OmD d) chkCO_q18
  · have p20 : ¬ ((d 6).toInt = (0)) := of_decide_eq_false h20
    refine ⟨tellA chkCO_u30, _, _, _, tellA_ok (by (repeat refine told_cons (by assumption) ?_); exact told_nil), chkCO_y30, dutiesTold_ok ?_⟩
    refine ⟨?_, trivial⟩
    show (2 : Int) = errI (d 0).toInt (d 1).toInt (d 2).toInt (d 3).toInt (d 4).toInt (d 6).toInt
    unfold errI saysP rangeP
    repeat' split
    all_goals omega
  have p20 : (d 6).toInt = (0) := of_decide_eq_true h20
  refine ⟨tellA chkCO_u29, _, _, _, tellA_ok (by (repeat refine told_cons (by assumption) ?_); exact told_nil), chkCO_y29, dutiesTold_ok ?_⟩
  refine ⟨?_, trivial⟩
  show (0 : Int) = errI (d 0).toInt (d 1).toInt (d 2).toInt (d 3).toInt (d 4).toInt (d 6).toInt
  unfold errI saysP rangeP
  repeat' split
  all_goals omega

end Go.Proofs.YtlmcjfcfmcdcpaaDoor.F2
