/-
  Contracts of this seat: what loops and calls leave, for all inputs. No condition.
-/
import Derived.Test.YtlmcjfcfmcdcpaaDoorSycp
import Derived.Test.YtlmcjfcfmcdcpaaDoorCo
import Derived.Test.YtlmcjfcfmcdcpaaDoorGa
set_option linter.unusedSimpArgs false
set_option linter.unusedVariables false
namespace Go.Proofs.YtlmcjfcfmcdcpaaDoor.Fa
open Go.RowKit Go.Ev Go.Proofs.YtlmcjfcfmcdcpaaDoor.Co

open Go.Proofs.YtlmcjfcfmcdcpaaDoor.Ga

def chkC : CSpec := { args := [.agg [.sint .i64 (.var 0), .sint .i64 (.var 1), .sint .i64 (.var 2), .sint .i64 (.var 3), .sint .i64 (.var 4), .sslice 3 (.var 5) (.var 6) (.var 7) false]], next := 2, rows := [(3, .eseq ⟨.u8, .var 8, .var 9⟩), (0, .ext cellsG)], pre := [(.le (.int 0) (.var 6), true), (.le (.var 6) (.int 1000000), true)], res := .sint .i64 (.fn 11 (argsE [.var 0, .var 1, .var 2, .var 3, .var 4, .var 6])), frows := [], same := [] }
abbrev OmD (d : Nat → D) : Om := ⟨fun _ => .bool false, d, F⟩
abbrev chkC_q0 : Q := (.le (.int 1) (.var 0))
abbrev chkC_q1 : Q := (.le (.int 6) (.var 0))
abbrev chkC_q2 : Q := (.le (.int 0) (.var 1))
abbrev chkC_q3 : Q := (.le (.var 1) (.int 2147483647))
abbrev chkC_q4 : Q := (.le (.int 0) (.var 2))
abbrev chkC_q5 : Q := (.le (.var 2) (.int 2147483647))
abbrev chkC_q6 : Q := (.le (.int 0) (.var 3))
abbrev chkC_q7 : Q := (.le (.var 3) (.int 2147483647))
abbrev chkC_q8 : Q := (.le (.int 0) (.var 4))
abbrev chkC_q9 : Q := (.le (.var 4) (.int 2147483647))
abbrev chkC_q10 : Q := (.fit .i64 (.var 6))
abbrev chkC_q11 : Q := (.le (.var 6) (.int 1400))
abbrev chkC_q12 : Q := (.eq (.var 0) (.int 0))
abbrev chkC_q13 : Q := (.eq (.var 0) (.int 1))
abbrev chkC_q14 : Q := (.le (.int 1) (.var 1))
abbrev chkC_q15 : Q := (.eq (.var 2) (.int 0))
abbrev chkC_q16 : Q := (.eq (.var 3) (.int 0))
abbrev chkC_q17 : Q := (.eq (.var 4) (.int 0))
abbrev chkC_q18 : Q := (.eq (.var 6) (.int 0))
abbrev chkC_q19 : Q := (.eq (.var 0) (.int 2))
abbrev chkC_q20 : Q := (.le (.int 1) (.var 2))
abbrev chkC_q21 : Q := (.eq (.var 0) (.int 3))
abbrev chkC_q22 : Q := (.le (.int 1) (.var 3))
abbrev chkC_q23 : Q := (.eq (.var 0) (.int 4))
abbrev chkC_q24 : Q := (.eq (.var 0) (.int 5))
abbrev chkC_u0 : List (Q × Bool) := [(chkC_q0, false)]
def chkC_d0 : List Duty := [(true, (.int 213), (.fn 11 (.bi .pair (.var 0) (.bi .pair (.var 1) (.bi .pair (.var 2) (.bi .pair (.var 3) (.bi .pair (.var 4) (.bi .pair (.var 6) (.int 0)))))))))]
theorem chkC_y0 : endC chkC [] 1000 (callC Tryd.prog (tellA chkC_u0) [] [] [] 3000 40 14 chkC) = some chkC_d0 := by kernel_rfl
abbrev chkC_u1 : List (Q × Bool) := [(chkC_q0, true), (chkC_q1, true)]
theorem chkC_y1 : endC chkC [] 1000 (callC Tryd.prog (tellA chkC_u1) [] [] [] 3000 40 14 chkC) = some chkC_d0 := by kernel_rfl
abbrev chkC_u2 : List (Q × Bool) := [(chkC_q0, true), (chkC_q1, false), (chkC_q2, false)]
def chkC_d1 : List Duty := [(true, (.int 5), (.fn 11 (.bi .pair (.var 0) (.bi .pair (.var 1) (.bi .pair (.var 2) (.bi .pair (.var 3) (.bi .pair (.var 4) (.bi .pair (.var 6) (.int 0)))))))))]
theorem chkC_y2 : endC chkC [] 1000 (callC Tryd.prog (tellA chkC_u2) [] [] [] 3000 40 14 chkC) = some chkC_d1 := by kernel_rfl
abbrev chkC_u3 : List (Q × Bool) := [(chkC_q0, true), (chkC_q1, false), (chkC_q2, true), (chkC_q3, false)]
theorem chkC_y3 : endC chkC [] 1000 (callC Tryd.prog (tellA chkC_u3) [] [] [] 3000 40 14 chkC) = some chkC_d1 := by kernel_rfl
abbrev chkC_u4 : List (Q × Bool) := [(chkC_q0, true), (chkC_q1, false), (chkC_q2, true), (chkC_q3, true), (chkC_q4, false)]
theorem chkC_y4 : endC chkC [] 1000 (callC Tryd.prog (tellA chkC_u4) [] [] [] 3000 40 14 chkC) = some chkC_d1 := by kernel_rfl
abbrev chkC_u5 : List (Q × Bool) := [(chkC_q0, true), (chkC_q1, false), (chkC_q2, true), (chkC_q3, true), (chkC_q4, true), (chkC_q5, false)]
theorem chkC_y5 : endC chkC [] 1000 (callC Tryd.prog (tellA chkC_u5) [] [] [] 3000 40 14 chkC) = some chkC_d1 := by kernel_rfl
abbrev chkC_u6 : List (Q × Bool) := [(chkC_q0, true), (chkC_q1, false), (chkC_q2, true), (chkC_q3, true), (chkC_q4, true), (chkC_q5, true), (chkC_q6, false)]
theorem chkC_y6 : endC chkC [] 1000 (callC Tryd.prog (tellA chkC_u6) [] [] [] 3000 40 14 chkC) = some chkC_d1 := by kernel_rfl
abbrev chkC_u7 : List (Q × Bool) := [(chkC_q0, true), (chkC_q1, false), (chkC_q2, true), (chkC_q3, true), (chkC_q4, true), (chkC_q5, true), (chkC_q6, true), (chkC_q7, false)]
theorem chkC_y7 : endC chkC [] 1000 (callC Tryd.prog (tellA chkC_u7) [] [] [] 3000 40 14 chkC) = some chkC_d1 := by kernel_rfl
abbrev chkC_u8 : List (Q × Bool) := [(chkC_q0, true), (chkC_q1, false), (chkC_q2, true), (chkC_q3, true), (chkC_q4, true), (chkC_q5, true), (chkC_q6, true), (chkC_q7, true), (chkC_q8, false)]
theorem chkC_y8 : endC chkC [] 1000 (callC Tryd.prog (tellA chkC_u8) [] [] [] 3000 40 14 chkC) = some chkC_d1 := by kernel_rfl
abbrev chkC_u9 : List (Q × Bool) := [(chkC_q0, true), (chkC_q1, false), (chkC_q2, true), (chkC_q3, true), (chkC_q4, true), (chkC_q5, true), (chkC_q6, true), (chkC_q7, true), (chkC_q8, true), (chkC_q9, false)]
theorem chkC_y9 : endC chkC [] 1000 (callC Tryd.prog (tellA chkC_u9) [] [] [] 3000 40 14 chkC) = some chkC_d1 := by kernel_rfl
abbrev chkC_u10 : List (Q × Bool) := [(chkC_q0, true), (chkC_q1, false), (chkC_q2, true), (chkC_q3, true), (chkC_q4, true), (chkC_q5, true), (chkC_q6, true), (chkC_q7, true), (chkC_q8, true), (chkC_q9, true), (chkC_q10, true), (chkC_q11, false)]
def chkC_d2 : List Duty := [(true, (.int 3), (.fn 11 (.bi .pair (.var 0) (.bi .pair (.var 1) (.bi .pair (.var 2) (.bi .pair (.var 3) (.bi .pair (.var 4) (.bi .pair (.var 6) (.int 0)))))))))]
theorem chkC_y10 : endC chkC [] 1000 (callC Tryd.prog (tellA chkC_u10) [] [] [] 3000 40 14 chkC) = some chkC_d2 := by kernel_rfl
abbrev chkC_u11 : List (Q × Bool) := [(chkC_q0, true), (chkC_q1, false), (chkC_q2, true), (chkC_q3, true), (chkC_q4, true), (chkC_q5, true), (chkC_q6, true), (chkC_q7, true), (chkC_q8, true), (chkC_q9, true), (chkC_q10, true), (chkC_q11, true), (chkC_q12, false), (chkC_q13, true), (chkC_q14, false)]
def chkC_d3 : List Duty := [(true, (.int 2), (.fn 11 (.bi .pair (.var 0) (.bi .pair (.var 1) (.bi .pair (.var 2) (.bi .pair (.var 3) (.bi .pair (.var 4) (.bi .pair (.var 6) (.int 0)))))))))]
theorem chkC_y11 : endC chkC [] 1000 (callC Tryd.prog (tellA chkC_u11) [] [] [] 3000 40 14 chkC) = some chkC_d3 := by kernel_rfl
abbrev chkC_u12 : List (Q × Bool) := [(chkC_q0, true), (chkC_q1, false), (chkC_q2, true), (chkC_q3, true), (chkC_q4, true), (chkC_q5, true), (chkC_q6, true), (chkC_q7, true), (chkC_q8, true), (chkC_q9, true), (chkC_q10, true), (chkC_q11, true), (chkC_q12, false), (chkC_q13, true), (chkC_q14, true), (chkC_q15, true), (chkC_q16, true), (chkC_q17, true), (chkC_q18, true)]
def chkC_d4 : List Duty := [(true, (.int 0), (.fn 11 (.bi .pair (.var 0) (.bi .pair (.var 1) (.bi .pair (.var 2) (.bi .pair (.var 3) (.bi .pair (.var 4) (.bi .pair (.var 6) (.int 0)))))))))]
theorem chkC_y12 : endC chkC [] 1000 (callC Tryd.prog (tellA chkC_u12) [] [] [] 3000 40 14 chkC) = some chkC_d4 := by kernel_rfl
abbrev chkC_u13 : List (Q × Bool) := [(chkC_q0, true), (chkC_q1, false), (chkC_q2, true), (chkC_q3, true), (chkC_q4, true), (chkC_q5, true), (chkC_q6, true), (chkC_q7, true), (chkC_q8, true), (chkC_q9, true), (chkC_q10, true), (chkC_q11, true), (chkC_q12, false), (chkC_q13, true), (chkC_q14, true), (chkC_q15, true), (chkC_q16, true), (chkC_q17, true), (chkC_q18, false)]
theorem chkC_y13 : endC chkC [] 1000 (callC Tryd.prog (tellA chkC_u13) [] [] [] 3000 40 14 chkC) = some chkC_d3 := by kernel_rfl
abbrev chkC_u14 : List (Q × Bool) := [(chkC_q0, true), (chkC_q1, false), (chkC_q2, true), (chkC_q3, true), (chkC_q4, true), (chkC_q5, true), (chkC_q6, true), (chkC_q7, true), (chkC_q8, true), (chkC_q9, true), (chkC_q10, true), (chkC_q11, true), (chkC_q12, false), (chkC_q13, true), (chkC_q14, true), (chkC_q15, true), (chkC_q16, true), (chkC_q17, false)]
theorem chkC_y14 : endC chkC [] 1000 (callC Tryd.prog (tellA chkC_u14) [] [] [] 3000 40 14 chkC) = some chkC_d3 := by kernel_rfl
abbrev chkC_u15 : List (Q × Bool) := [(chkC_q0, true), (chkC_q1, false), (chkC_q2, true), (chkC_q3, true), (chkC_q4, true), (chkC_q5, true), (chkC_q6, true), (chkC_q7, true), (chkC_q8, true), (chkC_q9, true), (chkC_q10, true), (chkC_q11, true), (chkC_q12, false), (chkC_q13, true), (chkC_q14, true), (chkC_q15, true), (chkC_q16, false)]
theorem chkC_y15 : endC chkC [] 1000 (callC Tryd.prog (tellA chkC_u15) [] [] [] 3000 40 14 chkC) = some chkC_d3 := by kernel_rfl
abbrev chkC_u16 : List (Q × Bool) := [(chkC_q0, true), (chkC_q1, false), (chkC_q2, true), (chkC_q3, true), (chkC_q4, true), (chkC_q5, true), (chkC_q6, true), (chkC_q7, true), (chkC_q8, true), (chkC_q9, true), (chkC_q10, true), (chkC_q11, true), (chkC_q12, false), (chkC_q13, true), (chkC_q14, true), (chkC_q15, false)]
theorem chkC_y16 : endC chkC [] 1000 (callC Tryd.prog (tellA chkC_u16) [] [] [] 3000 40 14 chkC) = some chkC_d3 := by kernel_rfl
abbrev chkC_u17 : List (Q × Bool) := [(chkC_q0, true), (chkC_q1, false), (chkC_q2, true), (chkC_q3, true), (chkC_q4, true), (chkC_q5, true), (chkC_q6, true), (chkC_q7, true), (chkC_q8, true), (chkC_q9, true), (chkC_q10, true), (chkC_q11, true), (chkC_q12, false), (chkC_q13, false), (chkC_q19, true), (chkC_q14, false)]
theorem chkC_y17 : endC chkC [] 1000 (callC Tryd.prog (tellA chkC_u17) [] [] [] 3000 40 14 chkC) = some chkC_d3 := by kernel_rfl
abbrev chkC_u18 : List (Q × Bool) := [(chkC_q0, true), (chkC_q1, false), (chkC_q2, true), (chkC_q3, true), (chkC_q4, true), (chkC_q5, true), (chkC_q6, true), (chkC_q7, true), (chkC_q8, true), (chkC_q9, true), (chkC_q10, true), (chkC_q11, true), (chkC_q12, false), (chkC_q13, false), (chkC_q19, true), (chkC_q14, true), (chkC_q20, false)]
theorem chkC_y18 : endC chkC [] 1000 (callC Tryd.prog (tellA chkC_u18) [] [] [] 3000 40 14 chkC) = some chkC_d3 := by kernel_rfl
abbrev chkC_u19 : List (Q × Bool) := [(chkC_q0, true), (chkC_q1, false), (chkC_q2, true), (chkC_q3, true), (chkC_q4, true), (chkC_q5, true), (chkC_q6, true), (chkC_q7, true), (chkC_q8, true), (chkC_q9, true), (chkC_q10, true), (chkC_q11, true), (chkC_q12, false), (chkC_q13, false), (chkC_q19, true), (chkC_q14, true), (chkC_q20, true), (chkC_q16, true), (chkC_q17, true), (chkC_q18, true)]
theorem chkC_y19 : endC chkC [] 1000 (callC Tryd.prog (tellA chkC_u19) [] [] [] 3000 40 14 chkC) = some chkC_d4 := by kernel_rfl
abbrev chkC_u20 : List (Q × Bool) := [(chkC_q0, true), (chkC_q1, false), (chkC_q2, true), (chkC_q3, true), (chkC_q4, true), (chkC_q5, true), (chkC_q6, true), (chkC_q7, true), (chkC_q8, true), (chkC_q9, true), (chkC_q10, true), (chkC_q11, true), (chkC_q12, false), (chkC_q13, false), (chkC_q19, true), (chkC_q14, true), (chkC_q20, true), (chkC_q16, true), (chkC_q17, true), (chkC_q18, false)]
theorem chkC_y20 : endC chkC [] 1000 (callC Tryd.prog (tellA chkC_u20) [] [] [] 3000 40 14 chkC) = some chkC_d3 := by kernel_rfl
abbrev chkC_u21 : List (Q × Bool) := [(chkC_q0, true), (chkC_q1, false), (chkC_q2, true), (chkC_q3, true), (chkC_q4, true), (chkC_q5, true), (chkC_q6, true), (chkC_q7, true), (chkC_q8, true), (chkC_q9, true), (chkC_q10, true), (chkC_q11, true), (chkC_q12, false), (chkC_q13, false), (chkC_q19, true), (chkC_q14, true), (chkC_q20, true), (chkC_q16, true), (chkC_q17, false)]
theorem chkC_y21 : endC chkC [] 1000 (callC Tryd.prog (tellA chkC_u21) [] [] [] 3000 40 14 chkC) = some chkC_d3 := by kernel_rfl
abbrev chkC_u22 : List (Q × Bool) := [(chkC_q0, true), (chkC_q1, false), (chkC_q2, true), (chkC_q3, true), (chkC_q4, true), (chkC_q5, true), (chkC_q6, true), (chkC_q7, true), (chkC_q8, true), (chkC_q9, true), (chkC_q10, true), (chkC_q11, true), (chkC_q12, false), (chkC_q13, false), (chkC_q19, true), (chkC_q14, true), (chkC_q20, true), (chkC_q16, false)]
theorem chkC_y22 : endC chkC [] 1000 (callC Tryd.prog (tellA chkC_u22) [] [] [] 3000 40 14 chkC) = some chkC_d3 := by kernel_rfl
abbrev chkC_u23 : List (Q × Bool) := [(chkC_q0, true), (chkC_q1, false), (chkC_q2, true), (chkC_q3, true), (chkC_q4, true), (chkC_q5, true), (chkC_q6, true), (chkC_q7, true), (chkC_q8, true), (chkC_q9, true), (chkC_q10, true), (chkC_q11, true), (chkC_q12, false), (chkC_q13, false), (chkC_q19, false), (chkC_q21, true), (chkC_q14, false)]
theorem chkC_y23 : endC chkC [] 1000 (callC Tryd.prog (tellA chkC_u23) [] [] [] 3000 40 14 chkC) = some chkC_d3 := by kernel_rfl
abbrev chkC_u24 : List (Q × Bool) := [(chkC_q0, true), (chkC_q1, false), (chkC_q2, true), (chkC_q3, true), (chkC_q4, true), (chkC_q5, true), (chkC_q6, true), (chkC_q7, true), (chkC_q8, true), (chkC_q9, true), (chkC_q10, true), (chkC_q11, true), (chkC_q12, false), (chkC_q13, false), (chkC_q19, false), (chkC_q21, true), (chkC_q14, true), (chkC_q20, false)]
theorem chkC_y24 : endC chkC [] 1000 (callC Tryd.prog (tellA chkC_u24) [] [] [] 3000 40 14 chkC) = some chkC_d3 := by kernel_rfl
abbrev chkC_u25 : List (Q × Bool) := [(chkC_q0, true), (chkC_q1, false), (chkC_q2, true), (chkC_q3, true), (chkC_q4, true), (chkC_q5, true), (chkC_q6, true), (chkC_q7, true), (chkC_q8, true), (chkC_q9, true), (chkC_q10, true), (chkC_q11, true), (chkC_q12, false), (chkC_q13, false), (chkC_q19, false), (chkC_q21, true), (chkC_q14, true), (chkC_q20, true), (chkC_q22, false)]
theorem chkC_y25 : endC chkC [] 1000 (callC Tryd.prog (tellA chkC_u25) [] [] [] 3000 40 14 chkC) = some chkC_d3 := by kernel_rfl
abbrev chkC_u26 : List (Q × Bool) := [(chkC_q0, true), (chkC_q1, false), (chkC_q2, true), (chkC_q3, true), (chkC_q4, true), (chkC_q5, true), (chkC_q6, true), (chkC_q7, true), (chkC_q8, true), (chkC_q9, true), (chkC_q10, true), (chkC_q11, true), (chkC_q12, false), (chkC_q13, false), (chkC_q19, false), (chkC_q21, true), (chkC_q14, true), (chkC_q20, true), (chkC_q22, true)]
theorem chkC_y26 : endC chkC [] 1000 (callC Tryd.prog (tellA chkC_u26) [] [] [] 3000 40 14 chkC) = some chkC_d4 := by kernel_rfl
abbrev chkC_u27 : List (Q × Bool) := [(chkC_q0, true), (chkC_q1, false), (chkC_q2, true), (chkC_q3, true), (chkC_q4, true), (chkC_q5, true), (chkC_q6, true), (chkC_q7, true), (chkC_q8, true), (chkC_q9, true), (chkC_q10, true), (chkC_q11, true), (chkC_q12, false), (chkC_q13, false), (chkC_q19, false), (chkC_q21, false), (chkC_q23, true), (chkC_q14, false)]
theorem chkC_y27 : endC chkC [] 1000 (callC Tryd.prog (tellA chkC_u27) [] [] [] 3000 40 14 chkC) = some chkC_d3 := by kernel_rfl
abbrev chkC_u28 : List (Q × Bool) := [(chkC_q0, true), (chkC_q1, false), (chkC_q2, true), (chkC_q3, true), (chkC_q4, true), (chkC_q5, true), (chkC_q6, true), (chkC_q7, true), (chkC_q8, true), (chkC_q9, true), (chkC_q10, true), (chkC_q11, true), (chkC_q12, false), (chkC_q13, false), (chkC_q19, false), (chkC_q21, false), (chkC_q23, true), (chkC_q14, true), (chkC_q20, false)]
theorem chkC_y28 : endC chkC [] 1000 (callC Tryd.prog (tellA chkC_u28) [] [] [] 3000 40 14 chkC) = some chkC_d3 := by kernel_rfl
abbrev chkC_u29 : List (Q × Bool) := [(chkC_q0, true), (chkC_q1, false), (chkC_q2, true), (chkC_q3, true), (chkC_q4, true), (chkC_q5, true), (chkC_q6, true), (chkC_q7, true), (chkC_q8, true), (chkC_q9, true), (chkC_q10, true), (chkC_q11, true), (chkC_q12, false), (chkC_q13, false), (chkC_q19, false), (chkC_q21, false), (chkC_q23, true), (chkC_q14, true), (chkC_q20, true), (chkC_q16, true), (chkC_q18, true)]
theorem chkC_y29 : endC chkC [] 1000 (callC Tryd.prog (tellA chkC_u29) [] [] [] 3000 40 14 chkC) = some chkC_d4 := by kernel_rfl
abbrev chkC_u30 : List (Q × Bool) := [(chkC_q0, true), (chkC_q1, false), (chkC_q2, true), (chkC_q3, true), (chkC_q4, true), (chkC_q5, true), (chkC_q6, true), (chkC_q7, true), (chkC_q8, true), (chkC_q9, true), (chkC_q10, true), (chkC_q11, true), (chkC_q12, false), (chkC_q13, false), (chkC_q19, false), (chkC_q21, false), (chkC_q23, true), (chkC_q14, true), (chkC_q20, true), (chkC_q16, true), (chkC_q18, false)]
theorem chkC_y30 : endC chkC [] 1000 (callC Tryd.prog (tellA chkC_u30) [] [] [] 3000 40 14 chkC) = some chkC_d3 := by kernel_rfl
abbrev chkC_u31 : List (Q × Bool) := [(chkC_q0, true), (chkC_q1, false), (chkC_q2, true), (chkC_q3, true), (chkC_q4, true), (chkC_q5, true), (chkC_q6, true), (chkC_q7, true), (chkC_q8, true), (chkC_q9, true), (chkC_q10, true), (chkC_q11, true), (chkC_q12, false), (chkC_q13, false), (chkC_q19, false), (chkC_q21, false), (chkC_q23, true), (chkC_q14, true), (chkC_q20, true), (chkC_q16, false)]
theorem chkC_y31 : endC chkC [] 1000 (callC Tryd.prog (tellA chkC_u31) [] [] [] 3000 40 14 chkC) = some chkC_d3 := by kernel_rfl
abbrev chkC_u32 : List (Q × Bool) := [(chkC_q0, true), (chkC_q1, false), (chkC_q2, true), (chkC_q3, true), (chkC_q4, true), (chkC_q5, true), (chkC_q6, true), (chkC_q7, true), (chkC_q8, true), (chkC_q9, true), (chkC_q10, true), (chkC_q11, true), (chkC_q12, false), (chkC_q13, false), (chkC_q19, false), (chkC_q21, false), (chkC_q23, false), (chkC_q24, true), (chkC_q14, false)]
theorem chkC_y32 : endC chkC [] 1000 (callC Tryd.prog (tellA chkC_u32) [] [] [] 3000 40 14 chkC) = some chkC_d3 := by kernel_rfl
abbrev chkC_u33 : List (Q × Bool) := [(chkC_q0, true), (chkC_q1, false), (chkC_q2, true), (chkC_q3, true), (chkC_q4, true), (chkC_q5, true), (chkC_q6, true), (chkC_q7, true), (chkC_q8, true), (chkC_q9, true), (chkC_q10, true), (chkC_q11, true), (chkC_q12, false), (chkC_q13, false), (chkC_q19, false), (chkC_q21, false), (chkC_q23, false), (chkC_q24, true), (chkC_q14, true), (chkC_q16, true), (chkC_q17, true), (chkC_q18, true)]
theorem chkC_y33 : endC chkC [] 1000 (callC Tryd.prog (tellA chkC_u33) [] [] [] 3000 40 14 chkC) = some chkC_d4 := by kernel_rfl
abbrev chkC_u34 : List (Q × Bool) := [(chkC_q0, true), (chkC_q1, false), (chkC_q2, true), (chkC_q3, true), (chkC_q4, true), (chkC_q5, true), (chkC_q6, true), (chkC_q7, true), (chkC_q8, true), (chkC_q9, true), (chkC_q10, true), (chkC_q11, true), (chkC_q12, false), (chkC_q13, false), (chkC_q19, false), (chkC_q21, false), (chkC_q23, false), (chkC_q24, true), (chkC_q14, true), (chkC_q16, true), (chkC_q17, true), (chkC_q18, false)]
theorem chkC_y34 : endC chkC [] 1000 (callC Tryd.prog (tellA chkC_u34) [] [] [] 3000 40 14 chkC) = some chkC_d3 := by kernel_rfl
abbrev chkC_u35 : List (Q × Bool) := [(chkC_q0, true), (chkC_q1, false), (chkC_q2, true), (chkC_q3, true), (chkC_q4, true), (chkC_q5, true), (chkC_q6, true), (chkC_q7, true), (chkC_q8, true), (chkC_q9, true), (chkC_q10, true), (chkC_q11, true), (chkC_q12, false), (chkC_q13, false), (chkC_q19, false), (chkC_q21, false), (chkC_q23, false), (chkC_q24, true), (chkC_q14, true), (chkC_q16, true), (chkC_q17, false)]
theorem chkC_y35 : endC chkC [] 1000 (callC Tryd.prog (tellA chkC_u35) [] [] [] 3000 40 14 chkC) = some chkC_d3 := by kernel_rfl
abbrev chkC_u36 : List (Q × Bool) := [(chkC_q0, true), (chkC_q1, false), (chkC_q2, true), (chkC_q3, true), (chkC_q4, true), (chkC_q5, true), (chkC_q6, true), (chkC_q7, true), (chkC_q8, true), (chkC_q9, true), (chkC_q10, true), (chkC_q11, true), (chkC_q12, false), (chkC_q13, false), (chkC_q19, false), (chkC_q21, false), (chkC_q23, false), (chkC_q24, true), (chkC_q14, true), (chkC_q16, false)]
theorem chkC_y36 : endC chkC [] 1000 (callC Tryd.prog (tellA chkC_u36) [] [] [] 3000 40 14 chkC) = some chkC_d3 := by kernel_rfl
set_option maxHeartbeats 8000000 in
theorem chkC_holds : CHolds Tryd.prog 14 chkC F := by
  refine cholds_of sound (tableNil _ _) (specsNil _ _) (oversNil _ _) (fuel := 3000) (depth := 40) (by kernel_rfl) fun d hp hR hA => ?_
  have hp := allTold'_iff.2 hp
  simp only [chkC, allTold', dutiesTold, factsA, factsC, factsP, factsR, AV.facts, RW.facts, inK, and_true, Q.holds', E.i, E.s, E.n, D.nat, E.den, BO.den, UO.den, TO.den, D.toInt_int, D.toList_list, D.ints_ofInts, i64min, i64max, u8min, u8max, u16min, u16max, u32min, u32max, u64min, u64max, i32min, i32max, Om.sub, selI, ints_app, ints_cut, ints_upd, ints_rep, ints_splice, ints_seg, len_ints] at hp hR hA
  cases h0 : Q.val (OmD d) chkC_q0
  · have p0 : ¬ ((1) ≤ (d 0).toInt) := of_decide_eq_false h0
    refine ⟨tellA chkC_u0, _, _, _, tellA_ok (told_cons h0 told_nil), chkC_y0, dutiesTold_ok ?_⟩
    refine ⟨?_, trivial⟩
    show (213 : Int) = errI (d 0).toInt (d 1).toInt (d 2).toInt (d 3).toInt (d 4).toInt (d 6).toInt
    unfold errI saysP rangeP
    repeat' split
    all_goals omega
  have p0 : (1) ≤ (d 0).toInt := of_decide_eq_true h0
  cases h1 : Q.val (OmD d) chkC_q1
  rotate_left
  · have p1 : (6) ≤ (d 0).toInt := of_decide_eq_true h1
    refine ⟨tellA chkC_u1, _, _, _, tellA_ok (told_cons h0 (told_cons h1 told_nil)), chkC_y1, dutiesTold_ok ?_⟩
    refine ⟨?_, trivial⟩
    show (213 : Int) = errI (d 0).toInt (d 1).toInt (d 2).toInt (d 3).toInt (d 4).toInt (d 6).toInt
    unfold errI saysP rangeP
    repeat' split
    all_goals omega
  have p1 : ¬ ((6) ≤ (d 0).toInt) := of_decide_eq_false h1
  cases h2 : Q.val (OmD d) chkC_q2
  · have p2 : ¬ ((0) ≤ (d 1).toInt) := of_decide_eq_false h2
    refine ⟨tellA chkC_u2, _, _, _, tellA_ok (told_cons h0 (told_cons h1 (told_cons h2 told_nil))), chkC_y2, dutiesTold_ok ?_⟩
    refine ⟨?_, trivial⟩
    show (5 : Int) = errI (d 0).toInt (d 1).toInt (d 2).toInt (d 3).toInt (d 4).toInt (d 6).toInt
    unfold errI saysP rangeP
    repeat' split
    all_goals omega
  have p2 : (0) ≤ (d 1).toInt := of_decide_eq_true h2
  cases h3 : Q.val (OmD d) chkC_q3
  · have p3 : ¬ ((d 1).toInt ≤ (2147483647)) := of_decide_eq_false h3
    refine ⟨tellA chkC_u3, _, _, _, tellA_ok (by (repeat refine told_cons (by assumption) ?_); exact told_nil), chkC_y3, dutiesTold_ok ?_⟩
    refine ⟨?_, trivial⟩
    show (5 : Int) = errI (d 0).toInt (d 1).toInt (d 2).toInt (d 3).toInt (d 4).toInt (d 6).toInt
    unfold errI saysP rangeP
    repeat' split
    all_goals omega
  have p3 : (d 1).toInt ≤ (2147483647) := of_decide_eq_true h3
  cases h4 : Q.val (OmD d) chkC_q4
  · have p4 : ¬ ((0) ≤ (d 2).toInt) := of_decide_eq_false h4
    refine ⟨tellA chkC_u4, _, _, _, tellA_ok (by (repeat refine told_cons (by assumption) ?_); exact told_nil), chkC_y4, dutiesTold_ok ?_⟩
    refine ⟨?_, trivial⟩
    show (5 : Int) = errI (d 0).toInt (d 1).toInt (d 2).toInt (d 3).toInt (d 4).toInt (d 6).toInt
    unfold errI saysP rangeP
    repeat' split
    all_goals omega
  have p4 : (0) ≤ (d 2).toInt := of_decide_eq_true h4
  cases h5 : Q.val (OmD d) chkC_q5
  · have p5 : ¬ ((d 2).toInt ≤ (2147483647)) := of_decide_eq_false h5
    refine ⟨tellA chkC_u5, _, _, _, tellA_ok (by (repeat refine told_cons (by assumption) ?_); exact told_nil), chkC_y5, dutiesTold_ok ?_⟩
    refine ⟨?_, trivial⟩
    show (5 : Int) = errI (d 0).toInt (d 1).toInt (d 2).toInt (d 3).toInt (d 4).toInt (d 6).toInt
    unfold errI saysP rangeP
    repeat' split
    all_goals omega
  have p5 : (d 2).toInt ≤ (2147483647) := of_decide_eq_true h5
  cases h6 : Q.val (OmD d) chkC_q6
  · have p6 : ¬ ((0) ≤ (d 3).toInt) := of_decide_eq_false h6
    refine ⟨tellA chkC_u6, _, _, _, tellA_ok (by (repeat refine told_cons (by assumption) ?_); exact told_nil), chkC_y6, dutiesTold_ok ?_⟩
    refine ⟨?_, trivial⟩
    show (5 : Int) = errI (d 0).toInt (d 1).toInt (d 2).toInt (d 3).toInt (d 4).toInt (d 6).toInt
    unfold errI saysP rangeP
    repeat' split
    all_goals omega
  have p6 : (0) ≤ (d 3).toInt := of_decide_eq_true h6
  cases h7 : Q.val (OmD d) chkC_q7
  · have p7 : ¬ ((d 3).toInt ≤ (2147483647)) := of_decide_eq_false h7
    refine ⟨tellA chkC_u7, _, _, _, tellA_ok (by (repeat refine told_cons (by assumption) ?_); exact told_nil), chkC_y7, dutiesTold_ok ?_⟩
    refine ⟨?_, trivial⟩
    show (5 : Int) = errI (d 0).toInt (d 1).toInt (d 2).toInt (d 3).toInt (d 4).toInt (d 6).toInt
    unfold errI saysP rangeP
    repeat' split
    all_goals omega
  have p7 : (d 3).toInt ≤ (2147483647) := of_decide_eq_true h7
  cases h8 : Q.val (OmD d) chkC_q8
  · have p8 : ¬ ((0) ≤ (d 4).toInt) := of_decide_eq_false h8
    refine ⟨tellA chkC_u8, _, _, _, tellA_ok (by (repeat refine told_cons (by assumption) ?_); exact told_nil), chkC_y8, dutiesTold_ok ?_⟩
    refine ⟨?_, trivial⟩
    show (5 : Int) = errI (d 0).toInt (d 1).toInt (d 2).toInt (d 3).toInt (d 4).toInt (d 6).toInt
    unfold errI saysP rangeP
    repeat' split
    all_goals omega
  have p8 : (0) ≤ (d 4).toInt := of_decide_eq_true h8
  cases h9 : Q.val (OmD d) chkC_q9
  · have p9 : ¬ ((d 4).toInt ≤ (2147483647)) := of_decide_eq_false h9
    refine ⟨tellA chkC_u9, _, _, _, tellA_ok (by (repeat refine told_cons (by assumption) ?_); exact told_nil), chkC_y9, dutiesTold_ok ?_⟩
    refine ⟨?_, trivial⟩
    show (5 : Int) = errI (d 0).toInt (d 1).toInt (d 2).toInt (d 3).toInt (d 4).toInt (d 6).toInt
    unfold errI saysP rangeP
    repeat' split
    all_goals omega
  have p9 : (d 4).toInt ≤ (2147483647) := of_decide_eq_true h9
  have p10 : -9223372036854775808 ≤ (d 6).toInt ∧ (d 6).toInt ≤ 9223372036854775807 := by omega
  have h10 : Q.val (OmD d) chkC_q10 = true := decide_eq_true p10
  cases h11 : Q.val (OmD d) chkC_q11
  · have p11 : ¬ ((d 6).toInt ≤ (1400)) := of_decide_eq_false h11
    refine ⟨tellA chkC_u10, _, _, _, tellA_ok (by (repeat refine told_cons (by assumption) ?_); exact told_nil), chkC_y10, dutiesTold_ok ?_⟩
    refine ⟨?_, trivial⟩
    show (3 : Int) = errI (d 0).toInt (d 1).toInt (d 2).toInt (d 3).toInt (d 4).toInt (d 6).toInt
    unfold errI saysP rangeP
    repeat' split
    all_goals omega
  have p11 : (d 6).toInt ≤ (1400) := of_decide_eq_true h11
  have p12 : ¬ ((d 0).toInt = (0)) := by omega
  have h12 : Q.val (OmD d) chkC_q12 = false := decide_eq_false p12
  cases h13 : Q.val (OmD d) chkC_q13
  rotate_left
  · have p13 : (d 0).toInt = (1) := of_decide_eq_true h13
    cases h14 : Q.val (OmD d) chkC_q14
    · have p14 : ¬ ((1) ≤ (d 1).toInt) := of_decide_eq_false h14
      refine ⟨tellA chkC_u11, _, _, _, tellA_ok (by (repeat refine told_cons (by assumption) ?_); exact told_nil), chkC_y11, dutiesTold_ok ?_⟩
      refine ⟨?_, trivial⟩
      show (2 : Int) = errI (d 0).toInt (d 1).toInt (d 2).toInt (d 3).toInt (d 4).toInt (d 6).toInt
      unfold errI saysP rangeP
      repeat' split
      all_goals omega
    have p14 : (1) ≤ (d 1).toInt := of_decide_eq_true h14
    cases h15 : Q.val (OmD d) chkC_q15
    · have p15 : ¬ ((d 2).toInt = (0)) := of_decide_eq_false h15
      refine ⟨tellA chkC_u16, _, _, _, tellA_ok (by (repeat refine told_cons (by assumption) ?_); exact told_nil), chkC_y16, dutiesTold_ok ?_⟩
      refine ⟨?_, trivial⟩
      show (2 : Int) = errI (d 0).toInt (d 1).toInt (d 2).toInt (d 3).toInt (d 4).toInt (d 6).toInt
      unfold errI saysP rangeP
      repeat' split
      all_goals omega
    have p15 : (d 2).toInt = (0) := of_decide_eq_true h15
    cases h16 : Q.val (OmD d) chkC_q16
    · have p16 : ¬ ((d 3).toInt = (0)) := of_decide_eq_false h16
      refine ⟨tellA chkC_u15, _, _, _, tellA_ok (by (repeat refine told_cons (by assumption) ?_); exact told_nil), chkC_y15, dutiesTold_ok ?_⟩
      refine ⟨?_, trivial⟩
      show (2 : Int) = errI (d 0).toInt (d 1).toInt (d 2).toInt (d 3).toInt (d 4).toInt (d 6).toInt
      unfold errI saysP rangeP
      repeat' split
      all_goals omega
    have p16 : (d 3).toInt = (0) := of_decide_eq_true h16
    cases h17 : Q.val (OmD d) chkC_q17
    · have p17 : ¬ ((d 4).toInt = (0)) := of_decide_eq_false h17
      refine ⟨tellA chkC_u14, _, _, _, tellA_ok (by (repeat refine told_cons (by assumption) ?_); exact told_nil), chkC_y14, dutiesTold_ok ?_⟩
      refine ⟨?_, trivial⟩
      show (2 : Int) = errI (d 0).toInt (d 1).toInt (d 2).toInt (d 3).toInt (d 4).toInt (d 6).toInt
      unfold errI saysP rangeP
      repeat' split
      all_goals omega
    have p17 : (d 4).toInt = (0) := of_decide_eq_true h17
    cases h18 : Q.val (OmD d) chkC_q18
    · have p18 : ¬ ((d 6).toInt = (0)) := of_decide_eq_false h18
      refine ⟨tellA chkC_u13, _, _, _, tellA_ok (by (repeat refine told_cons (by assumption) ?_); exact told_nil), chkC_y13, dutiesTold_ok ?_⟩
      refine ⟨?_, trivial⟩
      show (2 : Int) = errI (d 0).toInt (d 1).toInt (d 2).toInt (d 3).toInt (d 4).toInt (d 6).toInt
      unfold errI saysP rangeP
      repeat' split
      all_goals omega
    have p18 : (d 6).toInt = (0) := of_decide_eq_true h18
    refine ⟨tellA chkC_u12, _, _, _, tellA_ok (by (repeat refine told_cons (by assumption) ?_); exact told_nil), chkC_y12, dutiesTold_ok ?_⟩
    refine ⟨?_, trivial⟩
    show (0 : Int) = errI (d 0).toInt (d 1).toInt (d 2).toInt (d 3).toInt (d 4).toInt (d 6).toInt
    unfold errI saysP rangeP
    repeat' split
    all_goals omega
  have p13 : ¬ ((d 0).toInt = (1)) := of_decide_eq_false h13
  cases h14 : Q.val (OmD d) chkC_q19
  rotate_left
  · have p14 : (d 0).toInt = (2) := of_decide_eq_true h14
    cases h15 : Q.val (OmD d) chkC_q14
    · have p15 : ¬ ((1) ≤ (d 1).toInt) := of_decide_eq_false h15
      refine ⟨tellA chkC_u17, _, _, _, tellA_ok (by (repeat refine told_cons (by assumption) ?_); exact told_nil), chkC_y17, dutiesTold_ok ?_⟩
      refine ⟨?_, trivial⟩
      show (2 : Int) = errI (d 0).toInt (d 1).toInt (d 2).toInt (d 3).toInt (d 4).toInt (d 6).toInt
      unfold errI saysP rangeP
      repeat' split
      all_goals omega
    have p15 : (1) ≤ (d 1).toInt := of_decide_eq_true h15
    cases h16 : Q.val (OmD d) chkC_q20
    · have p16 : ¬ ((1) ≤ (d 2).toInt) := of_decide_eq_false h16
      refine ⟨tellA chkC_u18, _, _, _, tellA_ok (by (repeat refine told_cons (by assumption) ?_); exact told_nil), chkC_y18, dutiesTold_ok ?_⟩
      refine ⟨?_, trivial⟩
      show (2 : Int) = errI (d 0).toInt (d 1).toInt (d 2).toInt (d 3).toInt (d 4).toInt (d 6).toInt
      unfold errI saysP rangeP
      repeat' split
      all_goals omega
    have p16 : (1) ≤ (d 2).toInt := of_decide_eq_true h16
    cases h17 : Q.val (OmD d) chkC_q16
    · have p17 : ¬ ((d 3).toInt = (0)) := of_decide_eq_false h17
      refine ⟨tellA chkC_u22, _, _, _, tellA_ok (by (repeat refine told_cons (by assumption) ?_); exact told_nil), chkC_y22, dutiesTold_ok ?_⟩
      refine ⟨?_, trivial⟩
      show (2 : Int) = errI (d 0).toInt (d 1).toInt (d 2).toInt (d 3).toInt (d 4).toInt (d 6).toInt
      unfold errI saysP rangeP
      repeat' split
      all_goals omega
    have p17 : (d 3).toInt = (0) := of_decide_eq_true h17
    cases h18 : Q.val (OmD d) chkC_q17
    · have p18 : ¬ ((d 4).toInt = (0)) := of_decide_eq_false h18
      refine ⟨tellA chkC_u21, _, _, _, tellA_ok (by (repeat refine told_cons (by assumption) ?_); exact told_nil), chkC_y21, dutiesTold_ok ?_⟩
      refine ⟨?_, trivial⟩
      show (2 : Int) = errI (d 0).toInt (d 1).toInt (d 2).toInt (d 3).toInt (d 4).toInt (d 6).toInt
      unfold errI saysP rangeP
      repeat' split
      all_goals omega
    have p18 : (d 4).toInt = (0) := of_decide_eq_true h18
    cases h19 : Q.val (OmD d) chkC_q18
    · have p19 : ¬ ((d 6).toInt = (0)) := of_decide_eq_false h19
      refine ⟨tellA chkC_u20, _, _, _, tellA_ok (by (repeat refine told_cons (by assumption) ?_); exact told_nil), chkC_y20, dutiesTold_ok ?_⟩
      refine ⟨?_, trivial⟩
      show (2 : Int) = errI (d 0).toInt (d 1).toInt (d 2).toInt (d 3).toInt (d 4).toInt (d 6).toInt
      unfold errI saysP rangeP
      repeat' split
      all_goals omega
    have p19 : (d 6).toInt = (0) := of_decide_eq_true h19
    refine ⟨tellA chkC_u19, _, _, _, tellA_ok (by (repeat refine told_cons (by assumption) ?_); exact told_nil), chkC_y19, dutiesTold_ok ?_⟩
    refine ⟨?_, trivial⟩
    show (0 : Int) = errI (d 0).toInt (d 1).toInt (d 2).toInt (d 3).toInt (d 4).toInt (d 6).toInt
    unfold errI saysP rangeP
    repeat' split
    all_goals omega
  have p14 : ¬ ((d 0).toInt = (2)) := of_decide_eq_false h14
  cases h15 : Q.val (OmD d) chkC_q21
  rotate_left
  · have p15 : (d 0).toInt = (3) := of_decide_eq_true h15
    cases h16 : Q.val (OmD d) chkC_q14
    · have p16 : ¬ ((1) ≤ (d 1).toInt) := of_decide_eq_false h16
      refine ⟨tellA chkC_u23, _, _, _, tellA_ok (by (repeat refine told_cons (by assumption) ?_); exact told_nil), chkC_y23, dutiesTold_ok ?_⟩
      refine ⟨?_, trivial⟩
      show (2 : Int) = errI (d 0).toInt (d 1).toInt (d 2).toInt (d 3).toInt (d 4).toInt (d 6).toInt
      unfold errI saysP rangeP
      repeat' split
      all_goals omega
    have p16 : (1) ≤ (d 1).toInt := of_decide_eq_true h16
    cases h17 : Q.val (OmD d) chkC_q20
    · have p17 : ¬ ((1) ≤ (d 2).toInt) := of_decide_eq_false h17
      refine ⟨tellA chkC_u24, _, _, _, tellA_ok (by (repeat refine told_cons (by assumption) ?_); exact told_nil), chkC_y24, dutiesTold_ok ?_⟩
      refine ⟨?_, trivial⟩
      show (2 : Int) = errI (d 0).toInt (d 1).toInt (d 2).toInt (d 3).toInt (d 4).toInt (d 6).toInt
      unfold errI saysP rangeP
      repeat' split
      all_goals omega
    have p17 : (1) ≤ (d 2).toInt := of_decide_eq_true h17
    cases h18 : Q.val (OmD d) chkC_q22
    · have p18 : ¬ ((1) ≤ (d 3).toInt) := of_decide_eq_false h18
      refine ⟨tellA chkC_u25, _, _, _, tellA_ok (by (repeat refine told_cons (by assumption) ?_); exact told_nil), chkC_y25, dutiesTold_ok ?_⟩
      refine ⟨?_, trivial⟩
      show (2 : Int) = errI (d 0).toInt (d 1).toInt (d 2).toInt (d 3).toInt (d 4).toInt (d 6).toInt
      unfold errI saysP rangeP
      repeat' split
      all_goals omega
    have p18 : (1) ≤ (d 3).toInt := of_decide_eq_true h18
    refine ⟨tellA chkC_u26, _, _, _, tellA_ok (by (repeat refine told_cons (by assumption) ?_); exact told_nil), chkC_y26, dutiesTold_ok ?_⟩
    refine ⟨?_, trivial⟩
    show (0 : Int) = errI (d 0).toInt (d 1).toInt (d 2).toInt (d 3).toInt (d 4).toInt (d 6).toInt
    unfold errI saysP rangeP
    repeat' split
    all_goals omega
  have p15 : ¬ ((d 0).toInt = (3)) := of_decide_eq_false h15
  cases h16 : Q.val (OmD d) chkC_q23
  · have p16 : ¬ ((d 0).toInt = (4)) := of_decide_eq_false h16
    have p17 : (d 0).toInt = (5) := by omega
    have h17 : Q.val (OmD d) chkC_q24 = true := decide_eq_true p17
    cases h18 : Q.val (OmD d) chkC_q14
    · have p18 : ¬ ((1) ≤ (d 1).toInt) := of_decide_eq_false h18
      refine ⟨tellA chkC_u32, _, _, _, tellA_ok (by (repeat refine told_cons (by assumption) ?_); exact told_nil), chkC_y32, dutiesTold_ok ?_⟩
      refine ⟨?_, trivial⟩
      show (2 : Int) = errI (d 0).toInt (d 1).toInt (d 2).toInt (d 3).toInt (d 4).toInt (d 6).toInt
      unfold errI saysP rangeP
      repeat' split
      all_goals omega
    have p18 : (1) ≤ (d 1).toInt := of_decide_eq_true h18
    cases h19 : Q.val (OmD d) chkC_q16
    · have p19 : ¬ ((d 3).toInt = (0)) := of_decide_eq_false h19
      refine ⟨tellA chkC_u36, _, _, _, tellA_ok (by (repeat refine told_cons (by assumption) ?_); exact told_nil), chkC_y36, dutiesTold_ok ?_⟩
      refine ⟨?_, trivial⟩
      show (2 : Int) = errI (d 0).toInt (d 1).toInt (d 2).toInt (d 3).toInt (d 4).toInt (d 6).toInt
      unfold errI saysP rangeP
      repeat' split
      all_goals omega
    have p19 : (d 3).toInt = (0) := of_decide_eq_true h19
    cases h20 : Q.val (OmD d) chkC_q17
    · have p20 : ¬ ((d 4).toInt = (0)) := of_decide_eq_false h20
      refine ⟨tellA chkC_u35, _, _, _, tellA_ok (by (repeat refine told_cons (by assumption) ?_); exact told_nil), chkC_y35, dutiesTold_ok ?_⟩
      refine ⟨?_, trivial⟩
      show (2 : Int) = errI (d 0).toInt (d 1).toInt (d 2).toInt (d 3).toInt (d 4).toInt (d 6).toInt
      unfold errI saysP rangeP
      repeat' split
      all_goals omega
    have p20 : (d 4).toInt = (0) := of_decide_eq_true h20
    cases h21 : Q.val (OmD d) chkC_q18
    · have p21 : ¬ ((d 6).toInt = (0)) := of_decide_eq_false h21
      refine ⟨tellA chkC_u34, _, _, _, tellA_ok (by (repeat refine told_cons (by assumption) ?_); exact told_nil), chkC_y34, dutiesTold_ok ?_⟩
      refine ⟨?_, trivial⟩
      show (2 : Int) = errI (d 0).toInt (d 1).toInt (d 2).toInt (d 3).toInt (d 4).toInt (d 6).toInt
      unfold errI saysP rangeP
      repeat' split
      all_goals omega
    have p21 : (d 6).toInt = (0) := of_decide_eq_true h21
    refine ⟨tellA chkC_u33, _, _, _, tellA_ok (by (repeat refine told_cons (by assumption) ?_); exact told_nil), chkC_y33, dutiesTold_ok ?_⟩
    refine ⟨?_, trivial⟩
    show (0 : Int) = errI (d 0).toInt (d 1).toInt (d 2).toInt (d 3).toInt (d 4).toInt (d 6).toInt
    unfold errI saysP rangeP
    repeat' split
    all_goals omega
  have p16 : (d 0).toInt = (4) := of_decide_eq_true h16
  cases h17 : Q.val (OmD d) chkC_q14
  · have p17 : ¬ ((1) ≤ (d 1).toInt) := of_decide_eq_false h17
    refine ⟨tellA chkC_u27, _, _, _, tellA_ok (by (repeat refine told_cons (by assumption) ?_); exact told_nil), chkC_y27, dutiesTold_ok ?_⟩
    refine ⟨?_, trivial⟩
    show (2 : Int) = errI (d 0).toInt (d 1).toInt (d 2).toInt (d 3).toInt (d 4).toInt (d 6).toInt
    unfold errI saysP rangeP
    repeat' split
    all_goals omega
  have p17 : (1) ≤ (d 1).toInt := of_decide_eq_true h17
  cases h18 : Q.val (OmD d) chkC_q20
  · have p18 : ¬ ((1) ≤ (d 2).toInt) := of_decide_eq_false h18
    refine ⟨tellA chkC_u28, _, _, _, tellA_ok (by (repeat refine told_cons (by assumption) ?_); exact told_nil), chkC_y28, dutiesTold_ok ?_⟩
    refine ⟨?_, trivial⟩
    show (2 : Int) = errI (d 0).toInt (d 1).toInt (d 2).toInt (d 3).toInt (d 4).toInt (d 6).toInt
    unfold errI saysP rangeP
    repeat' split
    all_goals omega
  have p18 : (1) ≤ (d 2).toInt := of_decide_eq_true h18
  cases h19 : Q.val (OmD d) chkC_q16
  · have p19 : ¬ ((d 3).toInt = (0)) := of_decide_eq_false h19
    refine ⟨tellA chkC_u31, _, _, _, tellA_ok (by (repeat refine told_cons (by assumption) ?_); exact told_nil), chkC_y31, dutiesTold_ok ?_⟩
    refine ⟨?_, trivial⟩
    show (2 : Int) = errI (d 0).toInt (d 1).toInt (d 2).toInt (d 3).toInt (d 4).toInt (d 6).toInt
    unfold errI saysP rangeP
    repeat' split
    all_goals omega
  have p19 : (d 3).toInt = (0) := of_decide_eq_true h19
  cases h20 : Q.val (OmD d) chkC_q18
  · have p20 : ¬ ((d 6).toInt = (0)) := of_decide_eq_false h20
    refine ⟨tellA chkC_u30, _, _, _, tellA_ok (by (repeat refine told_cons (by assumption) ?_); exact told_nil), chkC_y30, dutiesTold_ok ?_⟩
    refine ⟨?_, trivial⟩
    show (2 : Int) = errI (d 0).toInt (d 1).toInt (d 2).toInt (d 3).toInt (d 4).toInt (d 6).toInt
    unfold errI saysP rangeP
    repeat' split
    all_goals omega
  have p20 : (d 6).toInt = (0) := of_decide_eq_true h20
  refine ⟨tellA chkC_u29, _, _, _, tellA_ok (by (repeat refine told_cons (by assumption) ?_); exact told_nil), chkC_y29, dutiesTold_ok ?_⟩
  refine ⟨?_, trivial⟩
  show (0 : Int) = errI (d 0).toInt (d 1).toInt (d 2).toInt (d 3).toInt (d 4).toInt (d 6).toInt
  unfold errI saysP rangeP
  repeat' split
  all_goals omega

def chkCE : CSpec := { args := [.agg [.sint .i64 (.var 0), .sint .i64 (.var 1), .sint .i64 (.var 2), .sint .i64 (.var 3), .sint .i64 (.var 4), .empty]], next := 0, rows := [(0, .ext cellsG)], pre := [], res := .sint .i64 (.fn 11 (argsE [.var 0, .var 1, .var 2, .var 3, .var 4, .int 0])), frows := [], same := [] }
abbrev chkCE_q0 : Q := (.le (.int 1) (.var 0))
abbrev chkCE_q1 : Q := (.le (.int 6) (.var 0))
abbrev chkCE_q2 : Q := (.le (.int 0) (.var 1))
abbrev chkCE_q3 : Q := (.le (.var 1) (.int 2147483647))
abbrev chkCE_q4 : Q := (.le (.int 0) (.var 2))
abbrev chkCE_q5 : Q := (.le (.var 2) (.int 2147483647))
abbrev chkCE_q6 : Q := (.le (.int 0) (.var 3))
abbrev chkCE_q7 : Q := (.le (.var 3) (.int 2147483647))
abbrev chkCE_q8 : Q := (.le (.int 0) (.var 4))
abbrev chkCE_q9 : Q := (.le (.var 4) (.int 2147483647))
abbrev chkCE_q10 : Q := (.eq (.var 0) (.int 0))
abbrev chkCE_q11 : Q := (.eq (.var 0) (.int 1))
abbrev chkCE_q12 : Q := (.le (.int 1) (.var 1))
abbrev chkCE_q13 : Q := (.eq (.var 2) (.int 0))
abbrev chkCE_q14 : Q := (.eq (.var 3) (.int 0))
abbrev chkCE_q15 : Q := (.eq (.var 4) (.int 0))
abbrev chkCE_q16 : Q := (.eq (.var 0) (.int 2))
abbrev chkCE_q17 : Q := (.le (.int 1) (.var 2))
abbrev chkCE_q18 : Q := (.eq (.var 0) (.int 3))
abbrev chkCE_q19 : Q := (.le (.int 1) (.var 3))
abbrev chkCE_q20 : Q := (.eq (.var 0) (.int 4))
abbrev chkCE_q21 : Q := (.eq (.var 0) (.int 5))
abbrev chkCE_u0 : List (Q × Bool) := [(chkCE_q0, false)]
def chkCE_d0 : List Duty := [(true, (.int 213), (.fn 11 (.bi .pair (.var 0) (.bi .pair (.var 1) (.bi .pair (.var 2) (.bi .pair (.var 3) (.bi .pair (.var 4) (.bi .pair (.int 0) (.int 0)))))))))]
theorem chkCE_y0 : endC chkCE [] 1000 (callC Tryd.prog (tellA chkCE_u0) [] [] [] 3000 40 14 chkCE) = some chkCE_d0 := by kernel_rfl
abbrev chkCE_u1 : List (Q × Bool) := [(chkCE_q0, true), (chkCE_q1, true)]
theorem chkCE_y1 : endC chkCE [] 1000 (callC Tryd.prog (tellA chkCE_u1) [] [] [] 3000 40 14 chkCE) = some chkCE_d0 := by kernel_rfl
abbrev chkCE_u2 : List (Q × Bool) := [(chkCE_q0, true), (chkCE_q1, false), (chkCE_q2, false)]
def chkCE_d1 : List Duty := [(true, (.int 5), (.fn 11 (.bi .pair (.var 0) (.bi .pair (.var 1) (.bi .pair (.var 2) (.bi .pair (.var 3) (.bi .pair (.var 4) (.bi .pair (.int 0) (.int 0)))))))))]
theorem chkCE_y2 : endC chkCE [] 1000 (callC Tryd.prog (tellA chkCE_u2) [] [] [] 3000 40 14 chkCE) = some chkCE_d1 := by kernel_rfl
abbrev chkCE_u3 : List (Q × Bool) := [(chkCE_q0, true), (chkCE_q1, false), (chkCE_q2, true), (chkCE_q3, false)]
theorem chkCE_y3 : endC chkCE [] 1000 (callC Tryd.prog (tellA chkCE_u3) [] [] [] 3000 40 14 chkCE) = some chkCE_d1 := by kernel_rfl
abbrev chkCE_u4 : List (Q × Bool) := [(chkCE_q0, true), (chkCE_q1, false), (chkCE_q2, true), (chkCE_q3, true), (chkCE_q4, false)]
theorem chkCE_y4 : endC chkCE [] 1000 (callC Tryd.prog (tellA chkCE_u4) [] [] [] 3000 40 14 chkCE) = some chkCE_d1 := by kernel_rfl
abbrev chkCE_u5 : List (Q × Bool) := [(chkCE_q0, true), (chkCE_q1, false), (chkCE_q2, true), (chkCE_q3, true), (chkCE_q4, true), (chkCE_q5, false)]
theorem chkCE_y5 : endC chkCE [] 1000 (callC Tryd.prog (tellA chkCE_u5) [] [] [] 3000 40 14 chkCE) = some chkCE_d1 := by kernel_rfl
abbrev chkCE_u6 : List (Q × Bool) := [(chkCE_q0, true), (chkCE_q1, false), (chkCE_q2, true), (chkCE_q3, true), (chkCE_q4, true), (chkCE_q5, true), (chkCE_q6, false)]
theorem chkCE_y6 : endC chkCE [] 1000 (callC Tryd.prog (tellA chkCE_u6) [] [] [] 3000 40 14 chkCE) = some chkCE_d1 := by kernel_rfl
abbrev chkCE_u7 : List (Q × Bool) := [(chkCE_q0, true), (chkCE_q1, false), (chkCE_q2, true), (chkCE_q3, true), (chkCE_q4, true), (chkCE_q5, true), (chkCE_q6, true), (chkCE_q7, false)]
theorem chkCE_y7 : endC chkCE [] 1000 (callC Tryd.prog (tellA chkCE_u7) [] [] [] 3000 40 14 chkCE) = some chkCE_d1 := by kernel_rfl
abbrev chkCE_u8 : List (Q × Bool) := [(chkCE_q0, true), (chkCE_q1, false), (chkCE_q2, true), (chkCE_q3, true), (chkCE_q4, true), (chkCE_q5, true), (chkCE_q6, true), (chkCE_q7, true), (chkCE_q8, false)]
theorem chkCE_y8 : endC chkCE [] 1000 (callC Tryd.prog (tellA chkCE_u8) [] [] [] 3000 40 14 chkCE) = some chkCE_d1 := by kernel_rfl
abbrev chkCE_u9 : List (Q × Bool) := [(chkCE_q0, true), (chkCE_q1, false), (chkCE_q2, true), (chkCE_q3, true), (chkCE_q4, true), (chkCE_q5, true), (chkCE_q6, true), (chkCE_q7, true), (chkCE_q8, true), (chkCE_q9, false)]
theorem chkCE_y9 : endC chkCE [] 1000 (callC Tryd.prog (tellA chkCE_u9) [] [] [] 3000 40 14 chkCE) = some chkCE_d1 := by kernel_rfl
abbrev chkCE_u10 : List (Q × Bool) := [(chkCE_q0, true), (chkCE_q1, false), (chkCE_q2, true), (chkCE_q3, true), (chkCE_q4, true), (chkCE_q5, true), (chkCE_q6, true), (chkCE_q7, true), (chkCE_q8, true), (chkCE_q9, true), (chkCE_q10, false), (chkCE_q11, true), (chkCE_q12, false)]
def chkCE_d2 : List Duty := [(true, (.int 2), (.fn 11 (.bi .pair (.var 0) (.bi .pair (.var 1) (.bi .pair (.var 2) (.bi .pair (.var 3) (.bi .pair (.var 4) (.bi .pair (.int 0) (.int 0)))))))))]
theorem chkCE_y10 : endC chkCE [] 1000 (callC Tryd.prog (tellA chkCE_u10) [] [] [] 3000 40 14 chkCE) = some chkCE_d2 := by kernel_rfl
abbrev chkCE_u11 : List (Q × Bool) := [(chkCE_q0, true), (chkCE_q1, false), (chkCE_q2, true), (chkCE_q3, true), (chkCE_q4, true), (chkCE_q5, true), (chkCE_q6, true), (chkCE_q7, true), (chkCE_q8, true), (chkCE_q9, true), (chkCE_q10, false), (chkCE_q11, true), (chkCE_q12, true), (chkCE_q13, true), (chkCE_q14, true), (chkCE_q15, true)]
def chkCE_d3 : List Duty := [(true, (.int 0), (.fn 11 (.bi .pair (.var 0) (.bi .pair (.var 1) (.bi .pair (.var 2) (.bi .pair (.var 3) (.bi .pair (.var 4) (.bi .pair (.int 0) (.int 0)))))))))]
theorem chkCE_y11 : endC chkCE [] 1000 (callC Tryd.prog (tellA chkCE_u11) [] [] [] 3000 40 14 chkCE) = some chkCE_d3 := by kernel_rfl
abbrev chkCE_u12 : List (Q × Bool) := [(chkCE_q0, true), (chkCE_q1, false), (chkCE_q2, true), (chkCE_q3, true), (chkCE_q4, true), (chkCE_q5, true), (chkCE_q6, true), (chkCE_q7, true), (chkCE_q8, true), (chkCE_q9, true), (chkCE_q10, false), (chkCE_q11, true), (chkCE_q12, true), (chkCE_q13, true), (chkCE_q14, true), (chkCE_q15, false)]
theorem chkCE_y12 : endC chkCE [] 1000 (callC Tryd.prog (tellA chkCE_u12) [] [] [] 3000 40 14 chkCE) = some chkCE_d2 := by kernel_rfl
abbrev chkCE_u13 : List (Q × Bool) := [(chkCE_q0, true), (chkCE_q1, false), (chkCE_q2, true), (chkCE_q3, true), (chkCE_q4, true), (chkCE_q5, true), (chkCE_q6, true), (chkCE_q7, true), (chkCE_q8, true), (chkCE_q9, true), (chkCE_q10, false), (chkCE_q11, true), (chkCE_q12, true), (chkCE_q13, true), (chkCE_q14, false)]
theorem chkCE_y13 : endC chkCE [] 1000 (callC Tryd.prog (tellA chkCE_u13) [] [] [] 3000 40 14 chkCE) = some chkCE_d2 := by kernel_rfl
abbrev chkCE_u14 : List (Q × Bool) := [(chkCE_q0, true), (chkCE_q1, false), (chkCE_q2, true), (chkCE_q3, true), (chkCE_q4, true), (chkCE_q5, true), (chkCE_q6, true), (chkCE_q7, true), (chkCE_q8, true), (chkCE_q9, true), (chkCE_q10, false), (chkCE_q11, true), (chkCE_q12, true), (chkCE_q13, false)]
theorem chkCE_y14 : endC chkCE [] 1000 (callC Tryd.prog (tellA chkCE_u14) [] [] [] 3000 40 14 chkCE) = some chkCE_d2 := by kernel_rfl
abbrev chkCE_u15 : List (Q × Bool) := [(chkCE_q0, true), (chkCE_q1, false), (chkCE_q2, true), (chkCE_q3, true), (chkCE_q4, true), (chkCE_q5, true), (chkCE_q6, true), (chkCE_q7, true), (chkCE_q8, true), (chkCE_q9, true), (chkCE_q10, false), (chkCE_q11, false), (chkCE_q16, true), (chkCE_q12, false)]
theorem chkCE_y15 : endC chkCE [] 1000 (callC Tryd.prog (tellA chkCE_u15) [] [] [] 3000 40 14 chkCE) = some chkCE_d2 := by kernel_rfl
abbrev chkCE_u16 : List (Q × Bool) := [(chkCE_q0, true), (chkCE_q1, false), (chkCE_q2, true), (chkCE_q3, true), (chkCE_q4, true), (chkCE_q5, true), (chkCE_q6, true), (chkCE_q7, true), (chkCE_q8, true), (chkCE_q9, true), (chkCE_q10, false), (chkCE_q11, false), (chkCE_q16, true), (chkCE_q12, true), (chkCE_q17, false)]
theorem chkCE_y16 : endC chkCE [] 1000 (callC Tryd.prog (tellA chkCE_u16) [] [] [] 3000 40 14 chkCE) = some chkCE_d2 := by kernel_rfl
abbrev chkCE_u17 : List (Q × Bool) := [(chkCE_q0, true), (chkCE_q1, false), (chkCE_q2, true), (chkCE_q3, true), (chkCE_q4, true), (chkCE_q5, true), (chkCE_q6, true), (chkCE_q7, true), (chkCE_q8, true), (chkCE_q9, true), (chkCE_q10, false), (chkCE_q11, false), (chkCE_q16, true), (chkCE_q12, true), (chkCE_q17, true), (chkCE_q14, true), (chkCE_q15, true)]
theorem chkCE_y17 : endC chkCE [] 1000 (callC Tryd.prog (tellA chkCE_u17) [] [] [] 3000 40 14 chkCE) = some chkCE_d3 := by kernel_rfl
abbrev chkCE_u18 : List (Q × Bool) := [(chkCE_q0, true), (chkCE_q1, false), (chkCE_q2, true), (chkCE_q3, true), (chkCE_q4, true), (chkCE_q5, true), (chkCE_q6, true), (chkCE_q7, true), (chkCE_q8, true), (chkCE_q9, true), (chkCE_q10, false), (chkCE_q11, false), (chkCE_q16, true), (chkCE_q12, true), (chkCE_q17, true), (chkCE_q14, true), (chkCE_q15, false)]
theorem chkCE_y18 : endC chkCE [] 1000 (callC Tryd.prog (tellA chkCE_u18) [] [] [] 3000 40 14 chkCE) = some chkCE_d2 := by kernel_rfl
abbrev chkCE_u19 : List (Q × Bool) := [(chkCE_q0, true), (chkCE_q1, false), (chkCE_q2, true), (chkCE_q3, true), (chkCE_q4, true), (chkCE_q5, true), (chkCE_q6, true), (chkCE_q7, true), (chkCE_q8, true), (chkCE_q9, true), (chkCE_q10, false), (chkCE_q11, false), (chkCE_q16, true), (chkCE_q12, true), (chkCE_q17, true), (chkCE_q14, false)]
theorem chkCE_y19 : endC chkCE [] 1000 (callC Tryd.prog (tellA chkCE_u19) [] [] [] 3000 40 14 chkCE) = some chkCE_d2 := by kernel_rfl
abbrev chkCE_u20 : List (Q × Bool) := [(chkCE_q0, true), (chkCE_q1, false), (chkCE_q2, true), (chkCE_q3, true), (chkCE_q4, true), (chkCE_q5, true), (chkCE_q6, true), (chkCE_q7, true), (chkCE_q8, true), (chkCE_q9, true), (chkCE_q10, false), (chkCE_q11, false), (chkCE_q16, false), (chkCE_q18, true), (chkCE_q12, false)]
theorem chkCE_y20 : endC chkCE [] 1000 (callC Tryd.prog (tellA chkCE_u20) [] [] [] 3000 40 14 chkCE) = some chkCE_d2 := by kernel_rfl
abbrev chkCE_u21 : List (Q × Bool) := [(chkCE_q0, true), (chkCE_q1, false), (chkCE_q2, true), (chkCE_q3, true), (chkCE_q4, true), (chkCE_q5, true), (chkCE_q6, true), (chkCE_q7, true), (chkCE_q8, true), (chkCE_q9, true), (chkCE_q10, false), (chkCE_q11, false), (chkCE_q16, false), (chkCE_q18, true), (chkCE_q12, true), (chkCE_q17, false)]
theorem chkCE_y21 : endC chkCE [] 1000 (callC Tryd.prog (tellA chkCE_u21) [] [] [] 3000 40 14 chkCE) = some chkCE_d2 := by kernel_rfl
abbrev chkCE_u22 : List (Q × Bool) := [(chkCE_q0, true), (chkCE_q1, false), (chkCE_q2, true), (chkCE_q3, true), (chkCE_q4, true), (chkCE_q5, true), (chkCE_q6, true), (chkCE_q7, true), (chkCE_q8, true), (chkCE_q9, true), (chkCE_q10, false), (chkCE_q11, false), (chkCE_q16, false), (chkCE_q18, true), (chkCE_q12, true), (chkCE_q17, true), (chkCE_q19, false)]
theorem chkCE_y22 : endC chkCE [] 1000 (callC Tryd.prog (tellA chkCE_u22) [] [] [] 3000 40 14 chkCE) = some chkCE_d2 := by kernel_rfl
abbrev chkCE_u23 : List (Q × Bool) := [(chkCE_q0, true), (chkCE_q1, false), (chkCE_q2, true), (chkCE_q3, true), (chkCE_q4, true), (chkCE_q5, true), (chkCE_q6, true), (chkCE_q7, true), (chkCE_q8, true), (chkCE_q9, true), (chkCE_q10, false), (chkCE_q11, false), (chkCE_q16, false), (chkCE_q18, true), (chkCE_q12, true), (chkCE_q17, true), (chkCE_q19, true)]
theorem chkCE_y23 : endC chkCE [] 1000 (callC Tryd.prog (tellA chkCE_u23) [] [] [] 3000 40 14 chkCE) = some chkCE_d3 := by kernel_rfl
abbrev chkCE_u24 : List (Q × Bool) := [(chkCE_q0, true), (chkCE_q1, false), (chkCE_q2, true), (chkCE_q3, true), (chkCE_q4, true), (chkCE_q5, true), (chkCE_q6, true), (chkCE_q7, true), (chkCE_q8, true), (chkCE_q9, true), (chkCE_q10, false), (chkCE_q11, false), (chkCE_q16, false), (chkCE_q18, false), (chkCE_q20, true), (chkCE_q12, false)]
theorem chkCE_y24 : endC chkCE [] 1000 (callC Tryd.prog (tellA chkCE_u24) [] [] [] 3000 40 14 chkCE) = some chkCE_d2 := by kernel_rfl
abbrev chkCE_u25 : List (Q × Bool) := [(chkCE_q0, true), (chkCE_q1, false), (chkCE_q2, true), (chkCE_q3, true), (chkCE_q4, true), (chkCE_q5, true), (chkCE_q6, true), (chkCE_q7, true), (chkCE_q8, true), (chkCE_q9, true), (chkCE_q10, false), (chkCE_q11, false), (chkCE_q16, false), (chkCE_q18, false), (chkCE_q20, true), (chkCE_q12, true), (chkCE_q17, false)]
theorem chkCE_y25 : endC chkCE [] 1000 (callC Tryd.prog (tellA chkCE_u25) [] [] [] 3000 40 14 chkCE) = some chkCE_d2 := by kernel_rfl
abbrev chkCE_u26 : List (Q × Bool) := [(chkCE_q0, true), (chkCE_q1, false), (chkCE_q2, true), (chkCE_q3, true), (chkCE_q4, true), (chkCE_q5, true), (chkCE_q6, true), (chkCE_q7, true), (chkCE_q8, true), (chkCE_q9, true), (chkCE_q10, false), (chkCE_q11, false), (chkCE_q16, false), (chkCE_q18, false), (chkCE_q20, true), (chkCE_q12, true), (chkCE_q17, true), (chkCE_q14, true)]
theorem chkCE_y26 : endC chkCE [] 1000 (callC Tryd.prog (tellA chkCE_u26) [] [] [] 3000 40 14 chkCE) = some chkCE_d3 := by kernel_rfl
abbrev chkCE_u27 : List (Q × Bool) := [(chkCE_q0, true), (chkCE_q1, false), (chkCE_q2, true), (chkCE_q3, true), (chkCE_q4, true), (chkCE_q5, true), (chkCE_q6, true), (chkCE_q7, true), (chkCE_q8, true), (chkCE_q9, true), (chkCE_q10, false), (chkCE_q11, false), (chkCE_q16, false), (chkCE_q18, false), (chkCE_q20, true), (chkCE_q12, true), (chkCE_q17, true), (chkCE_q14, false)]
theorem chkCE_y27 : endC chkCE [] 1000 (callC Tryd.prog (tellA chkCE_u27) [] [] [] 3000 40 14 chkCE) = some chkCE_d2 := by kernel_rfl
abbrev chkCE_u28 : List (Q × Bool) := [(chkCE_q0, true), (chkCE_q1, false), (chkCE_q2, true), (chkCE_q3, true), (chkCE_q4, true), (chkCE_q5, true), (chkCE_q6, true), (chkCE_q7, true), (chkCE_q8, true), (chkCE_q9, true), (chkCE_q10, false), (chkCE_q11, false), (chkCE_q16, false), (chkCE_q18, false), (chkCE_q20, false), (chkCE_q21, true), (chkCE_q12, false)]
theorem chkCE_y28 : endC chkCE [] 1000 (callC Tryd.prog (tellA chkCE_u28) [] [] [] 3000 40 14 chkCE) = some chkCE_d2 := by kernel_rfl
abbrev chkCE_u29 : List (Q × Bool) := [(chkCE_q0, true), (chkCE_q1, false), (chkCE_q2, true), (chkCE_q3, true), (chkCE_q4, true), (chkCE_q5, true), (chkCE_q6, true), (chkCE_q7, true), (chkCE_q8, true), (chkCE_q9, true), (chkCE_q10, false), (chkCE_q11, false), (chkCE_q16, false), (chkCE_q18, false), (chkCE_q20, false), (chkCE_q21, true), (chkCE_q12, true), (chkCE_q14, true), (chkCE_q15, true)]
theorem chkCE_y29 : endC chkCE [] 1000 (callC Tryd.prog (tellA chkCE_u29) [] [] [] 3000 40 14 chkCE) = some chkCE_d3 := by kernel_rfl
abbrev chkCE_u30 : List (Q × Bool) := [(chkCE_q0, true), (chkCE_q1, false), (chkCE_q2, true), (chkCE_q3, true), (chkCE_q4, true), (chkCE_q5, true), (chkCE_q6, true), (chkCE_q7, true), (chkCE_q8, true), (chkCE_q9, true), (chkCE_q10, false), (chkCE_q11, false), (chkCE_q16, false), (chkCE_q18, false), (chkCE_q20, false), (chkCE_q21, true), (chkCE_q12, true), (chkCE_q14, true), (chkCE_q15, false)]
theorem chkCE_y30 : endC chkCE [] 1000 (callC Tryd.prog (tellA chkCE_u30) [] [] [] 3000 40 14 chkCE) = some chkCE_d2 := by kernel_rfl
abbrev chkCE_u31 : List (Q × Bool) := [(chkCE_q0, true), (chkCE_q1, false), (chkCE_q2, true), (chkCE_q3, true), (chkCE_q4, true), (chkCE_q5, true), (chkCE_q6, true), (chkCE_q7, true), (chkCE_q8, true), (chkCE_q9, true), (chkCE_q10, false), (chkCE_q11, false), (chkCE_q16, false), (chkCE_q18, false), (chkCE_q20, false), (chkCE_q21, true), (chkCE_q12, true), (chkCE_q14, false)]
theorem chkCE_y31 : endC chkCE [] 1000 (callC Tryd.prog (tellA chkCE_u31) [] [] [] 3000 40 14 chkCE) = some chkCE_d2 := by kernel_rfl
set_option maxHeartbeats 8000000 in
theorem chkCE_holds : CHolds Tryd.prog 14 chkCE F := by
  refine cholds_of sound (tableNil _ _) (specsNil _ _) (oversNil _ _) (fuel := 3000) (depth := 40) (by kernel_rfl) fun d hp hR hA => ?_
  have hp := allTold'_iff.2 hp
  simp only [chkCE, allTold', dutiesTold, factsA, factsC, factsP, factsR, AV.facts, RW.facts, inK, and_true, Q.holds', E.i, E.s, E.n, D.nat, E.den, BO.den, UO.den, TO.den, D.toInt_int, D.toList_list, D.ints_ofInts, i64min, i64max, u8min, u8max, u16min, u16max, u32min, u32max, u64min, u64max, i32min, i32max, Om.sub, selI, ints_app, ints_cut, ints_upd, ints_rep, ints_splice, ints_seg, len_ints] at hp hR hA
  cases h0 : Q.val (OmD d) chkCE_q0
  · have p0 : ¬ ((1) ≤ (d 0).toInt) := of_decide_eq_false h0
    refine ⟨tellA chkCE_u0, _, _, _, tellA_ok (told_cons h0 told_nil), chkCE_y0, dutiesTold_ok ?_⟩
    refine ⟨?_, trivial⟩
    show (213 : Int) = errI (d 0).toInt (d 1).toInt (d 2).toInt (d 3).toInt (d 4).toInt 0
    unfold errI saysP rangeP
    repeat' split
    all_goals omega
  have p0 : (1) ≤ (d 0).toInt := of_decide_eq_true h0
  cases h1 : Q.val (OmD d) chkCE_q1
  rotate_left
  · have p1 : (6) ≤ (d 0).toInt := of_decide_eq_true h1
    refine ⟨tellA chkCE_u1, _, _, _, tellA_ok (told_cons h0 (told_cons h1 told_nil)), chkCE_y1, dutiesTold_ok ?_⟩
    refine ⟨?_, trivial⟩
    show (213 : Int) = errI (d 0).toInt (d 1).toInt (d 2).toInt (d 3).toInt (d 4).toInt 0
    unfold errI saysP rangeP
    repeat' split
    all_goals omega
  have p1 : ¬ ((6) ≤ (d 0).toInt) := of_decide_eq_false h1
  cases h2 : Q.val (OmD d) chkCE_q2
  · have p2 : ¬ ((0) ≤ (d 1).toInt) := of_decide_eq_false h2
    refine ⟨tellA chkCE_u2, _, _, _, tellA_ok (told_cons h0 (told_cons h1 (told_cons h2 told_nil))), chkCE_y2, dutiesTold_ok ?_⟩
    refine ⟨?_, trivial⟩
    show (5 : Int) = errI (d 0).toInt (d 1).toInt (d 2).toInt (d 3).toInt (d 4).toInt 0
    unfold errI saysP rangeP
    repeat' split
    all_goals omega
  have p2 : (0) ≤ (d 1).toInt := of_decide_eq_true h2
  cases h3 : Q.val (OmD d) chkCE_q3
  · have p3 : ¬ ((d 1).toInt ≤ (2147483647)) := of_decide_eq_false h3
    refine ⟨tellA chkCE_u3, _, _, _, tellA_ok (by (repeat refine told_cons (by assumption) ?_); exact told_nil), chkCE_y3, dutiesTold_ok ?_⟩
    refine ⟨?_, trivial⟩
    show (5 : Int) = errI (d 0).toInt (d 1).toInt (d 2).toInt (d 3).toInt (d 4).toInt 0
    unfold errI saysP rangeP
    repeat' split
    all_goals omega
  have p3 : (d 1).toInt ≤ (2147483647) := of_decide_eq_true h3
  cases h4 : Q.val (OmD d) chkCE_q4
  · have p4 : ¬ ((0) ≤ (d 2).toInt) := of_decide_eq_false h4
    refine ⟨tellA chkCE_u4, _, _, _, tellA_ok (by (repeat refine told_cons (by assumption) ?_); exact told_nil), chkCE_y4, dutiesTold_ok ?_⟩
    refine ⟨?_, trivial⟩
    show (5 : Int) = errI (d 0).toInt (d 1).toInt (d 2).toInt (d 3).toInt (d 4).toInt 0
    unfold errI saysP rangeP
    repeat' split
    all_goals omega
  have p4 : (0) ≤ (d 2).toInt := of_decide_eq_true h4
  cases h5 : Q.val (OmD d) chkCE_q5
  · have p5 : ¬ ((d 2).toInt ≤ (2147483647)) := of_decide_eq_false h5
    refine ⟨tellA chkCE_u5, _, _, _, tellA_ok (by (repeat refine told_cons (by assumption) ?_); exact told_nil), chkCE_y5, dutiesTold_ok ?_⟩
    refine ⟨?_, trivial⟩
    show (5 : Int) = errI (d 0).toInt (d 1).toInt (d 2).toInt (d 3).toInt (d 4).toInt 0
    unfold errI saysP rangeP
    repeat' split
    all_goals omega
  have p5 : (d 2).toInt ≤ (2147483647) := of_decide_eq_true h5
  cases h6 : Q.val (OmD d) chkCE_q6
  · have p6 : ¬ ((0) ≤ (d 3).toInt) := of_decide_eq_false h6
    refine ⟨tellA chkCE_u6, _, _, _, tellA_ok (by (repeat refine told_cons (by assumption) ?_); exact told_nil), chkCE_y6, dutiesTold_ok ?_⟩
    refine ⟨?_, trivial⟩
    show (5 : Int) = errI (d 0).toInt (d 1).toInt (d 2).toInt (d 3).toInt (d 4).toInt 0
    unfold errI saysP rangeP
    repeat' split
    all_goals omega
  have p6 : (0) ≤ (d 3).toInt := of_decide_eq_true h6
  cases h7 : Q.val (OmD d) chkCE_q7
  · have p7 : ¬ ((d 3).toInt ≤ (2147483647)) := of_decide_eq_false h7
    refine ⟨tellA chkCE_u7, _, _, _, tellA_ok (by (repeat refine told_cons (by assumption) ?_); exact told_nil), chkCE_y7, dutiesTold_ok ?_⟩
    refine ⟨?_, trivial⟩
    show (5 : Int) = errI (d 0).toInt (d 1).toInt (d 2).toInt (d 3).toInt (d 4).toInt 0
    unfold errI saysP rangeP
    repeat' split
    all_goals omega
  have p7 : (d 3).toInt ≤ (2147483647) := of_decide_eq_true h7
  cases h8 : Q.val (OmD d) chkCE_q8
  · have p8 : ¬ ((0) ≤ (d 4).toInt) := of_decide_eq_false h8
    refine ⟨tellA chkCE_u8, _, _, _, tellA_ok (by (repeat refine told_cons (by assumption) ?_); exact told_nil), chkCE_y8, dutiesTold_ok ?_⟩
    refine ⟨?_, trivial⟩
    show (5 : Int) = errI (d 0).toInt (d 1).toInt (d 2).toInt (d 3).toInt (d 4).toInt 0
    unfold errI saysP rangeP
    repeat' split
    all_goals omega
  have p8 : (0) ≤ (d 4).toInt := of_decide_eq_true h8
  cases h9 : Q.val (OmD d) chkCE_q9
  · have p9 : ¬ ((d 4).toInt ≤ (2147483647)) := of_decide_eq_false h9
    refine ⟨tellA chkCE_u9, _, _, _, tellA_ok (by (repeat refine told_cons (by assumption) ?_); exact told_nil), chkCE_y9, dutiesTold_ok ?_⟩
    refine ⟨?_, trivial⟩
    show (5 : Int) = errI (d 0).toInt (d 1).toInt (d 2).toInt (d 3).toInt (d 4).toInt 0
    unfold errI saysP rangeP
    repeat' split
    all_goals omega
  have p9 : (d 4).toInt ≤ (2147483647) := of_decide_eq_true h9
  have p10 : ¬ ((d 0).toInt = (0)) := by omega
  have h10 : Q.val (OmD d) chkCE_q10 = false := decide_eq_false p10
  cases h11 : Q.val (OmD d) chkCE_q11
  rotate_left
  · have p11 : (d 0).toInt = (1) := of_decide_eq_true h11
    cases h12 : Q.val (OmD d) chkCE_q12
    · have p12 : ¬ ((1) ≤ (d 1).toInt) := of_decide_eq_false h12
      refine ⟨tellA chkCE_u10, _, _, _, tellA_ok (by (repeat refine told_cons (by assumption) ?_); exact told_nil), chkCE_y10, dutiesTold_ok ?_⟩
      refine ⟨?_, trivial⟩
      show (2 : Int) = errI (d 0).toInt (d 1).toInt (d 2).toInt (d 3).toInt (d 4).toInt 0
      unfold errI saysP rangeP
      repeat' split
      all_goals omega
    have p12 : (1) ≤ (d 1).toInt := of_decide_eq_true h12
    cases h13 : Q.val (OmD d) chkCE_q13
    · have p13 : ¬ ((d 2).toInt = (0)) := of_decide_eq_false h13
      refine ⟨tellA chkCE_u14, _, _, _, tellA_ok (by (repeat refine told_cons (by assumption) ?_); exact told_nil), chkCE_y14, dutiesTold_ok ?_⟩
      refine ⟨?_, trivial⟩
      show (2 : Int) = errI (d 0).toInt (d 1).toInt (d 2).toInt (d 3).toInt (d 4).toInt 0
      unfold errI saysP rangeP
      repeat' split
      all_goals omega
    have p13 : (d 2).toInt = (0) := of_decide_eq_true h13
    cases h14 : Q.val (OmD d) chkCE_q14
    · have p14 : ¬ ((d 3).toInt = (0)) := of_decide_eq_false h14
      refine ⟨tellA chkCE_u13, _, _, _, tellA_ok (by (repeat refine told_cons (by assumption) ?_); exact told_nil), chkCE_y13, dutiesTold_ok ?_⟩
      refine ⟨?_, trivial⟩
      show (2 : Int) = errI (d 0).toInt (d 1).toInt (d 2).toInt (d 3).toInt (d 4).toInt 0
      unfold errI saysP rangeP
      repeat' split
      all_goals omega
    have p14 : (d 3).toInt = (0) := of_decide_eq_true h14
    cases h15 : Q.val (OmD d) chkCE_q15
    · have p15 : ¬ ((d 4).toInt = (0)) := of_decide_eq_false h15
      refine ⟨tellA chkCE_u12, _, _, _, tellA_ok (by (repeat refine told_cons (by assumption) ?_); exact told_nil), chkCE_y12, dutiesTold_ok ?_⟩
      refine ⟨?_, trivial⟩
      show (2 : Int) = errI (d 0).toInt (d 1).toInt (d 2).toInt (d 3).toInt (d 4).toInt 0
      unfold errI saysP rangeP
      repeat' split
      all_goals omega
    have p15 : (d 4).toInt = (0) := of_decide_eq_true h15
    refine ⟨tellA chkCE_u11, _, _, _, tellA_ok (by (repeat refine told_cons (by assumption) ?_); exact told_nil), chkCE_y11, dutiesTold_ok ?_⟩
    refine ⟨?_, trivial⟩
    show (0 : Int) = errI (d 0).toInt (d 1).toInt (d 2).toInt (d 3).toInt (d 4).toInt 0
    unfold errI saysP rangeP
    repeat' split
    all_goals omega
  have p11 : ¬ ((d 0).toInt = (1)) := of_decide_eq_false h11
  cases h12 : Q.val (OmD d) chkCE_q16
  rotate_left
  · have p12 : (d 0).toInt = (2) := of_decide_eq_true h12
    cases h13 : Q.val (OmD d) chkCE_q12
    · have p13 : ¬ ((1) ≤ (d 1).toInt) := of_decide_eq_false h13
      refine ⟨tellA chkCE_u15, _, _, _, tellA_ok (by (repeat refine told_cons (by assumption) ?_); exact told_nil), chkCE_y15, dutiesTold_ok ?_⟩
      refine ⟨?_, trivial⟩
      show (2 : Int) = errI (d 0).toInt (d 1).toInt (d 2).toInt (d 3).toInt (d 4).toInt 0
      unfold errI saysP rangeP
      repeat' split
      all_goals omega
    have p13 : (1) ≤ (d 1).toInt := of_decide_eq_true h13
    cases h14 : Q.val (OmD d) chkCE_q17
    · have p14 : ¬ ((1) ≤ (d 2).toInt) := of_decide_eq_false h14
      refine ⟨tellA chkCE_u16, _, _, _, tellA_ok (by (repeat refine told_cons (by assumption) ?_); exact told_nil), chkCE_y16, dutiesTold_ok ?_⟩
      refine ⟨?_, trivial⟩
      show (2 : Int) = errI (d 0).toInt (d 1).toInt (d 2).toInt (d 3).toInt (d 4).toInt 0
      unfold errI saysP rangeP
      repeat' split
      all_goals omega
    have p14 : (1) ≤ (d 2).toInt := of_decide_eq_true h14
    cases h15 : Q.val (OmD d) chkCE_q14
    · have p15 : ¬ ((d 3).toInt = (0)) := of_decide_eq_false h15
      refine ⟨tellA chkCE_u19, _, _, _, tellA_ok (by (repeat refine told_cons (by assumption) ?_); exact told_nil), chkCE_y19, dutiesTold_ok ?_⟩
      refine ⟨?_, trivial⟩
      show (2 : Int) = errI (d 0).toInt (d 1).toInt (d 2).toInt (d 3).toInt (d 4).toInt 0
      unfold errI saysP rangeP
      repeat' split
      all_goals omega
    have p15 : (d 3).toInt = (0) := of_decide_eq_true h15
    cases h16 : Q.val (OmD d) chkCE_q15
    · have p16 : ¬ ((d 4).toInt = (0)) := of_decide_eq_false h16
      refine ⟨tellA chkCE_u18, _, _, _, tellA_ok (by (repeat refine told_cons (by assumption) ?_); exact told_nil), chkCE_y18, dutiesTold_ok ?_⟩
      refine ⟨?_, trivial⟩
      show (2 : Int) = errI (d 0).toInt (d 1).toInt (d 2).toInt (d 3).toInt (d 4).toInt 0
      unfold errI saysP rangeP
      repeat' split
      all_goals omega
    have p16 : (d 4).toInt = (0) := of_decide_eq_true h16
    refine ⟨tellA chkCE_u17, _, _, _, tellA_ok (by (repeat refine told_cons (by assumption) ?_); exact told_nil), chkCE_y17, dutiesTold_ok ?_⟩
    refine ⟨?_, trivial⟩
    show (0 : Int) = errI (d 0).toInt (d 1).toInt (d 2).toInt (d 3).toInt (d 4).toInt 0
    unfold errI saysP rangeP
    repeat' split
    all_goals omega
  have p12 : ¬ ((d 0).toInt = (2)) := of_decide_eq_false h12
  cases h13 : Q.val (OmD d) chkCE_q18
  rotate_left
  · have p13 : (d 0).toInt = (3) := of_decide_eq_true h13
    cases h14 : Q.val (OmD d) chkCE_q12
    · have p14 : ¬ ((1) ≤ (d 1).toInt) := of_decide_eq_false h14
      refine ⟨tellA chkCE_u20, _, _, _, tellA_ok (by (repeat refine told_cons (by assumption) ?_); exact told_nil), chkCE_y20, dutiesTold_ok ?_⟩
      refine ⟨?_, trivial⟩
      show (2 : Int) = errI (d 0).toInt (d 1).toInt (d 2).toInt (d 3).toInt (d 4).toInt 0
      unfold errI saysP rangeP
      repeat' split
      all_goals omega
    have p14 : (1) ≤ (d 1).toInt := of_decide_eq_true h14
    cases h15 : Q.val (OmD d) chkCE_q17
    · have p15 : ¬ ((1) ≤ (d 2).toInt) := of_decide_eq_false h15
      refine ⟨tellA chkCE_u21, _, _, _, tellA_ok (by (repeat refine told_cons (by assumption) ?_); exact told_nil), chkCE_y21, dutiesTold_ok ?_⟩
      refine ⟨?_, trivial⟩
      show (2 : Int) = errI (d 0).toInt (d 1).toInt (d 2).toInt (d 3).toInt (d 4).toInt 0
      unfold errI saysP rangeP
      repeat' split
      all_goals omega
    have p15 : (1) ≤ (d 2).toInt := of_decide_eq_true h15
    cases h16 : Q.val (OmD d) chkCE_q19
    · have p16 : ¬ ((1) ≤ (d 3).toInt) := of_decide_eq_false h16
      refine ⟨tellA chkCE_u22, _, _, _, tellA_ok (by (repeat refine told_cons (by assumption) ?_); exact told_nil), chkCE_y22, dutiesTold_ok ?_⟩
      refine ⟨?_, trivial⟩
      show (2 : Int) = errI (d 0).toInt (d 1).toInt (d 2).toInt (d 3).toInt (d 4).toInt 0
      unfold errI saysP rangeP
      repeat' split
      all_goals omega
    have p16 : (1) ≤ (d 3).toInt := of_decide_eq_true h16
    refine ⟨tellA chkCE_u23, _, _, _, tellA_ok (by (repeat refine told_cons (by assumption) ?_); exact told_nil), chkCE_y23, dutiesTold_ok ?_⟩
    refine ⟨?_, trivial⟩
    show (0 : Int) = errI (d 0).toInt (d 1).toInt (d 2).toInt (d 3).toInt (d 4).toInt 0
    unfold errI saysP rangeP
    repeat' split
    all_goals omega
  have p13 : ¬ ((d 0).toInt = (3)) := of_decide_eq_false h13
  cases h14 : Q.val (OmD d) chkCE_q20
  · have p14 : ¬ ((d 0).toInt = (4)) := of_decide_eq_false h14
    have p15 : (d 0).toInt = (5) := by omega
    have h15 : Q.val (OmD d) chkCE_q21 = true := decide_eq_true p15
    cases h16 : Q.val (OmD d) chkCE_q12
    · have p16 : ¬ ((1) ≤ (d 1).toInt) := of_decide_eq_false h16
      refine ⟨tellA chkCE_u28, _, _, _, tellA_ok (by (repeat refine told_cons (by assumption) ?_); exact told_nil), chkCE_y28, dutiesTold_ok ?_⟩
      refine ⟨?_, trivial⟩
      show (2 : Int) = errI (d 0).toInt (d 1).toInt (d 2).toInt (d 3).toInt (d 4).toInt 0
      unfold errI saysP rangeP
      repeat' split
      all_goals omega
    have p16 : (1) ≤ (d 1).toInt := of_decide_eq_true h16
    cases h17 : Q.val (OmD d) chkCE_q14
    · have p17 : ¬ ((d 3).toInt = (0)) := of_decide_eq_false h17
      refine ⟨tellA chkCE_u31, _, _, _, tellA_ok (by (repeat refine told_cons (by assumption) ?_); exact told_nil), chkCE_y31, dutiesTold_ok ?_⟩
      refine ⟨?_, trivial⟩
      show (2 : Int) = errI (d 0).toInt (d 1).toInt (d 2).toInt (d 3).toInt (d 4).toInt 0
      unfold errI saysP rangeP
      repeat' split
      all_goals omega
    have p17 : (d 3).toInt = (0) := of_decide_eq_true h17
    cases h18 : Q.val (OmD d) chkCE_q15
    · have p18 : ¬ ((d 4).toInt = (0)) := of_decide_eq_false h18
      refine ⟨tellA chkCE_u30, _, _, _, tellA_ok (by (repeat refine told_cons (by assumption) ?_); exact told_nil), chkCE_y30, dutiesTold_ok ?_⟩
      refine ⟨?_, trivial⟩
      show (2 : Int) = errI (d 0).toInt (d 1).toInt (d 2).toInt (d 3).toInt (d 4).toInt 0
      unfold errI saysP rangeP
      repeat' split
      all_goals omega
    have p18 : (d 4).toInt = (0) := of_decide_eq_true h18
    refine ⟨tellA chkCE_u29, _, _, _, tellA_ok (by (repeat refine told_cons (by assumption) ?_); exact told_nil), chkCE_y29, dutiesTold_ok ?_⟩
    refine ⟨?_, trivial⟩
    show (0 : Int) = errI (d 0).toInt (d 1).toInt (d 2).toInt (d 3).toInt (d 4).toInt 0
    unfold errI saysP rangeP
    repeat' split
    all_goals omega
  have p14 : (d 0).toInt = (4) := of_decide_eq_true h14
  cases h15 : Q.val (OmD d) chkCE_q12
  · have p15 : ¬ ((1) ≤ (d 1).toInt) := of_decide_eq_false h15
    refine ⟨tellA chkCE_u24, _, _, _, tellA_ok (by (repeat refine told_cons (by assumption) ?_); exact told_nil), chkCE_y24, dutiesTold_ok ?_⟩
    refine ⟨?_, trivial⟩
    show (2 : Int) = errI (d 0).toInt (d 1).toInt (d 2).toInt (d 3).toInt (d 4).toInt 0
    unfold errI saysP rangeP
    repeat' split
    all_goals omega
  have p15 : (1) ≤ (d 1).toInt := of_decide_eq_true h15
  cases h16 : Q.val (OmD d) chkCE_q17
  · have p16 : ¬ ((1) ≤ (d 2).toInt) := of_decide_eq_false h16
    refine ⟨tellA chkCE_u25, _, _, _, tellA_ok (by (repeat refine told_cons (by assumption) ?_); exact told_nil), chkCE_y25, dutiesTold_ok ?_⟩
    refine ⟨?_, trivial⟩
    show (2 : Int) = errI (d 0).toInt (d 1).toInt (d 2).toInt (d 3).toInt (d 4).toInt 0
    unfold errI saysP rangeP
    repeat' split
    all_goals omega
  have p16 : (1) ≤ (d 2).toInt := of_decide_eq_true h16
  cases h17 : Q.val (OmD d) chkCE_q14
  · have p17 : ¬ ((d 3).toInt = (0)) := of_decide_eq_false h17
    refine ⟨tellA chkCE_u27, _, _, _, tellA_ok (by (repeat refine told_cons (by assumption) ?_); exact told_nil), chkCE_y27, dutiesTold_ok ?_⟩
    refine ⟨?_, trivial⟩
    show (2 : Int) = errI (d 0).toInt (d 1).toInt (d 2).toInt (d 3).toInt (d 4).toInt 0
    unfold errI saysP rangeP
    repeat' split
    all_goals omega
  have p17 : (d 3).toInt = (0) := of_decide_eq_true h17
  refine ⟨tellA chkCE_u26, _, _, _, tellA_ok (by (repeat refine told_cons (by assumption) ?_); exact told_nil), chkCE_y26, dutiesTold_ok ?_⟩
  refine ⟨?_, trivial⟩
  show (0 : Int) = errI (d 0).toInt (d 1).toInt (d 2).toInt (d 3).toInt (d 4).toInt 0
  unfold errI saysP rangeP
  repeat' split
  all_goals omega

end Go.Proofs.YtlmcjfcfmcdcpaaDoor.Fa
