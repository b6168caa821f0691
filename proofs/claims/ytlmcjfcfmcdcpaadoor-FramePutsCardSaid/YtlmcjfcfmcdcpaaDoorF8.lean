/-
  Contracts of this seat: what loops and calls leave, for all inputs. No condition.
-/
import Derived.Test.YtlmcjfcfmcdcpaaDoorSycp
import Derived.Test.YtlmcjfcfmcdcpaaDoorCo
import Derived.Test.YtlmcjfcfmcdcpaaDoorGa
import Derived.Test.YtlmcjfcfmcdcpaaDoorGm
import Derived.Test.YtlmcjfcfmcdcpaaDoorFl
set_option linter.unusedSimpArgs false
set_option linter.unusedVariables false
namespace Go.Proofs.YtlmcjfcfmcdcpaaDoor.F8
open Go.RowKit Go.Ev Go.Proofs.YtlmcjfcfmcdcpaaDoor.Co

open Go.Proofs.YtlmcjfcfmcdcpaaDoor.Ga
open Go.Proofs.YtlmcjfcfmcdcpaaDoor.Gm
open Go.Proofs.YtlmcjfcfmcdcpaaDoor.Fl

def chkCL : CSpec := { args := [.agg [.sint .i64 (.var 0), .sint .i64 (.var 1), .sint .i64 (.var 2), .sint .i64 (.var 3), .sint .i64 (.var 4), .slice 3 0 0 3 false]], next := 2, rows := [(3, .eseq ⟨.u8, .int 3, .lits [160, 161, 162]⟩), (0, .ext cellsG)], pre := [], res := .sint .i64 (.fn 11 (argsE [.var 0, .var 1, .var 2, .var 3, .var 4, .int 0])), frows := [], same := [] }
abbrev OmD (d : Nat → D) : Om := ⟨fun _ => .bool false, d, F⟩
abbrev chkCL_q0 : Q := (.le (.int 1) (.var 0))
abbrev chkCL_q1 : Q := (.le (.int 6) (.var 0))
abbrev chkCL_q2 : Q := (.le (.int 0) (.var 1))
abbrev chkCL_q3 : Q := (.le (.var 1) (.int 2147483647))
abbrev chkCL_q4 : Q := (.le (.int 0) (.var 2))
abbrev chkCL_q5 : Q := (.le (.var 2) (.int 2147483647))
abbrev chkCL_q6 : Q := (.le (.int 0) (.var 3))
abbrev chkCL_q7 : Q := (.le (.var 3) (.int 2147483647))
abbrev chkCL_q8 : Q := (.le (.int 0) (.var 4))
abbrev chkCL_q9 : Q := (.le (.var 4) (.int 2147483647))
abbrev chkCL_q10 : Q := (.eq (.var 0) (.int 0))
abbrev chkCL_q11 : Q := (.eq (.var 0) (.int 1))
abbrev chkCL_q12 : Q := (.le (.int 1) (.var 1))
abbrev chkCL_q13 : Q := (.eq (.var 2) (.int 0))
abbrev chkCL_q14 : Q := (.eq (.var 3) (.int 0))
abbrev chkCL_q15 : Q := (.eq (.var 4) (.int 0))
abbrev chkCL_q16 : Q := (.eq (.var 0) (.int 2))
abbrev chkCL_q17 : Q := (.le (.int 1) (.var 2))
abbrev chkCL_q18 : Q := (.eq (.var 0) (.int 3))
abbrev chkCL_q19 : Q := (.le (.int 1) (.var 3))
abbrev chkCL_q20 : Q := (.eq (.var 0) (.int 4))
abbrev chkCL_q21 : Q := (.eq (.var 0) (.int 5))
abbrev chkCL_u0 : List (Q × Bool) := [(chkCL_q0, false)]
def chkCL_d0 : List Duty := [(true, (.int 213), (.fn 11 (.bi .pair (.var 0) (.bi .pair (.var 1) (.bi .pair (.var 2) (.bi .pair (.var 3) (.bi .pair (.var 4) (.bi .pair (.int 0) (.int 0)))))))))]
theorem chkCL_y0 : endC chkCL [] 1000 (callC Tryd.prog (tellA chkCL_u0) [] [] [] 3000 40 14 chkCL) = some chkCL_d0 := by kernel_rfl
abbrev chkCL_u1 : List (Q × Bool) := [(chkCL_q0, true), (chkCL_q1, true)]
theorem chkCL_y1 : endC chkCL [] 1000 (callC Tryd.prog (tellA chkCL_u1) [] [] [] 3000 40 14 chkCL) = some chkCL_d0 := by kernel_rfl
abbrev chkCL_u2 : List (Q × Bool) := [(chkCL_q0, true), (chkCL_q1, false), (chkCL_q2, false)]
def chkCL_d1 : List Duty := [(true, (.int 5), (.fn 11 (.bi .pair (.var 0) (.bi .pair (.var 1) (.bi .pair (.var 2) (.bi .pair (.var 3) (.bi .pair (.var 4) (.bi .pair (.int 0) (.int 0)))))))))]
theorem chkCL_y2 : endC chkCL [] 1000 (callC Tryd.prog (tellA chkCL_u2) [] [] [] 3000 40 14 chkCL) = some chkCL_d1 := by kernel_rfl
abbrev chkCL_u3 : List (Q × Bool) := [(chkCL_q0, true), (chkCL_q1, false), (chkCL_q2, true), (chkCL_q3, false)]
theorem chkCL_y3 : endC chkCL [] 1000 (callC Tryd.prog (tellA chkCL_u3) [] [] [] 3000 40 14 chkCL) = some chkCL_d1 := by kernel_rfl
abbrev chkCL_u4 : List (Q × Bool) := [(chkCL_q0, true), (chkCL_q1, false), (chkCL_q2, true), (chkCL_q3, true), (chkCL_q4, false)]
theorem chkCL_y4 : endC chkCL [] 1000 (callC Tryd.prog (tellA chkCL_u4) [] [] [] 3000 40 14 chkCL) = some chkCL_d1 := by kernel_rfl
abbrev chkCL_u5 : List (Q × Bool) := [(chkCL_q0, true), (chkCL_q1, false), (chkCL_q2, true), (chkCL_q3, true), (chkCL_q4, true), (chkCL_q5, false)]
theorem chkCL_y5 : endC chkCL [] 1000 (callC Tryd.prog (tellA chkCL_u5) [] [] [] 3000 40 14 chkCL) = some chkCL_d1 := by kernel_rfl
abbrev chkCL_u6 : List (Q × Bool) := [(chkCL_q0, true), (chkCL_q1, false), (chkCL_q2, true), (chkCL_q3, true), (chkCL_q4, true), (chkCL_q5, true), (chkCL_q6, false)]
theorem chkCL_y6 : endC chkCL [] 1000 (callC Tryd.prog (tellA chkCL_u6) [] [] [] 3000 40 14 chkCL) = some chkCL_d1 := by kernel_rfl
abbrev chkCL_u7 : List (Q × Bool) := [(chkCL_q0, true), (chkCL_q1, false), (chkCL_q2, true), (chkCL_q3, true), (chkCL_q4, true), (chkCL_q5, true), (chkCL_q6, true), (chkCL_q7, false)]
theorem chkCL_y7 : endC chkCL [] 1000 (callC Tryd.prog (tellA chkCL_u7) [] [] [] 3000 40 14 chkCL) = some chkCL_d1 := by kernel_rfl
abbrev chkCL_u8 : List (Q × Bool) := [(chkCL_q0, true), (chkCL_q1, false), (chkCL_q2, true), (chkCL_q3, true), (chkCL_q4, true), (chkCL_q5, true), (chkCL_q6, true), (chkCL_q7, true), (chkCL_q8, false)]
theorem chkCL_y8 : endC chkCL [] 1000 (callC Tryd.prog (tellA chkCL_u8) [] [] [] 3000 40 14 chkCL) = some chkCL_d1 := by kernel_rfl
abbrev chkCL_u9 : List (Q × Bool) := [(chkCL_q0, true), (chkCL_q1, false), (chkCL_q2, true), (chkCL_q3, true), (chkCL_q4, true), (chkCL_q5, true), (chkCL_q6, true), (chkCL_q7, true), (chkCL_q8, true), (chkCL_q9, false)]
theorem chkCL_y9 : endC chkCL [] 1000 (callC Tryd.prog (tellA chkCL_u9) [] [] [] 3000 40 14 chkCL) = some chkCL_d1 := by kernel_rfl
abbrev chkCL_u10 : List (Q × Bool) := [(chkCL_q0, true), (chkCL_q1, false), (chkCL_q2, true), (chkCL_q3, true), (chkCL_q4, true), (chkCL_q5, true), (chkCL_q6, true), (chkCL_q7, true), (chkCL_q8, true), (chkCL_q9, true), (chkCL_q10, false), (chkCL_q11, true), (chkCL_q12, false)]
def chkCL_d2 : List Duty := [(true, (.int 2), (.fn 11 (.bi .pair (.var 0) (.bi .pair (.var 1) (.bi .pair (.var 2) (.bi .pair (.var 3) (.bi .pair (.var 4) (.bi .pair (.int 0) (.int 0)))))))))]
theorem chkCL_y10 : endC chkCL [] 1000 (callC Tryd.prog (tellA chkCL_u10) [] [] [] 3000 40 14 chkCL) = some chkCL_d2 := by kernel_rfl
abbrev chkCL_u11 : List (Q × Bool) := [(chkCL_q0, true), (chkCL_q1, false), (chkCL_q2, true), (chkCL_q3, true), (chkCL_q4, true), (chkCL_q5, true), (chkCL_q6, true), (chkCL_q7, true), (chkCL_q8, true), (chkCL_q9, true), (chkCL_q10, false), (chkCL_q11, true), (chkCL_q12, true), (chkCL_q13, true), (chkCL_q14, true), (chkCL_q15, true)]
def chkCL_d3 : List Duty := [(true, (.int 0), (.fn 11 (.bi .pair (.var 0) (.bi .pair (.var 1) (.bi .pair (.var 2) (.bi .pair (.var 3) (.bi .pair (.var 4) (.bi .pair (.int 0) (.int 0)))))))))]
theorem chkCL_y11 : endC chkCL [] 1000 (callC Tryd.prog (tellA chkCL_u11) [] [] [] 3000 40 14 chkCL) = some chkCL_d3 := by kernel_rfl
abbrev chkCL_u12 : List (Q × Bool) := [(chkCL_q0, true), (chkCL_q1, false), (chkCL_q2, true), (chkCL_q3, true), (chkCL_q4, true), (chkCL_q5, true), (chkCL_q6, true), (chkCL_q7, true), (chkCL_q8, true), (chkCL_q9, true), (chkCL_q10, false), (chkCL_q11, true), (chkCL_q12, true), (chkCL_q13, true), (chkCL_q14, true), (chkCL_q15, false)]
theorem chkCL_y12 : endC chkCL [] 1000 (callC Tryd.prog (tellA chkCL_u12) [] [] [] 3000 40 14 chkCL) = some chkCL_d2 := by kernel_rfl
abbrev chkCL_u13 : List (Q × Bool) := [(chkCL_q0, true), (chkCL_q1, false), (chkCL_q2, true), (chkCL_q3, true), (chkCL_q4, true), (chkCL_q5, true), (chkCL_q6, true), (chkCL_q7, true), (chkCL_q8, true), (chkCL_q9, true), (chkCL_q10, false), (chkCL_q11, true), (chkCL_q12, true), (chkCL_q13, true), (chkCL_q14, false)]
theorem chkCL_y13 : endC chkCL [] 1000 (callC Tryd.prog (tellA chkCL_u13) [] [] [] 3000 40 14 chkCL) = some chkCL_d2 := by kernel_rfl
abbrev chkCL_u14 : List (Q × Bool) := [(chkCL_q0, true), (chkCL_q1, false), (chkCL_q2, true), (chkCL_q3, true), (chkCL_q4, true), (chkCL_q5, true), (chkCL_q6, true), (chkCL_q7, true), (chkCL_q8, true), (chkCL_q9, true), (chkCL_q10, false), (chkCL_q11, true), (chkCL_q12, true), (chkCL_q13, false)]
theorem chkCL_y14 : endC chkCL [] 1000 (callC Tryd.prog (tellA chkCL_u14) [] [] [] 3000 40 14 chkCL) = some chkCL_d2 := by kernel_rfl
abbrev chkCL_u15 : List (Q × Bool) := [(chkCL_q0, true), (chkCL_q1, false), (chkCL_q2, true), (chkCL_q3, true), (chkCL_q4, true), (chkCL_q5, true), (chkCL_q6, true), (chkCL_q7, true), (chkCL_q8, true), (chkCL_q9, true), (chkCL_q10, false), (chkCL_q11, false), (chkCL_q16, true), (chkCL_q12, false)]
theorem chkCL_y15 : endC chkCL [] 1000 (callC Tryd.prog (tellA chkCL_u15) [] [] [] 3000 40 14 chkCL) = some chkCL_d2 := by kernel_rfl
abbrev chkCL_u16 : List (Q × Bool) := [(chkCL_q0, true), (chkCL_q1, false), (chkCL_q2, true), (chkCL_q3, true), (chkCL_q4, true), (chkCL_q5, true), (chkCL_q6, true), (chkCL_q7, true), (chkCL_q8, true), (chkCL_q9, true), (chkCL_q10, false), (chkCL_q11, false), (chkCL_q16, true), (chkCL_q12, true), (chkCL_q17, false)]
theorem chkCL_y16 : endC chkCL [] 1000 (callC Tryd.prog (tellA chkCL_u16) [] [] [] 3000 40 14 chkCL) = some chkCL_d2 := by kernel_rfl
abbrev chkCL_u17 : List (Q × Bool) := [(chkCL_q0, true), (chkCL_q1, false), (chkCL_q2, true), (chkCL_q3, true), (chkCL_q4, true), (chkCL_q5, true), (chkCL_q6, true), (chkCL_q7, true), (chkCL_q8, true), (chkCL_q9, true), (chkCL_q10, false), (chkCL_q11, false), (chkCL_q16, true), (chkCL_q12, true), (chkCL_q17, true), (chkCL_q14, true), (chkCL_q15, true)]
theorem chkCL_y17 : endC chkCL [] 1000 (callC Tryd.prog (tellA chkCL_u17) [] [] [] 3000 40 14 chkCL) = some chkCL_d3 := by kernel_rfl
abbrev chkCL_u18 : List (Q × Bool) := [(chkCL_q0, true), (chkCL_q1, false), (chkCL_q2, true), (chkCL_q3, true), (chkCL_q4, true), (chkCL_q5, true), (chkCL_q6, true), (chkCL_q7, true), (chkCL_q8, true), (chkCL_q9, true), (chkCL_q10, false), (chkCL_q11, false), (chkCL_q16, true), (chkCL_q12, true), (chkCL_q17, true), (chkCL_q14, true), (chkCL_q15, false)]
theorem chkCL_y18 : endC chkCL [] 1000 (callC Tryd.prog (tellA chkCL_u18) [] [] [] 3000 40 14 chkCL) = some chkCL_d2 := by kernel_rfl
abbrev chkCL_u19 : List (Q × Bool) := [(chkCL_q0, true), (chkCL_q1, false), (chkCL_q2, true), (chkCL_q3, true), (chkCL_q4, true), (chkCL_q5, true), (chkCL_q6, true), (chkCL_q7, true), (chkCL_q8, true), (chkCL_q9, true), (chkCL_q10, false), (chkCL_q11, false), (chkCL_q16, true), (chkCL_q12, true), (chkCL_q17, true), (chkCL_q14, false)]
theorem chkCL_y19 : endC chkCL [] 1000 (callC Tryd.prog (tellA chkCL_u19) [] [] [] 3000 40 14 chkCL) = some chkCL_d2 := by kernel_rfl
abbrev chkCL_u20 : List (Q × Bool) := [(chkCL_q0, true), (chkCL_q1, false), (chkCL_q2, true), (chkCL_q3, true), (chkCL_q4, true), (chkCL_q5, true), (chkCL_q6, true), (chkCL_q7, true), (chkCL_q8, true), (chkCL_q9, true), (chkCL_q10, false), (chkCL_q11, false), (chkCL_q16, false), (chkCL_q18, true), (chkCL_q12, false)]
theorem chkCL_y20 : endC chkCL [] 1000 (callC Tryd.prog (tellA chkCL_u20) [] [] [] 3000 40 14 chkCL) = some chkCL_d2 := by kernel_rfl
abbrev chkCL_u21 : List (Q × Bool) := [(chkCL_q0, true), (chkCL_q1, false), (chkCL_q2, true), (chkCL_q3, true), (chkCL_q4, true), (chkCL_q5, true), (chkCL_q6, true), (chkCL_q7, true), (chkCL_q8, true), (chkCL_q9, true), (chkCL_q10, false), (chkCL_q11, false), (chkCL_q16, false), (chkCL_q18, true), (chkCL_q12, true), (chkCL_q17, false)]
theorem chkCL_y21 : endC chkCL [] 1000 (callC Tryd.prog (tellA chkCL_u21) [] [] [] 3000 40 14 chkCL) = some chkCL_d2 := by kernel_rfl
abbrev chkCL_u22 : List (Q × Bool) := [(chkCL_q0, true), (chkCL_q1, false), (chkCL_q2, true), (chkCL_q3, true), (chkCL_q4, true), (chkCL_q5, true), (chkCL_q6, true), (chkCL_q7, true), (chkCL_q8, true), (chkCL_q9, true), (chkCL_q10, false), (chkCL_q11, false), (chkCL_q16, false), (chkCL_q18, true), (chkCL_q12, true), (chkCL_q17, true), (chkCL_q19, false)]
theorem chkCL_y22 : endC chkCL [] 1000 (callC Tryd.prog (tellA chkCL_u22) [] [] [] 3000 40 14 chkCL) = some chkCL_d2 := by kernel_rfl
abbrev chkCL_u23 : List (Q × Bool) := [(chkCL_q0, true), (chkCL_q1, false), (chkCL_q2, true), (chkCL_q3, true), (chkCL_q4, true), (chkCL_q5, true), (chkCL_q6, true), (chkCL_q7, true), (chkCL_q8, true), (chkCL_q9, true), (chkCL_q10, false), (chkCL_q11, false), (chkCL_q16, false), (chkCL_q18, true), (chkCL_q12, true), (chkCL_q17, true), (chkCL_q19, true)]
theorem chkCL_y23 : endC chkCL [] 1000 (callC Tryd.prog (tellA chkCL_u23) [] [] [] 3000 40 14 chkCL) = some chkCL_d3 := by kernel_rfl
abbrev chkCL_u24 : List (Q × Bool) := [(chkCL_q0, true), (chkCL_q1, false), (chkCL_q2, true), (chkCL_q3, true), (chkCL_q4, true), (chkCL_q5, true), (chkCL_q6, true), (chkCL_q7, true), (chkCL_q8, true), (chkCL_q9, true), (chkCL_q10, false), (chkCL_q11, false), (chkCL_q16, false), (chkCL_q18, false), (chkCL_q20, true), (chkCL_q12, false)]
theorem chkCL_y24 : endC chkCL [] 1000 (callC Tryd.prog (tellA chkCL_u24) [] [] [] 3000 40 14 chkCL) = some chkCL_d2 := by kernel_rfl
abbrev chkCL_u25 : List (Q × Bool) := [(chkCL_q0, true), (chkCL_q1, false), (chkCL_q2, true), (chkCL_q3, true), (chkCL_q4, true), (chkCL_q5, true), (chkCL_q6, true), (chkCL_q7, true), (chkCL_q8, true), (chkCL_q9, true), (chkCL_q10, false), (chkCL_q11, false), (chkCL_q16, false), (chkCL_q18, false), (chkCL_q20, true), (chkCL_q12, true), (chkCL_q17, false)]
theorem chkCL_y25 : endC chkCL [] 1000 (callC Tryd.prog (tellA chkCL_u25) [] [] [] 3000 40 14 chkCL) = some chkCL_d2 := by kernel_rfl
abbrev chkCL_u26 : List (Q × Bool) := [(chkCL_q0, true), (chkCL_q1, false), (chkCL_q2, true), (chkCL_q3, true), (chkCL_q4, true), (chkCL_q5, true), (chkCL_q6, true), (chkCL_q7, true), (chkCL_q8, true), (chkCL_q9, true), (chkCL_q10, false), (chkCL_q11, false), (chkCL_q16, false), (chkCL_q18, false), (chkCL_q20, true), (chkCL_q12, true), (chkCL_q17, true), (chkCL_q14, true)]
theorem chkCL_y26 : endC chkCL [] 1000 (callC Tryd.prog (tellA chkCL_u26) [] [] [] 3000 40 14 chkCL) = some chkCL_d3 := by kernel_rfl
abbrev chkCL_u27 : List (Q × Bool) := [(chkCL_q0, true), (chkCL_q1, false), (chkCL_q2, true), (chkCL_q3, true), (chkCL_q4, true), (chkCL_q5, true), (chkCL_q6, true), (chkCL_q7, true), (chkCL_q8, true), (chkCL_q9, true), (chkCL_q10, false), (chkCL_q11, false), (chkCL_q16, false), (chkCL_q18, false), (chkCL_q20, true), (chkCL_q12, true), (chkCL_q17, true), (chkCL_q14, false)]
theorem chkCL_y27 : endC chkCL [] 1000 (callC Tryd.prog (tellA chkCL_u27) [] [] [] 3000 40 14 chkCL) = some chkCL_d2 := by kernel_rfl
abbrev chkCL_u28 : List (Q × Bool) := [(chkCL_q0, true), (chkCL_q1, false), (chkCL_q2, true), (chkCL_q3, true), (chkCL_q4, true), (chkCL_q5, true), (chkCL_q6, true), (chkCL_q7, true), (chkCL_q8, true), (chkCL_q9, true), (chkCL_q10, false), (chkCL_q11, false), (chkCL_q16, false), (chkCL_q18, false), (chkCL_q20, false), (chkCL_q21, true), (chkCL_q12, false)]
theorem chkCL_y28 : endC chkCL [] 1000 (callC Tryd.prog (tellA chkCL_u28) [] [] [] 3000 40 14 chkCL) = some chkCL_d2 := by kernel_rfl
abbrev chkCL_u29 : List (Q × Bool) := [(chkCL_q0, true), (chkCL_q1, false), (chkCL_q2, true), (chkCL_q3, true), (chkCL_q4, true), (chkCL_q5, true), (chkCL_q6, true), (chkCL_q7, true), (chkCL_q8, true), (chkCL_q9, true), (chkCL_q10, false), (chkCL_q11, false), (chkCL_q16, false), (chkCL_q18, false), (chkCL_q20, false), (chkCL_q21, true), (chkCL_q12, true), (chkCL_q14, true), (chkCL_q15, true)]
theorem chkCL_y29 : endC chkCL [] 1000 (callC Tryd.prog (tellA chkCL_u29) [] [] [] 3000 40 14 chkCL) = some chkCL_d3 := by kernel_rfl
abbrev chkCL_u30 : List (Q × Bool) := [(chkCL_q0, true), (chkCL_q1, false), (chkCL_q2, true), (chkCL_q3, true), (chkCL_q4, true), (chkCL_q5, true), (chkCL_q6, true), (chkCL_q7, true), (chkCL_q8, true), (chkCL_q9, true), (chkCL_q10, false), (chkCL_q11, false), (chkCL_q16, false), (chkCL_q18, false), (chkCL_q20, false), (chkCL_q21, true), (chkCL_q12, true), (chkCL_q14, true), (chkCL_q15, false)]
theorem chkCL_y30 : endC chkCL [] 1000 (callC Tryd.prog (tellA chkCL_u30) [] [] [] 3000 40 14 chkCL) = some chkCL_d2 := by kernel_rfl
abbrev chkCL_u31 : List (Q × Bool) := [(chkCL_q0, true), (chkCL_q1, false), (chkCL_q2, true), (chkCL_q3, true), (chkCL_q4, true), (chkCL_q5, true), (chkCL_q6, true), (chkCL_q7, true), (chkCL_q8, true), (chkCL_q9, true), (chkCL_q10, false), (chkCL_q11, false), (chkCL_q16, false), (chkCL_q18, false), (chkCL_q20, false), (chkCL_q21, true), (chkCL_q12, true), (chkCL_q14, false)]
theorem chkCL_y31 : endC chkCL [] 1000 (callC Tryd.prog (tellA chkCL_u31) [] [] [] 3000 40 14 chkCL) = some chkCL_d2 := by kernel_rfl
set_option maxHeartbeats 8000000 in
theorem chkCL_holds : CHolds Tryd.prog 14 chkCL F := by
  refine cholds_of sound (tableNil _ _) (specsNil _ _) (oversNil _ _) (fuel := 3000) (depth := 40) (by kernel_rfl) fun d hp hR hA => ?_
  have hp := allTold'_iff.2 hp
  simp only [chkCL, allTold', dutiesTold, factsA, factsC, factsP, factsR, AV.facts, RW.facts, inK, and_true, Q.holds', E.i, E.s, E.n, D.nat, E.den, BO.den, UO.den, TO.den, D.toInt_int, D.toList_list, D.ints_ofInts, i64min, i64max, u8min, u8max, u16min, u16max, u32min, u32max, u64min, u64max, i32min, i32max, Om.sub, selI, ints_app, ints_cut, ints_upd, ints_rep, ints_splice, ints_seg, len_ints] at hp hR hA
  cases h0 : Q.val (OmD d) chkCL_q0
  · have p0 : ¬ ((1) ≤ (d 0).toInt) := of_decide_eq_false h0
    refine ⟨tellA chkCL_u0, _, _, _, tellA_ok (told_cons h0 told_nil), chkCL_y0, dutiesTold_ok ?_⟩
    refine ⟨?_, trivial⟩
    show (213 : Int) = errI (d 0).toInt (d 1).toInt (d 2).toInt (d 3).toInt (d 4).toInt 0
    unfold errI saysP rangeP
    repeat' split
    all_goals omega
  have p0 : (1) ≤ (d 0).toInt := of_decide_eq_true h0
  cases h1 : Q.val (OmD d) chkCL_q1
  rotate_left
  · have p1 : (6) ≤ (d 0).toInt := of_decide_eq_true h1
    refine ⟨tellA chkCL_u1, _, _, _, tellA_ok (told_cons h0 (told_cons h1 told_nil)), chkCL_y1, dutiesTold_ok ?_⟩
    refine ⟨?_, trivial⟩
    show (213 : Int) = errI (d 0).toInt (d 1).toInt (d 2).toInt (d 3).toInt (d 4).toInt 0
    unfold errI saysP rangeP
    repeat' split
    all_goals omega
  have p1 : ¬ ((6) ≤ (d 0).toInt) := of_decide_eq_false h1
  cases h2 : Q.val (OmD d) chkCL_q2
  · have p2 : ¬ ((0) ≤ (d 1).toInt) := of_decide_eq_false h2
    refine ⟨tellA chkCL_u2, _, _, _, tellA_ok (told_cons h0 (told_cons h1 (told_cons h2 told_nil))), chkCL_y2, dutiesTold_ok ?_⟩
    refine ⟨?_, trivial⟩
    show (5 : Int) = errI (d 0).toInt (d 1).toInt (d 2).toInt (d 3).toInt (d 4).toInt 0
    unfold errI saysP rangeP
    repeat' split
    all_goals omega
  have p2 : (0) ≤ (d 1).toInt := of_decide_eq_true h2
  cases h3 : Q.val (OmD d) chkCL_q3
  · have p3 : ¬ ((d 1).toInt ≤ (2147483647)) := of_decide_eq_false h3
    refine ⟨tellA chkCL_u3, _, _, _, tellA_ok (by (repeat refine told_cons (by assumption) ?_); exact told_nil), chkCL_y3, dutiesTold_ok ?_⟩
    refine ⟨?_, trivial⟩
    show (5 : Int) = errI (d 0).toInt (d 1).toInt (d 2).toInt (d 3).toInt (d 4).toInt 0
    unfold errI saysP rangeP
    repeat' split
    all_goals omega
  have p3 : (d 1).toInt ≤ (2147483647) := of_decide_eq_true h3
  cases h4 : Q.val (OmD d) chkCL_q4
  · have p4 : ¬ ((0) ≤ (d 2).toInt) := of_decide_eq_false h4
    refine ⟨tellA chkCL_u4, _, _, _, tellA_ok (by (repeat refine told_cons (by assumption) ?_); exact told_nil), chkCL_y4, dutiesTold_ok ?_⟩
    refine ⟨?_, trivial⟩
    show (5 : Int) = errI (d 0).toInt (d 1).toInt (d 2).toInt (d 3).toInt (d 4).toInt 0
    unfold errI saysP rangeP
    repeat' split
    all_goals omega
  have p4 : (0) ≤ (d 2).toInt := of_decide_eq_true h4
  cases h5 : Q.val (OmD d) chkCL_q5
  · have p5 : ¬ ((d 2).toInt ≤ (2147483647)) := of_decide_eq_false h5
    refine ⟨tellA chkCL_u5, _, _, _, tellA_ok (by (repeat refine told_cons (by assumption) ?_); exact told_nil), chkCL_y5, dutiesTold_ok ?_⟩
    refine ⟨?_, trivial⟩
    show (5 : Int) = errI (d 0).toInt (d 1).toInt (d 2).toInt (d 3).toInt (d 4).toInt 0
    unfold errI saysP rangeP
    repeat' split
    all_goals omega
  have p5 : (d 2).toInt ≤ (2147483647) := of_decide_eq_true h5
  cases h6 : Q.val (OmD d) chkCL_q6
  · have p6 : ¬ ((0) ≤ (d 3).toInt) := of_decide_eq_false h6
    refine ⟨tellA chkCL_u6, _, _, _, tellA_ok (by (repeat refine told_cons (by assumption) ?_); exact told_nil), chkCL_y6, dutiesTold_ok ?_⟩
    refine ⟨?_, trivial⟩
    show (5 : Int) = errI (d 0).toInt (d 1).toInt (d 2).toInt (d 3).toInt (d 4).toInt 0
    unfold errI saysP rangeP
    repeat' split
    all_goals omega
  have p6 : (0) ≤ (d 3).toInt := of_decide_eq_true h6
  cases h7 : Q.val (OmD d) chkCL_q7
  · have p7 : ¬ ((d 3).toInt ≤ (2147483647)) := of_decide_eq_false h7
    refine ⟨tellA chkCL_u7, _, _, _, tellA_ok (by (repeat refine told_cons (by assumption) ?_); exact told_nil), chkCL_y7, dutiesTold_ok ?_⟩
    refine ⟨?_, trivial⟩
    show (5 : Int) = errI (d 0).toInt (d 1).toInt (d 2).toInt (d 3).toInt (d 4).toInt 0
    unfold errI saysP rangeP
    repeat' split
    all_goals omega
  have p7 : (d 3).toInt ≤ (2147483647) := of_decide_eq_true h7
  cases h8 : Q.val (OmD d) chkCL_q8
  · have p8 : ¬ ((0) ≤ (d 4).toInt) := of_decide_eq_false h8
    refine ⟨tellA chkCL_u8, _, _, _, tellA_ok (by (repeat refine told_cons (by assumption) ?_); exact told_nil), chkCL_y8, dutiesTold_ok ?_⟩
    refine ⟨?_, trivial⟩
    show (5 : Int) = errI (d 0).toInt (d 1).toInt (d 2).toInt (d 3).toInt (d 4).toInt 0
    unfold errI saysP rangeP
    repeat' split
    all_goals omega
  have p8 : (0) ≤ (d 4).toInt := of_decide_eq_true h8
  cases h9 : Q.val (OmD d) chkCL_q9
  · have p9 : ¬ ((d 4).toInt ≤ (2147483647)) := of_decide_eq_false h9
    refine ⟨tellA chkCL_u9, _, _, _, tellA_ok (by (repeat refine told_cons (by assumption) ?_); exact told_nil), chkCL_y9, dutiesTold_ok ?_⟩
    refine ⟨?_, trivial⟩
    show (5 : Int) = errI (d 0).toInt (d 1).toInt (d 2).toInt (d 3).toInt (d 4).toInt 0
    unfold errI saysP rangeP
    repeat' split
    all_goals omega
  have p9 : (d 4).toInt ≤ (2147483647) := of_decide_eq_true h9
  have p10 : ¬ ((d 0).toInt = (0)) := by omega
  have h10 : Q.val (OmD d) chkCL_q10 = false := decide_eq_false p10
  cases h11 : Q.val (OmD d) chkCL_q11
  rotate_left
  · have p11 : (d 0).toInt = (1) := of_decide_eq_true h11
    cases h12 : Q.val (OmD d) chkCL_q12
    · have p12 : ¬ ((1) ≤ (d 1).toInt) := of_decide_eq_false h12
      refine ⟨tellA chkCL_u10, _, _, _, tellA_ok (by (repeat refine told_cons (by assumption) ?_); exact told_nil), chkCL_y10, dutiesTold_ok ?_⟩
      refine ⟨?_, trivial⟩
      show (2 : Int) = errI (d 0).toInt (d 1).toInt (d 2).toInt (d 3).toInt (d 4).toInt 0
      unfold errI saysP rangeP
      repeat' split
      all_goals omega
    have p12 : (1) ≤ (d 1).toInt := of_decide_eq_true h12
    cases h13 : Q.val (OmD d) chkCL_q13
    · have p13 : ¬ ((d 2).toInt = (0)) := of_decide_eq_false h13
      refine ⟨tellA chkCL_u14, _, _, _, tellA_ok (by (repeat refine told_cons (by assumption) ?_); exact told_nil), chkCL_y14, dutiesTold_ok ?_⟩
      refine ⟨?_, trivial⟩
      show (2 : Int) = errI (d 0).toInt (d 1).toInt (d 2).toInt (d 3).toInt (d 4).toInt 0
      unfold errI saysP rangeP
      repeat' split
      all_goals omega
    have p13 : (d 2).toInt = (0) := of_decide_eq_true h13
    cases h14 : Q.val (OmD d) chkCL_q14
    · have p14 : ¬ ((d 3).toInt = (0)) := of_decide_eq_false h14
      refine ⟨tellA chkCL_u13, _, _, _, tellA_ok (by (repeat refine told_cons (by assumption) ?_); exact told_nil), chkCL_y13, dutiesTold_ok ?_⟩
      refine ⟨?_, trivial⟩
      show (2 : Int) = errI (d 0).toInt (d 1).toInt (d 2).toInt (d 3).toInt (d 4).toInt 0
      unfold errI saysP rangeP
      repeat' split
      all_goals omega
    have p14 : (d 3).toInt = (0) := of_decide_eq_true h14
    cases h15 : Q.val (OmD d) chkCL_q15
    · have p15 : ¬ ((d 4).toInt = (0)) := of_decide_eq_false h15
      refine ⟨tellA chkCL_u12, _, _, _, tellA_ok (by (repeat refine told_cons (by assumption) ?_); exact told_nil), chkCL_y12, dutiesTold_ok ?_⟩
      refine ⟨?_, trivial⟩
      show (2 : Int) = errI (d 0).toInt (d 1).toInt (d 2).toInt (d 3).toInt (d 4).toInt 0
      unfold errI saysP rangeP
      repeat' split
      all_goals omega
    have p15 : (d 4).toInt = (0) := of_decide_eq_true h15
    refine ⟨tellA chkCL_u11, _, _, _, tellA_ok (by (repeat refine told_cons (by assumption) ?_); exact told_nil), chkCL_y11, dutiesTold_ok ?_⟩
    refine ⟨?_, trivial⟩
    show (0 : Int) = errI (d 0).toInt (d 1).toInt (d 2).toInt (d 3).toInt (d 4).toInt 0
    unfold errI saysP rangeP
    repeat' split
    all_goals omega
  have p11 : ¬ ((d 0).toInt = (1)) := of_decide_eq_false h11
  cases h12 : Q.val (OmD d) chkCL_q16
  rotate_left
  · have p12 : (d 0).toInt = (2) := of_decide_eq_true h12
    cases h13 : Q.val (OmD d) chkCL_q12
    · have p13 : ¬ ((1) ≤ (d 1).toInt) := of_decide_eq_false h13
      refine ⟨tellA chkCL_u15, _, _, _, tellA_ok (by (repeat refine told_cons (by assumption) ?_); exact told_nil), chkCL_y15, dutiesTold_ok ?_⟩
      refine ⟨?_, trivial⟩
      show (2 : Int) = errI (d 0).toInt (d 1).toInt (d 2).toInt (d 3).toInt (d 4).toInt 0
      unfold errI saysP rangeP
      repeat' split
      all_goals omega
    have p13 : (1) ≤ (d 1).toInt := of_decide_eq_true h13
    cases h14 : Q.val (OmD d) chkCL_q17
    · have p14 : ¬ ((1) ≤ (d 2).toInt) := of_decide_eq_false h14
      refine ⟨tellA chkCL_u16, _, _, _, tellA_ok (by (repeat refine told_cons (by assumption) ?_); exact told_nil), chkCL_y16, dutiesTold_ok ?_⟩
      refine ⟨?_, trivial⟩
      show (2 : Int) = errI (d 0).toInt (d 1).toInt (d 2).toInt (d 3).toInt (d 4).toInt 0
      unfold errI saysP rangeP
      repeat' split
      all_goals omega
    have p14 : (1) ≤ (d 2).toInt := of_decide_eq_true h14
    cases h15 : Q.val (OmD d) chkCL_q14
    · have p15 : ¬ ((d 3).toInt = (0)) := of_decide_eq_false h15
      refine ⟨tellA chkCL_u19, _, _, _, tellA_ok (by (repeat refine told_cons (by assumption) ?_); exact told_nil), chkCL_y19, dutiesTold_ok ?_⟩
      refine ⟨?_, trivial⟩
      show (2 : Int) = errI (d 0).toInt (d 1).toInt (d 2).toInt (d 3).toInt (d 4).toInt 0
      unfold errI saysP rangeP
      repeat' split
      all_goals omega
    have p15 : (d 3).toInt = (0) := of_decide_eq_true h15
    cases h16 : Q.val (OmD d) chkCL_q15
    · have p16 : ¬ ((d 4).toInt = (0)) := of_decide_eq_false h16
      refine ⟨tellA chkCL_u18, _, _, _, tellA_ok (by (repeat refine told_cons (by assumption) ?_); exact told_nil), chkCL_y18, dutiesTold_ok ?_⟩
      refine ⟨?_, trivial⟩
      show (2 : Int) = errI (d 0).toInt (d 1).toInt (d 2).toInt (d 3).toInt (d 4).toInt 0
      unfold errI saysP rangeP
      repeat' split
      all_goals omega
    have p16 : (d 4).toInt = (0) := of_decide_eq_true h16
    refine ⟨tellA chkCL_u17, _, _, _, tellA_ok (by (repeat refine told_cons (by assumption) ?_); exact told_nil), chkCL_y17, dutiesTold_ok ?_⟩
    refine ⟨?_, trivial⟩
    show (0 : Int) = errI (d 0).toInt (d 1).toInt (d 2).toInt (d 3).toInt (d 4).toInt 0
    unfold errI saysP rangeP
    repeat' split
    all_goals omega
  have p12 : ¬ ((d 0).toInt = (2)) := of_decide_eq_false h12
  cases h13 : Q.val (OmD d) chkCL_q18
  rotate_left
  · have p13 : (d 0).toInt = (3) := of_decide_eq_true h13
    cases h14 : Q.val (OmD d) chkCL_q12
    · have p14 : ¬ ((1) ≤ (d 1).toInt) := of_decide_eq_false h14
      refine ⟨tellA chkCL_u20, _, _, _, tellA_ok (by (repeat refine told_cons (by assumption) ?_); exact told_nil), chkCL_y20, dutiesTold_ok ?_⟩
      refine ⟨?_, trivial⟩
      show (2 : Int) = errI (d 0).toInt (d 1).toInt (d 2).toInt (d 3).toInt (d 4).toInt 0
      unfold errI saysP rangeP
      repeat' split
      all_goals omega
    have p14 : (1) ≤ (d 1).toInt := of_decide_eq_true h14
    cases h15 : Q.val (OmD d) chkCL_q17
    · have p15 : ¬ ((1) ≤ (d 2).toInt) := of_decide_eq_false h15
      refine ⟨tellA chkCL_u21, _, _, _, tellA_ok (by (repeat refine told_cons (by assumption) ?_); exact told_nil), chkCL_y21, dutiesTold_ok ?_⟩
      refine ⟨?_, trivial⟩
      show (2 : Int) = errI (d 0).toInt (d 1).toInt (d 2).toInt (d 3).toInt (d 4).toInt 0
      unfold errI saysP rangeP
      repeat' split
      all_goals omega
    have p15 : (1) ≤ (d 2).toInt := of_decide_eq_true h15
    cases h16 : Q.val (OmD d) chkCL_q19
    · have p16 : ¬ ((1) ≤ (d 3).toInt) := of_decide_eq_false h16
      refine ⟨tellA chkCL_u22, _, _, _, tellA_ok (by (repeat refine told_cons (by assumption) ?_); exact told_nil), chkCL_y22, dutiesTold_ok ?_⟩
      refine ⟨?_, trivial⟩
      show (2 : Int) = errI (d 0).toInt (d 1).toInt (d 2).toInt (d 3).toInt (d 4).toInt 0
      unfold errI saysP rangeP
      repeat' split
      all_goals omega
    have p16 : (1) ≤ (d 3).toInt := of_decide_eq_true h16
    refine ⟨tellA chkCL_u23, _, _, _, tellA_ok (by (repeat refine told_cons (by assumption) ?_); exact told_nil), chkCL_y23, dutiesTold_ok ?_⟩
    refine ⟨?_, trivial⟩
    show (0 : Int) = errI (d 0).toInt (d 1).toInt (d 2).toInt (d 3).toInt (d 4).toInt 0
    unfold errI saysP rangeP
    repeat' split
    all_goals omega
  have p13 : ¬ ((d 0).toInt = (3)) := of_decide_eq_false h13
  cases h14 : Q.val (OmD d) chkCL_q20
  · have p14 : ¬ ((d 0).toInt = (4)) := of_decide_eq_false h14
    have p15 : (d 0).toInt = (5) := by omega
    have h15 : Q.val (OmD d) chkCL_q21 = true := decide_eq_true p15
    cases h16 : Q.val (OmD d) chkCL_q12
    · have p16 : ¬ ((1) ≤ (d 1).toInt) := of_decide_eq_false h16
      refine ⟨tellA chkCL_u28, _, _, _, tellA_ok (by (repeat refine told_cons (by assumption) ?_); exact told_nil), chkCL_y28, dutiesTold_ok ?_⟩
      refine ⟨?_, trivial⟩
      show (2 : Int) = errI (d 0).toInt (d 1).toInt (d 2).toInt (d 3).toInt (d 4).toInt 0
      unfold errI saysP rangeP
      repeat' split
      all_goals omega
    have p16 : (1) ≤ (d 1).toInt := of_decide_eq_true h16
    cases h17 : Q.val (OmD d) chkCL_q14
    · have p17 : ¬ ((d 3).toInt = (0)) := of_decide_eq_false h17
      refine ⟨tellA chkCL_u31, _, _, _, tellA_ok (by (repeat refine told_cons (by assumption) ?_); exact told_nil), chkCL_y31, dutiesTold_ok ?_⟩
      refine ⟨?_, trivial⟩
      show (2 : Int) = errI (d 0).toInt (d 1).toInt (d 2).toInt (d 3).toInt (d 4).toInt 0
      unfold errI saysP rangeP
      repeat' split
      all_goals omega
    have p17 : (d 3).toInt = (0) := of_decide_eq_true h17
    cases h18 : Q.val (OmD d) chkCL_q15
    · have p18 : ¬ ((d 4).toInt = (0)) := of_decide_eq_false h18
      refine ⟨tellA chkCL_u30, _, _, _, tellA_ok (by (repeat refine told_cons (by assumption) ?_); exact told_nil), chkCL_y30, dutiesTold_ok ?_⟩
      refine ⟨?_, trivial⟩
      show (2 : Int) = errI (d 0).toInt (d 1).toInt (d 2).toInt (d 3).toInt (d 4).toInt 0
      unfold errI saysP rangeP
      repeat' split
      all_goals omega
    have p18 : (d 4).toInt = (0) := of_decide_eq_true h18
    refine ⟨tellA chkCL_u29, _, _, _, tellA_ok (by (repeat refine told_cons (by assumption) ?_); exact told_nil), chkCL_y29, dutiesTold_ok ?_⟩
    refine ⟨?_, trivial⟩
    show (0 : Int) = errI (d 0).toInt (d 1).toInt (d 2).toInt (d 3).toInt (d 4).toInt 0
    unfold errI saysP rangeP
    repeat' split
    all_goals omega
  have p14 : (d 0).toInt = (4) := of_decide_eq_true h14
  cases h15 : Q.val (OmD d) chkCL_q12
  · have p15 : ¬ ((1) ≤ (d 1).toInt) := of_decide_eq_false h15
    refine ⟨tellA chkCL_u24, _, _, _, tellA_ok (by (repeat refine told_cons (by assumption) ?_); exact told_nil), chkCL_y24, dutiesTold_ok ?_⟩
    refine ⟨?_, trivial⟩
    show (2 : Int) = errI (d 0).toInt (d 1).toInt (d 2).toInt (d 3).toInt (d 4).toInt 0
    unfold errI saysP rangeP
    repeat' split
    all_goals omega
  have p15 : (1) ≤ (d 1).toInt := of_decide_eq_true h15
  cases h16 : Q.val (OmD d) chkCL_q17
  · have p16 : ¬ ((1) ≤ (d 2).toInt) := of_decide_eq_false h16
    refine ⟨tellA chkCL_u25, _, _, _, tellA_ok (by (repeat refine told_cons (by assumption) ?_); exact told_nil), chkCL_y25, dutiesTold_ok ?_⟩
    refine ⟨?_, trivial⟩
    show (2 : Int) = errI (d 0).toInt (d 1).toInt (d 2).toInt (d 3).toInt (d 4).toInt 0
    unfold errI saysP rangeP
    repeat' split
    all_goals omega
  have p16 : (1) ≤ (d 2).toInt := of_decide_eq_true h16
  cases h17 : Q.val (OmD d) chkCL_q14
  · have p17 : ¬ ((d 3).toInt = (0)) := of_decide_eq_false h17
    refine ⟨tellA chkCL_u27, _, _, _, tellA_ok (by (repeat refine told_cons (by assumption) ?_); exact told_nil), chkCL_y27, dutiesTold_ok ?_⟩
    refine ⟨?_, trivial⟩
    show (2 : Int) = errI (d 0).toInt (d 1).toInt (d 2).toInt (d 3).toInt (d 4).toInt 0
    unfold errI saysP rangeP
    repeat' split
    all_goals omega
  have p17 : (d 3).toInt = (0) := of_decide_eq_true h17
  refine ⟨tellA chkCL_u26, _, _, _, tellA_ok (by (repeat refine told_cons (by assumption) ?_); exact told_nil), chkCL_y26, dutiesTold_ok ?_⟩
  refine ⟨?_, trivial⟩
  show (0 : Int) = errI (d 0).toInt (d 1).toInt (d 2).toInt (d 3).toInt (d 4).toInt 0
  unfold errI saysP rangeP
  repeat' split
  all_goals omega

def putYL : CSpec := { args := [.agg [.sint .i64 (.var 0), .sint .i64 (.var 1), .sint .i64 (.var 2), .sint .i64 (.var 3), .sint .i64 (.var 4), .slice 3 0 0 3 false]], next := 2, rows := [(3, .eseq ⟨.u8, .int 3, .lits [160, 161, 162]⟩), (0, .ext cellsG)], pre := [(.eq (.fn 11 (argsE [.var 0, .var 1, .var 2, .var 3, .var 4, .int 0])) (.int 0), true)], res := .tuple [.sslice 5 (.int 0) (.int 26) (.int 26) true, .int .i64 0], frows := [(5, .seq ⟨5, .u8, .int 26, (.fn 12 (argsE [.var 0, .var 1, .var 2, .var 3, .var 4, .lits [], .int 0, .int 0])), true, false⟩)], same := [] }
abbrev asF80 : Q × Bool := ((.eq (.fn 11 (.bi .pair (.var 0) (.bi .pair (.var 1) (.bi .pair (.var 2) (.bi .pair (.var 3) (.bi .pair (.var 4) (.bi .pair (.int 0) (.int 0)))))))) (.int 0)), true)
abbrev asF81 : Q × Bool := ((.le (.bi .add (.int 0) (.int 22)) (.int 22)), true)
def putYL_t0 : List (Q × Bool) := [asF80, asF81]
def putYL_d0 : List Duty := [(true, (.bi .add (.int 22) (.int 4)), (.int 26)), (true, (.bi .add (.int 22) (.int 4)), (.int 26)), (true, (.bi .add (.int 22) (.int 4)), (.int 26)), (false, (.fn 8 (.bi .pair (.bi .app (.un .one (.int 83)) (.bi .app (.un .one (.int 75)) (.bi .app (.un .one (.int 1)) (.bi .app (.un .one (.un (.wrap .u8) (.bi (.iop .shr .i64) (.var 0) (.int 0)))) (.bi .app (.un .one (.un (.wrap .u8) (.bi (.iop .shr .i64) (.var 1) (.int 24)))) (.bi .app (.un .one (.un (.wrap .u8) (.bi (.iop .shr .i64) (.var 1) (.int 16)))) (.bi .app (.un .one (.un (.wrap .u8) (.bi (.iop .shr .i64) (.var 1) (.int 8)))) (.bi .app (.un .one (.un (.wrap .u8) (.bi (.iop .shr .i64) (.var 1) (.int 0)))) (.bi .app (.un .one (.un (.wrap .u8) (.bi (.iop .shr .i64) (.var 2) (.int 24)))) (.bi .app (.un .one (.un (.wrap .u8) (.bi (.iop .shr .i64) (.var 2) (.int 16)))) (.bi .app (.un .one (.un (.wrap .u8) (.bi (.iop .shr .i64) (.var 2) (.int 8)))) (.bi .app (.un .one (.un (.wrap .u8) (.bi (.iop .shr .i64) (.var 2) (.int 0)))) (.bi .app (.un .one (.un (.wrap .u8) (.bi (.iop .shr .i64) (.var 3) (.int 24)))) (.bi .app (.un .one (.un (.wrap .u8) (.bi (.iop .shr .i64) (.var 3) (.int 16)))) (.bi .app (.un .one (.un (.wrap .u8) (.bi (.iop .shr .i64) (.var 3) (.int 8)))) (.bi .app (.un .one (.un (.wrap .u8) (.bi (.iop .shr .i64) (.var 3) (.int 0)))) (.bi .app (.un .one (.un (.wrap .u8) (.bi (.iop .shr .i64) (.var 4) (.int 24)))) (.bi .app (.un .one (.un (.wrap .u8) (.bi (.iop .shr .i64) (.var 4) (.int 16)))) (.bi .app (.un .one (.un (.wrap .u8) (.bi (.iop .shr .i64) (.var 4) (.int 8)))) (.bi .app (.un .one (.un (.wrap .u8) (.bi (.iop .shr .i64) (.var 4) (.int 0)))) (.lits [0, 0]))))))))))))))))))))) (.bi .pair (.int 0) (.bi .pair (.bi .add (.int 0) (.int 22)) (.int 0))))), (.fn 12 (.bi .pair (.var 0) (.bi .pair (.var 1) (.bi .pair (.var 2) (.bi .pair (.var 3) (.bi .pair (.var 4) (.bi .pair (.lits []) (.bi .pair (.int 0) (.bi .pair (.int 0) (.int 0)))))))))))]
theorem putYL_y0 : endC putYL [(5, 101)] 1000 (callC Tryd.prog (tellA putYL_t0) [] [(52, tableC), (50, moreC), (50, moreCO), (29, putC), (29, putCO), (14, chkCL)] [] 3000 40 11 putYL) = some putYL_d0 := by kernel_rfl
theorem putYL_holds : CHolds Tryd.prog 11 putYL F := by
  refine cholds_of sound (tableNil _ _) (specsCons tableC_holds (specsCons moreC_holds (specsCons moreCO_holds (specsCons putC_holds (specsCons putCO_holds (specsCons chkCL_holds (specsNil _ _))))))) (oversNil _ _) (fuel := 3000) (depth := 40) (by kernel_rfl) fun d hp hR hA => ?_
  have hp := allTold'_iff.2 hp
  simp only [putYL, allTold', dutiesTold, factsA, factsC, factsP, factsR, AV.facts, RW.facts, inK, and_true, Q.holds', E.i, E.s, E.n, D.nat, E.den, BO.den, UO.den, TO.den, D.toInt_int, D.toList_list, D.ints_ofInts, i64min, i64max, u8min, u8max, u16min, u16max, u32min, u32max, u64min, u64max, i32min, i32max, Om.sub, selI, ints_app, ints_cut, ints_upd, ints_rep, ints_splice, ints_seg, len_ints] at hp hR hA
  simp only [F11, argsE, allTold', dutiesTold, factsA, factsC, factsP, factsR, AV.facts, RW.facts, inK, and_true, Q.holds', E.i, E.s, E.n, D.nat, E.den, BO.den, UO.den, TO.den, D.toInt_int, D.toList_list, D.ints_ofInts, i64min, i64max, u8min, u8max, u16min, u16max, u32min, u32max, u64min, u64max, i32min, i32max, Om.sub, selI, ints_app, ints_cut, ints_upd, ints_rep, ints_splice, ints_seg, len_ints] at hp
  refine ⟨tellA putYL_t0, _, _, _, tellA_ok (allTold'_iff.1 ?_), putYL_y0, dutiesTold_ok ?_⟩
  · simp only [putYL_t0, F11, allTold', dutiesTold, factsA, factsC, factsP, factsR, AV.facts, RW.facts, inK, and_true, Q.holds', E.i, E.s, E.n, D.nat, E.den, BO.den, UO.den, TO.den, D.toInt_int, D.toList_list, D.ints_ofInts, i64min, i64max, u8min, u8max, u16min, u16max, u32min, u32max, u64min, u64max, i32min, i32max, Om.sub, selI, ints_app, ints_cut, ints_upd, ints_rep, ints_splice, ints_seg, len_ints]
    all_goals (and_intros <;> first | omega | trivial | exact hp)
  · simp only [putYL_d0, F8, F9, F12, ints_list, List.map_append, List.map_drop, List.map_take, List.map_cons, List.map_nil, map_ints, allTold', dutiesTold, factsA, factsC, factsP, factsR, AV.facts, RW.facts, inK, and_true, Q.holds', E.i, E.s, E.n, D.nat, E.den, BO.den, UO.den, TO.den, D.toInt_int, D.toList_list, D.ints_ofInts, i64min, i64max, u8min, u8max, u16min, u16max, u32min, u32max, u64min, u64max, i32min, i32max, Om.sub, selI, ints_app, ints_cut, ints_upd, ints_rep, ints_splice, ints_seg, len_ints]
    try simp only [prt_e]
    and_intros <;> try omega
    all_goals rw [prt_all (by simp)]
    all_goals try rw [prt_e]
    all_goals first
      | (rw [lay_nil]; simp only [fourI, byteI, shr_0, List.cons_append, List.nil_append]; done)
      | (refine Eq.trans (congrArg rputI (a₂ := layI (d 0).toInt (d 1).toInt (d 2).toInt (d 3).toInt (d 4).toInt []) ?_) (rput_put (lay_bytes (by simp)))
         rw [lay_nil]
         simp only [fourI, byteI, shr_0, List.cons_append, List.nil_append])

def putNL : CSpec := { args := [.agg [.sint .i64 (.var 0), .sint .i64 (.var 1), .sint .i64 (.var 2), .sint .i64 (.var 3), .sint .i64 (.var 4), .slice 3 0 0 3 false]], next := 2, rows := [(3, .eseq ⟨.u8, .int 3, .lits [160, 161, 162]⟩), (0, .ext cellsG)], pre := [(.eq (.fn 11 (argsE [.var 0, .var 1, .var 2, .var 3, .var 4, .int 0])) (.int 0), false)], res := .tuple [.nilslice, .sint .i64 (.fn 11 (argsE [.var 0, .var 1, .var 2, .var 3, .var 4, .int 0]))], frows := [], same := [] }
abbrev asF82 : Q × Bool := ((.eq (.fn 11 (.bi .pair (.var 0) (.bi .pair (.var 1) (.bi .pair (.var 2) (.bi .pair (.var 3) (.bi .pair (.var 4) (.bi .pair (.int 0) (.int 0)))))))) (.int 0)), false)
def putNL_t0 : List (Q × Bool) := [asF82]
def putNL_d0 : List Duty := []
theorem putNL_y0 : endC putNL [] 1000 (callC Tryd.prog (tellA putNL_t0) [] [(52, tableC), (50, moreC), (50, moreCO), (29, putC), (29, putCO), (14, chkCL)] [] 3000 40 11 putNL) = some putNL_d0 := by kernel_rfl
theorem putNL_holds : CHolds Tryd.prog 11 putNL F := by
  refine cholds_of sound (tableNil _ _) (specsCons tableC_holds (specsCons moreC_holds (specsCons moreCO_holds (specsCons putC_holds (specsCons putCO_holds (specsCons chkCL_holds (specsNil _ _))))))) (oversNil _ _) (fuel := 3000) (depth := 40) (by kernel_rfl) fun d hp hR hA => ?_
  have hp := allTold'_iff.2 hp
  simp only [putNL, allTold', dutiesTold, factsA, factsC, factsP, factsR, AV.facts, RW.facts, inK, and_true, Q.holds', E.i, E.s, E.n, D.nat, E.den, BO.den, UO.den, TO.den, D.toInt_int, D.toList_list, D.ints_ofInts, i64min, i64max, u8min, u8max, u16min, u16max, u32min, u32max, u64min, u64max, i32min, i32max, Om.sub, selI, ints_app, ints_cut, ints_upd, ints_rep, ints_splice, ints_seg, len_ints] at hp hR hA
  simp only [F11, argsE, allTold', dutiesTold, factsA, factsC, factsP, factsR, AV.facts, RW.facts, inK, and_true, Q.holds', E.i, E.s, E.n, D.nat, E.den, BO.den, UO.den, TO.den, D.toInt_int, D.toList_list, D.ints_ofInts, i64min, i64max, u8min, u8max, u16min, u16max, u32min, u32max, u64min, u64max, i32min, i32max, Om.sub, selI, ints_app, ints_cut, ints_upd, ints_rep, ints_splice, ints_seg, len_ints] at hp
  refine ⟨tellA putNL_t0, _, _, _, tellA_ok (allTold'_iff.1 ?_), putNL_y0, dutiesTold_ok ?_⟩
  · simp only [putNL_t0, F11, allTold', dutiesTold, factsA, factsC, factsP, factsR, AV.facts, RW.facts, inK, and_true, Q.holds', E.i, E.s, E.n, D.nat, E.den, BO.den, UO.den, TO.den, D.toInt_int, D.toList_list, D.ints_ofInts, i64min, i64max, u8min, u8max, u16min, u16max, u32min, u32max, u64min, u64max, i32min, i32max, Om.sub, selI, ints_app, ints_cut, ints_upd, ints_rep, ints_splice, ints_seg, len_ints]
    all_goals (and_intros <;> first | omega | trivial | exact hp)
  · simp only [putNL_d0, allTold', dutiesTold, factsA, factsC, factsP, factsR, AV.facts, RW.facts, inK, and_true, Q.holds', E.i, E.s, E.n, D.nat, E.den, BO.den, UO.den, TO.den, D.toInt_int, D.toList_list, D.ints_ofInts, i64min, i64max, u8min, u8max, u16min, u16max, u32min, u32max, u64min, u64max, i32min, i32max, Om.sub, selI, ints_app, ints_cut, ints_upd, ints_rep, ints_splice, ints_seg, len_ints]

end Go.Proofs.YtlmcjfcfmcdcpaaDoor.F8
