/-
  Contracts of this seat: what loops and calls leave, for all inputs. No condition.
-/
import Derived.Test.YtlmcjfcfmcdcpaaDoorSycp
import Derived.Test.YtlmcjfcfmcdcpaaDoorCo
import Derived.Test.YtlmcjfcfmcdcpaaDoorGa
set_option linter.unusedSimpArgs false
set_option linter.unusedVariables false
namespace Go.Proofs.YtlmcjfcfmcdcpaaDoor.F7
open Go.RowKit Go.Ev Go.Proofs.YtlmcjfcfmcdcpaaDoor.Co

open Go.Proofs.YtlmcjfcfmcdcpaaDoor.Ga

def rchkC : CSpec := { args := [.agg [.sint .i64 (.var 0), .sint .i64 (.var 1), .sint .i64 (.var 2), .sint .i64 (.var 3), .sint .i64 (.var 4), .sslice 3 (.var 5) (.var 6) (.var 7) false]], next := 2, rows := [(3, .eseq ⟨.u8, .var 8, .var 9⟩)], pre := [(.le (.int 0) (.var 6), true), (.le (.var 6) (.int 1000000), true)], res := .sint .i64 (.fn 11 (argsE [.var 0, .var 1, .var 2, .var 3, .var 4, .var 6])), frows := [], same := [] }
abbrev OmD (d : Nat → D) : Om := ⟨fun _ => .bool false, d, F⟩
abbrev rchkC_q0 : Q := (.le (.int 1) (.var 0))
abbrev rchkC_q1 : Q := (.le (.var 0) (.int 5))
abbrev rchkC_q2 : Q := (.le (.int 0) (.var 1))
abbrev rchkC_q3 : Q := (.le (.var 1) (.int 2147483647))
abbrev rchkC_q4 : Q := (.le (.int 0) (.var 2))
abbrev rchkC_q5 : Q := (.le (.var 2) (.int 2147483647))
abbrev rchkC_q6 : Q := (.le (.int 0) (.var 3))
abbrev rchkC_q7 : Q := (.le (.var 3) (.int 2147483647))
abbrev rchkC_q8 : Q := (.le (.int 0) (.var 4))
abbrev rchkC_q9 : Q := (.le (.var 4) (.int 2147483647))
abbrev rchkC_q10 : Q := (.fit .i64 (.var 6))
abbrev rchkC_q11 : Q := (.le (.var 6) (.int 1400))
abbrev rchkC_q12 : Q := (.eq (.var 3) (.int 0))
abbrev rchkC_q13 : Q := (.eq (.var 6) (.int 0))
abbrev rchkC_q14 : Q := (.eq (.var 0) (.int 1))
abbrev rchkC_q15 : Q := (.le (.var 1) (.int 0))
abbrev rchkC_q16 : Q := (.eq (.var 2) (.int 0))
abbrev rchkC_q17 : Q := (.eq (.var 4) (.int 0))
abbrev rchkC_q18 : Q := (.eq (.var 0) (.int 2))
abbrev rchkC_q19 : Q := (.le (.var 2) (.int 0))
abbrev rchkC_q20 : Q := (.eq (.var 0) (.int 3))
abbrev rchkC_q21 : Q := (.le (.var 3) (.int 0))
abbrev rchkC_q22 : Q := (.eq (.var 0) (.int 4))
abbrev rchkC_u0 : List (Q × Bool) := [(rchkC_q0, false)]
def rchkC_d0 : List Duty := [(true, (.int 213), (.fn 11 (.bi .pair (.var 0) (.bi .pair (.var 1) (.bi .pair (.var 2) (.bi .pair (.var 3) (.bi .pair (.var 4) (.bi .pair (.var 6) (.int 0)))))))))]
theorem rchkC_y0 : endC rchkC [] 1000 (callC Tryd.prog (tellA rchkC_u0) [] [] [] 3000 40 15 rchkC) = some rchkC_d0 := by kernel_rfl
abbrev rchkC_u1 : List (Q × Bool) := [(rchkC_q0, true), (rchkC_q1, false)]
theorem rchkC_y1 : endC rchkC [] 1000 (callC Tryd.prog (tellA rchkC_u1) [] [] [] 3000 40 15 rchkC) = some rchkC_d0 := by kernel_rfl
abbrev rchkC_u2 : List (Q × Bool) := [(rchkC_q0, true), (rchkC_q1, true), (rchkC_q2, false)]
def rchkC_d1 : List Duty := [(true, (.int 5), (.fn 11 (.bi .pair (.var 0) (.bi .pair (.var 1) (.bi .pair (.var 2) (.bi .pair (.var 3) (.bi .pair (.var 4) (.bi .pair (.var 6) (.int 0)))))))))]
theorem rchkC_y2 : endC rchkC [] 1000 (callC Tryd.prog (tellA rchkC_u2) [] [] [] 3000 40 15 rchkC) = some rchkC_d1 := by kernel_rfl
abbrev rchkC_u3 : List (Q × Bool) := [(rchkC_q0, true), (rchkC_q1, true), (rchkC_q2, true), (rchkC_q3, false)]
theorem rchkC_y3 : endC rchkC [] 1000 (callC Tryd.prog (tellA rchkC_u3) [] [] [] 3000 40 15 rchkC) = some rchkC_d1 := by kernel_rfl
abbrev rchkC_u4 : List (Q × Bool) := [(rchkC_q0, true), (rchkC_q1, true), (rchkC_q2, true), (rchkC_q3, true), (rchkC_q4, false)]
theorem rchkC_y4 : endC rchkC [] 1000 (callC Tryd.prog (tellA rchkC_u4) [] [] [] 3000 40 15 rchkC) = some rchkC_d1 := by kernel_rfl
abbrev rchkC_u5 : List (Q × Bool) := [(rchkC_q0, true), (rchkC_q1, true), (rchkC_q2, true), (rchkC_q3, true), (rchkC_q4, true), (rchkC_q5, false)]
theorem rchkC_y5 : endC rchkC [] 1000 (callC Tryd.prog (tellA rchkC_u5) [] [] [] 3000 40 15 rchkC) = some rchkC_d1 := by kernel_rfl
abbrev rchkC_u6 : List (Q × Bool) := [(rchkC_q0, true), (rchkC_q1, true), (rchkC_q2, true), (rchkC_q3, true), (rchkC_q4, true), (rchkC_q5, true), (rchkC_q6, false)]
theorem rchkC_y6 : endC rchkC [] 1000 (callC Tryd.prog (tellA rchkC_u6) [] [] [] 3000 40 15 rchkC) = some rchkC_d1 := by kernel_rfl
abbrev rchkC_u7 : List (Q × Bool) := [(rchkC_q0, true), (rchkC_q1, true), (rchkC_q2, true), (rchkC_q3, true), (rchkC_q4, true), (rchkC_q5, true), (rchkC_q6, true), (rchkC_q7, false)]
theorem rchkC_y7 : endC rchkC [] 1000 (callC Tryd.prog (tellA rchkC_u7) [] [] [] 3000 40 15 rchkC) = some rchkC_d1 := by kernel_rfl
abbrev rchkC_u8 : List (Q × Bool) := [(rchkC_q0, true), (rchkC_q1, true), (rchkC_q2, true), (rchkC_q3, true), (rchkC_q4, true), (rchkC_q5, true), (rchkC_q6, true), (rchkC_q7, true), (rchkC_q8, false)]
theorem rchkC_y8 : endC rchkC [] 1000 (callC Tryd.prog (tellA rchkC_u8) [] [] [] 3000 40 15 rchkC) = some rchkC_d1 := by kernel_rfl
abbrev rchkC_u9 : List (Q × Bool) := [(rchkC_q0, true), (rchkC_q1, true), (rchkC_q2, true), (rchkC_q3, true), (rchkC_q4, true), (rchkC_q5, true), (rchkC_q6, true), (rchkC_q7, true), (rchkC_q8, true), (rchkC_q9, false)]
theorem rchkC_y9 : endC rchkC [] 1000 (callC Tryd.prog (tellA rchkC_u9) [] [] [] 3000 40 15 rchkC) = some rchkC_d1 := by kernel_rfl
abbrev rchkC_u10 : List (Q × Bool) := [(rchkC_q0, true), (rchkC_q1, true), (rchkC_q2, true), (rchkC_q3, true), (rchkC_q4, true), (rchkC_q5, true), (rchkC_q6, true), (rchkC_q7, true), (rchkC_q8, true), (rchkC_q9, true), (rchkC_q10, true), (rchkC_q11, false)]
def rchkC_d2 : List Duty := [(true, (.int 3), (.fn 11 (.bi .pair (.var 0) (.bi .pair (.var 1) (.bi .pair (.var 2) (.bi .pair (.var 3) (.bi .pair (.var 4) (.bi .pair (.var 6) (.int 0)))))))))]
theorem rchkC_y10 : endC rchkC [] 1000 (callC Tryd.prog (tellA rchkC_u10) [] [] [] 3000 40 15 rchkC) = some rchkC_d2 := by kernel_rfl
abbrev rchkC_u11 : List (Q × Bool) := [(rchkC_q0, true), (rchkC_q1, true), (rchkC_q2, true), (rchkC_q3, true), (rchkC_q4, true), (rchkC_q5, true), (rchkC_q6, true), (rchkC_q7, true), (rchkC_q8, true), (rchkC_q9, true), (rchkC_q10, true), (rchkC_q11, true), (rchkC_q12, true), (rchkC_q13, true), (rchkC_q14, true), (rchkC_q15, true)]
def rchkC_d3 : List Duty := [(true, (.int 2), (.fn 11 (.bi .pair (.var 0) (.bi .pair (.var 1) (.bi .pair (.var 2) (.bi .pair (.var 3) (.bi .pair (.var 4) (.bi .pair (.var 6) (.int 0)))))))))]
theorem rchkC_y11 : endC rchkC [] 1000 (callC Tryd.prog (tellA rchkC_u11) [] [] [] 3000 40 15 rchkC) = some rchkC_d3 := by kernel_rfl
abbrev rchkC_u12 : List (Q × Bool) := [(rchkC_q0, true), (rchkC_q1, true), (rchkC_q2, true), (rchkC_q3, true), (rchkC_q4, true), (rchkC_q5, true), (rchkC_q6, true), (rchkC_q7, true), (rchkC_q8, true), (rchkC_q9, true), (rchkC_q10, true), (rchkC_q11, true), (rchkC_q12, true), (rchkC_q13, false), (rchkC_q14, true), (rchkC_q15, true)]
theorem rchkC_y12 : endC rchkC [] 1000 (callC Tryd.prog (tellA rchkC_u12) [] [] [] 3000 40 15 rchkC) = some rchkC_d3 := by kernel_rfl
abbrev rchkC_u13 : List (Q × Bool) := [(rchkC_q0, true), (rchkC_q1, true), (rchkC_q2, true), (rchkC_q3, true), (rchkC_q4, true), (rchkC_q5, true), (rchkC_q6, true), (rchkC_q7, true), (rchkC_q8, true), (rchkC_q9, true), (rchkC_q10, true), (rchkC_q11, true), (rchkC_q12, false), (rchkC_q14, true), (rchkC_q15, true)]
theorem rchkC_y13 : endC rchkC [] 1000 (callC Tryd.prog (tellA rchkC_u13) [] [] [] 3000 40 15 rchkC) = some rchkC_d3 := by kernel_rfl
abbrev rchkC_u14 : List (Q × Bool) := [(rchkC_q0, true), (rchkC_q1, true), (rchkC_q2, true), (rchkC_q3, true), (rchkC_q4, true), (rchkC_q5, true), (rchkC_q6, true), (rchkC_q7, true), (rchkC_q8, true), (rchkC_q9, true), (rchkC_q10, true), (rchkC_q11, true), (rchkC_q12, true), (rchkC_q13, true), (rchkC_q14, true), (rchkC_q15, false), (rchkC_q16, true), (rchkC_q17, true)]
def rchkC_d4 : List Duty := [(true, (.int 0), (.fn 11 (.bi .pair (.var 0) (.bi .pair (.var 1) (.bi .pair (.var 2) (.bi .pair (.var 3) (.bi .pair (.var 4) (.bi .pair (.var 6) (.int 0)))))))))]
theorem rchkC_y14 : endC rchkC [] 1000 (callC Tryd.prog (tellA rchkC_u14) [] [] [] 3000 40 15 rchkC) = some rchkC_d4 := by kernel_rfl
abbrev rchkC_u15 : List (Q × Bool) := [(rchkC_q0, true), (rchkC_q1, true), (rchkC_q2, true), (rchkC_q3, true), (rchkC_q4, true), (rchkC_q5, true), (rchkC_q6, true), (rchkC_q7, true), (rchkC_q8, true), (rchkC_q9, true), (rchkC_q10, true), (rchkC_q11, true), (rchkC_q12, true), (rchkC_q13, false), (rchkC_q14, true), (rchkC_q15, false), (rchkC_q16, true)]
theorem rchkC_y15 : endC rchkC [] 1000 (callC Tryd.prog (tellA rchkC_u15) [] [] [] 3000 40 15 rchkC) = some rchkC_d3 := by kernel_rfl
abbrev rchkC_u16 : List (Q × Bool) := [(rchkC_q0, true), (rchkC_q1, true), (rchkC_q2, true), (rchkC_q3, true), (rchkC_q4, true), (rchkC_q5, true), (rchkC_q6, true), (rchkC_q7, true), (rchkC_q8, true), (rchkC_q9, true), (rchkC_q10, true), (rchkC_q11, true), (rchkC_q12, true), (rchkC_q13, true), (rchkC_q14, true), (rchkC_q15, false), (rchkC_q16, true), (rchkC_q17, false)]
theorem rchkC_y16 : endC rchkC [] 1000 (callC Tryd.prog (tellA rchkC_u16) [] [] [] 3000 40 15 rchkC) = some rchkC_d3 := by kernel_rfl
abbrev rchkC_u17 : List (Q × Bool) := [(rchkC_q0, true), (rchkC_q1, true), (rchkC_q2, true), (rchkC_q3, true), (rchkC_q4, true), (rchkC_q5, true), (rchkC_q6, true), (rchkC_q7, true), (rchkC_q8, true), (rchkC_q9, true), (rchkC_q10, true), (rchkC_q11, true), (rchkC_q12, false), (rchkC_q14, true), (rchkC_q15, false), (rchkC_q16, true)]
theorem rchkC_y17 : endC rchkC [] 1000 (callC Tryd.prog (tellA rchkC_u17) [] [] [] 3000 40 15 rchkC) = some rchkC_d3 := by kernel_rfl
abbrev rchkC_u18 : List (Q × Bool) := [(rchkC_q0, true), (rchkC_q1, true), (rchkC_q2, true), (rchkC_q3, true), (rchkC_q4, true), (rchkC_q5, true), (rchkC_q6, true), (rchkC_q7, true), (rchkC_q8, true), (rchkC_q9, true), (rchkC_q10, true), (rchkC_q11, true), (rchkC_q12, true), (rchkC_q13, true), (rchkC_q14, true), (rchkC_q15, false), (rchkC_q16, false)]
theorem rchkC_y18 : endC rchkC [] 1000 (callC Tryd.prog (tellA rchkC_u18) [] [] [] 3000 40 15 rchkC) = some rchkC_d3 := by kernel_rfl
abbrev rchkC_u19 : List (Q × Bool) := [(rchkC_q0, true), (rchkC_q1, true), (rchkC_q2, true), (rchkC_q3, true), (rchkC_q4, true), (rchkC_q5, true), (rchkC_q6, true), (rchkC_q7, true), (rchkC_q8, true), (rchkC_q9, true), (rchkC_q10, true), (rchkC_q11, true), (rchkC_q12, true), (rchkC_q13, false), (rchkC_q14, true), (rchkC_q15, false), (rchkC_q16, false)]
theorem rchkC_y19 : endC rchkC [] 1000 (callC Tryd.prog (tellA rchkC_u19) [] [] [] 3000 40 15 rchkC) = some rchkC_d3 := by kernel_rfl
abbrev rchkC_u20 : List (Q × Bool) := [(rchkC_q0, true), (rchkC_q1, true), (rchkC_q2, true), (rchkC_q3, true), (rchkC_q4, true), (rchkC_q5, true), (rchkC_q6, true), (rchkC_q7, true), (rchkC_q8, true), (rchkC_q9, true), (rchkC_q10, true), (rchkC_q11, true), (rchkC_q12, false), (rchkC_q14, true), (rchkC_q15, false), (rchkC_q16, false)]
theorem rchkC_y20 : endC rchkC [] 1000 (callC Tryd.prog (tellA rchkC_u20) [] [] [] 3000 40 15 rchkC) = some rchkC_d3 := by kernel_rfl
abbrev rchkC_u21 : List (Q × Bool) := [(rchkC_q0, true), (rchkC_q1, true), (rchkC_q2, true), (rchkC_q3, true), (rchkC_q4, true), (rchkC_q5, true), (rchkC_q6, true), (rchkC_q7, true), (rchkC_q8, true), (rchkC_q9, true), (rchkC_q10, true), (rchkC_q11, true), (rchkC_q12, true), (rchkC_q13, true), (rchkC_q14, false), (rchkC_q18, true), (rchkC_q15, true)]
theorem rchkC_y21 : endC rchkC [] 1000 (callC Tryd.prog (tellA rchkC_u21) [] [] [] 3000 40 15 rchkC) = some rchkC_d3 := by kernel_rfl
abbrev rchkC_u22 : List (Q × Bool) := [(rchkC_q0, true), (rchkC_q1, true), (rchkC_q2, true), (rchkC_q3, true), (rchkC_q4, true), (rchkC_q5, true), (rchkC_q6, true), (rchkC_q7, true), (rchkC_q8, true), (rchkC_q9, true), (rchkC_q10, true), (rchkC_q11, true), (rchkC_q12, true), (rchkC_q13, false), (rchkC_q14, false), (rchkC_q18, true), (rchkC_q15, true)]
theorem rchkC_y22 : endC rchkC [] 1000 (callC Tryd.prog (tellA rchkC_u22) [] [] [] 3000 40 15 rchkC) = some rchkC_d3 := by kernel_rfl
abbrev rchkC_u23 : List (Q × Bool) := [(rchkC_q0, true), (rchkC_q1, true), (rchkC_q2, true), (rchkC_q3, true), (rchkC_q4, true), (rchkC_q5, true), (rchkC_q6, true), (rchkC_q7, true), (rchkC_q8, true), (rchkC_q9, true), (rchkC_q10, true), (rchkC_q11, true), (rchkC_q12, false), (rchkC_q14, false), (rchkC_q18, true), (rchkC_q15, true)]
theorem rchkC_y23 : endC rchkC [] 1000 (callC Tryd.prog (tellA rchkC_u23) [] [] [] 3000 40 15 rchkC) = some rchkC_d3 := by kernel_rfl
abbrev rchkC_u24 : List (Q × Bool) := [(rchkC_q0, true), (rchkC_q1, true), (rchkC_q2, true), (rchkC_q3, true), (rchkC_q4, true), (rchkC_q5, true), (rchkC_q6, true), (rchkC_q7, true), (rchkC_q8, true), (rchkC_q9, true), (rchkC_q10, true), (rchkC_q11, true), (rchkC_q12, true), (rchkC_q13, true), (rchkC_q14, false), (rchkC_q18, true), (rchkC_q15, false), (rchkC_q19, true)]
theorem rchkC_y24 : endC rchkC [] 1000 (callC Tryd.prog (tellA rchkC_u24) [] [] [] 3000 40 15 rchkC) = some rchkC_d3 := by kernel_rfl
abbrev rchkC_u25 : List (Q × Bool) := [(rchkC_q0, true), (rchkC_q1, true), (rchkC_q2, true), (rchkC_q3, true), (rchkC_q4, true), (rchkC_q5, true), (rchkC_q6, true), (rchkC_q7, true), (rchkC_q8, true), (rchkC_q9, true), (rchkC_q10, true), (rchkC_q11, true), (rchkC_q12, true), (rchkC_q13, false), (rchkC_q14, false), (rchkC_q18, true), (rchkC_q15, false), (rchkC_q19, true)]
theorem rchkC_y25 : endC rchkC [] 1000 (callC Tryd.prog (tellA rchkC_u25) [] [] [] 3000 40 15 rchkC) = some rchkC_d3 := by kernel_rfl
abbrev rchkC_u26 : List (Q × Bool) := [(rchkC_q0, true), (rchkC_q1, true), (rchkC_q2, true), (rchkC_q3, true), (rchkC_q4, true), (rchkC_q5, true), (rchkC_q6, true), (rchkC_q7, true), (rchkC_q8, true), (rchkC_q9, true), (rchkC_q10, true), (rchkC_q11, true), (rchkC_q12, false), (rchkC_q14, false), (rchkC_q18, true), (rchkC_q15, false), (rchkC_q19, true)]
theorem rchkC_y26 : endC rchkC [] 1000 (callC Tryd.prog (tellA rchkC_u26) [] [] [] 3000 40 15 rchkC) = some rchkC_d3 := by kernel_rfl
abbrev rchkC_u27 : List (Q × Bool) := [(rchkC_q0, true), (rchkC_q1, true), (rchkC_q2, true), (rchkC_q3, true), (rchkC_q4, true), (rchkC_q5, true), (rchkC_q6, true), (rchkC_q7, true), (rchkC_q8, true), (rchkC_q9, true), (rchkC_q10, true), (rchkC_q11, true), (rchkC_q12, true), (rchkC_q13, true), (rchkC_q14, false), (rchkC_q18, true), (rchkC_q15, false), (rchkC_q19, false), (rchkC_q17, true)]
theorem rchkC_y27 : endC rchkC [] 1000 (callC Tryd.prog (tellA rchkC_u27) [] [] [] 3000 40 15 rchkC) = some rchkC_d4 := by kernel_rfl
abbrev rchkC_u28 : List (Q × Bool) := [(rchkC_q0, true), (rchkC_q1, true), (rchkC_q2, true), (rchkC_q3, true), (rchkC_q4, true), (rchkC_q5, true), (rchkC_q6, true), (rchkC_q7, true), (rchkC_q8, true), (rchkC_q9, true), (rchkC_q10, true), (rchkC_q11, true), (rchkC_q12, true), (rchkC_q13, false), (rchkC_q14, false), (rchkC_q18, true), (rchkC_q15, false), (rchkC_q19, false)]
theorem rchkC_y28 : endC rchkC [] 1000 (callC Tryd.prog (tellA rchkC_u28) [] [] [] 3000 40 15 rchkC) = some rchkC_d3 := by kernel_rfl
abbrev rchkC_u29 : List (Q × Bool) := [(rchkC_q0, true), (rchkC_q1, true), (rchkC_q2, true), (rchkC_q3, true), (rchkC_q4, true), (rchkC_q5, true), (rchkC_q6, true), (rchkC_q7, true), (rchkC_q8, true), (rchkC_q9, true), (rchkC_q10, true), (rchkC_q11, true), (rchkC_q12, true), (rchkC_q13, true), (rchkC_q14, false), (rchkC_q18, true), (rchkC_q15, false), (rchkC_q19, false), (rchkC_q17, false)]
theorem rchkC_y29 : endC rchkC [] 1000 (callC Tryd.prog (tellA rchkC_u29) [] [] [] 3000 40 15 rchkC) = some rchkC_d3 := by kernel_rfl
abbrev rchkC_u30 : List (Q × Bool) := [(rchkC_q0, true), (rchkC_q1, true), (rchkC_q2, true), (rchkC_q3, true), (rchkC_q4, true), (rchkC_q5, true), (rchkC_q6, true), (rchkC_q7, true), (rchkC_q8, true), (rchkC_q9, true), (rchkC_q10, true), (rchkC_q11, true), (rchkC_q12, false), (rchkC_q14, false), (rchkC_q18, true), (rchkC_q15, false), (rchkC_q19, false)]
theorem rchkC_y30 : endC rchkC [] 1000 (callC Tryd.prog (tellA rchkC_u30) [] [] [] 3000 40 15 rchkC) = some rchkC_d3 := by kernel_rfl
abbrev rchkC_u31 : List (Q × Bool) := [(rchkC_q0, true), (rchkC_q1, true), (rchkC_q2, true), (rchkC_q3, true), (rchkC_q4, true), (rchkC_q5, true), (rchkC_q6, true), (rchkC_q7, true), (rchkC_q8, true), (rchkC_q9, true), (rchkC_q10, true), (rchkC_q11, true), (rchkC_q12, true), (rchkC_q13, true), (rchkC_q14, false), (rchkC_q18, false), (rchkC_q20, true), (rchkC_q15, true)]
theorem rchkC_y31 : endC rchkC [] 1000 (callC Tryd.prog (tellA rchkC_u31) [] [] [] 3000 40 15 rchkC) = some rchkC_d3 := by kernel_rfl
abbrev rchkC_u32 : List (Q × Bool) := [(rchkC_q0, true), (rchkC_q1, true), (rchkC_q2, true), (rchkC_q3, true), (rchkC_q4, true), (rchkC_q5, true), (rchkC_q6, true), (rchkC_q7, true), (rchkC_q8, true), (rchkC_q9, true), (rchkC_q10, true), (rchkC_q11, true), (rchkC_q12, true), (rchkC_q13, false), (rchkC_q14, false), (rchkC_q18, false), (rchkC_q20, true), (rchkC_q15, true)]
theorem rchkC_y32 : endC rchkC [] 1000 (callC Tryd.prog (tellA rchkC_u32) [] [] [] 3000 40 15 rchkC) = some rchkC_d3 := by kernel_rfl
abbrev rchkC_u33 : List (Q × Bool) := [(rchkC_q0, true), (rchkC_q1, true), (rchkC_q2, true), (rchkC_q3, true), (rchkC_q4, true), (rchkC_q5, true), (rchkC_q6, true), (rchkC_q7, true), (rchkC_q8, true), (rchkC_q9, true), (rchkC_q10, true), (rchkC_q11, true), (rchkC_q12, false), (rchkC_q14, false), (rchkC_q18, false), (rchkC_q20, true), (rchkC_q15, true)]
theorem rchkC_y33 : endC rchkC [] 1000 (callC Tryd.prog (tellA rchkC_u33) [] [] [] 3000 40 15 rchkC) = some rchkC_d3 := by kernel_rfl
abbrev rchkC_u34 : List (Q × Bool) := [(rchkC_q0, true), (rchkC_q1, true), (rchkC_q2, true), (rchkC_q3, true), (rchkC_q4, true), (rchkC_q5, true), (rchkC_q6, true), (rchkC_q7, true), (rchkC_q8, true), (rchkC_q9, true), (rchkC_q10, true), (rchkC_q11, true), (rchkC_q12, true), (rchkC_q13, true), (rchkC_q14, false), (rchkC_q18, false), (rchkC_q20, true), (rchkC_q15, false), (rchkC_q19, true)]
theorem rchkC_y34 : endC rchkC [] 1000 (callC Tryd.prog (tellA rchkC_u34) [] [] [] 3000 40 15 rchkC) = some rchkC_d3 := by kernel_rfl
abbrev rchkC_u35 : List (Q × Bool) := [(rchkC_q0, true), (rchkC_q1, true), (rchkC_q2, true), (rchkC_q3, true), (rchkC_q4, true), (rchkC_q5, true), (rchkC_q6, true), (rchkC_q7, true), (rchkC_q8, true), (rchkC_q9, true), (rchkC_q10, true), (rchkC_q11, true), (rchkC_q12, true), (rchkC_q13, false), (rchkC_q14, false), (rchkC_q18, false), (rchkC_q20, true), (rchkC_q15, false), (rchkC_q19, true)]
theorem rchkC_y35 : endC rchkC [] 1000 (callC Tryd.prog (tellA rchkC_u35) [] [] [] 3000 40 15 rchkC) = some rchkC_d3 := by kernel_rfl
abbrev rchkC_u36 : List (Q × Bool) := [(rchkC_q0, true), (rchkC_q1, true), (rchkC_q2, true), (rchkC_q3, true), (rchkC_q4, true), (rchkC_q5, true), (rchkC_q6, true), (rchkC_q7, true), (rchkC_q8, true), (rchkC_q9, true), (rchkC_q10, true), (rchkC_q11, true), (rchkC_q12, false), (rchkC_q14, false), (rchkC_q18, false), (rchkC_q20, true), (rchkC_q15, false), (rchkC_q19, true)]
theorem rchkC_y36 : endC rchkC [] 1000 (callC Tryd.prog (tellA rchkC_u36) [] [] [] 3000 40 15 rchkC) = some rchkC_d3 := by kernel_rfl
abbrev rchkC_u37 : List (Q × Bool) := [(rchkC_q0, true), (rchkC_q1, true), (rchkC_q2, true), (rchkC_q3, true), (rchkC_q4, true), (rchkC_q5, true), (rchkC_q6, true), (rchkC_q7, true), (rchkC_q8, true), (rchkC_q9, true), (rchkC_q10, true), (rchkC_q11, true), (rchkC_q12, true), (rchkC_q13, true), (rchkC_q14, false), (rchkC_q18, false), (rchkC_q20, true), (rchkC_q15, false), (rchkC_q19, false), (rchkC_q21, true)]
theorem rchkC_y37 : endC rchkC [] 1000 (callC Tryd.prog (tellA rchkC_u37) [] [] [] 3000 40 15 rchkC) = some rchkC_d3 := by kernel_rfl
abbrev rchkC_u38 : List (Q × Bool) := [(rchkC_q0, true), (rchkC_q1, true), (rchkC_q2, true), (rchkC_q3, true), (rchkC_q4, true), (rchkC_q5, true), (rchkC_q6, true), (rchkC_q7, true), (rchkC_q8, true), (rchkC_q9, true), (rchkC_q10, true), (rchkC_q11, true), (rchkC_q12, true), (rchkC_q13, false), (rchkC_q14, false), (rchkC_q18, false), (rchkC_q20, true), (rchkC_q15, false), (rchkC_q19, false), (rchkC_q21, true)]
theorem rchkC_y38 : endC rchkC [] 1000 (callC Tryd.prog (tellA rchkC_u38) [] [] [] 3000 40 15 rchkC) = some rchkC_d3 := by kernel_rfl
abbrev rchkC_u39 : List (Q × Bool) := [(rchkC_q0, true), (rchkC_q1, true), (rchkC_q2, true), (rchkC_q3, true), (rchkC_q4, true), (rchkC_q5, true), (rchkC_q6, true), (rchkC_q7, true), (rchkC_q8, true), (rchkC_q9, true), (rchkC_q10, true), (rchkC_q11, true), (rchkC_q12, false), (rchkC_q14, false), (rchkC_q18, false), (rchkC_q20, true), (rchkC_q15, false), (rchkC_q19, false), (rchkC_q21, false)]
theorem rchkC_y39 : endC rchkC [] 1000 (callC Tryd.prog (tellA rchkC_u39) [] [] [] 3000 40 15 rchkC) = some rchkC_d4 := by kernel_rfl
abbrev rchkC_u40 : List (Q × Bool) := [(rchkC_q0, true), (rchkC_q1, true), (rchkC_q2, true), (rchkC_q3, true), (rchkC_q4, true), (rchkC_q5, true), (rchkC_q6, true), (rchkC_q7, true), (rchkC_q8, true), (rchkC_q9, true), (rchkC_q10, true), (rchkC_q11, true), (rchkC_q12, true), (rchkC_q13, true), (rchkC_q14, false), (rchkC_q18, false), (rchkC_q20, false), (rchkC_q22, true), (rchkC_q15, true)]
theorem rchkC_y40 : endC rchkC [] 1000 (callC Tryd.prog (tellA rchkC_u40) [] [] [] 3000 40 15 rchkC) = some rchkC_d3 := by kernel_rfl
abbrev rchkC_u41 : List (Q × Bool) := [(rchkC_q0, true), (rchkC_q1, true), (rchkC_q2, true), (rchkC_q3, true), (rchkC_q4, true), (rchkC_q5, true), (rchkC_q6, true), (rchkC_q7, true), (rchkC_q8, true), (rchkC_q9, true), (rchkC_q10, true), (rchkC_q11, true), (rchkC_q12, true), (rchkC_q13, false), (rchkC_q14, false), (rchkC_q18, false), (rchkC_q20, false), (rchkC_q22, true), (rchkC_q15, true)]
theorem rchkC_y41 : endC rchkC [] 1000 (callC Tryd.prog (tellA rchkC_u41) [] [] [] 3000 40 15 rchkC) = some rchkC_d3 := by kernel_rfl
abbrev rchkC_u42 : List (Q × Bool) := [(rchkC_q0, true), (rchkC_q1, true), (rchkC_q2, true), (rchkC_q3, true), (rchkC_q4, true), (rchkC_q5, true), (rchkC_q6, true), (rchkC_q7, true), (rchkC_q8, true), (rchkC_q9, true), (rchkC_q10, true), (rchkC_q11, true), (rchkC_q12, false), (rchkC_q14, false), (rchkC_q18, false), (rchkC_q20, false), (rchkC_q22, true), (rchkC_q15, true)]
theorem rchkC_y42 : endC rchkC [] 1000 (callC Tryd.prog (tellA rchkC_u42) [] [] [] 3000 40 15 rchkC) = some rchkC_d3 := by kernel_rfl
abbrev rchkC_u43 : List (Q × Bool) := [(rchkC_q0, true), (rchkC_q1, true), (rchkC_q2, true), (rchkC_q3, true), (rchkC_q4, true), (rchkC_q5, true), (rchkC_q6, true), (rchkC_q7, true), (rchkC_q8, true), (rchkC_q9, true), (rchkC_q10, true), (rchkC_q11, true), (rchkC_q12, true), (rchkC_q13, true), (rchkC_q14, false), (rchkC_q18, false), (rchkC_q20, false), (rchkC_q22, true), (rchkC_q15, false), (rchkC_q19, true)]
theorem rchkC_y43 : endC rchkC [] 1000 (callC Tryd.prog (tellA rchkC_u43) [] [] [] 3000 40 15 rchkC) = some rchkC_d3 := by kernel_rfl
abbrev rchkC_u44 : List (Q × Bool) := [(rchkC_q0, true), (rchkC_q1, true), (rchkC_q2, true), (rchkC_q3, true), (rchkC_q4, true), (rchkC_q5, true), (rchkC_q6, true), (rchkC_q7, true), (rchkC_q8, true), (rchkC_q9, true), (rchkC_q10, true), (rchkC_q11, true), (rchkC_q12, true), (rchkC_q13, false), (rchkC_q14, false), (rchkC_q18, false), (rchkC_q20, false), (rchkC_q22, true), (rchkC_q15, false), (rchkC_q19, true)]
theorem rchkC_y44 : endC rchkC [] 1000 (callC Tryd.prog (tellA rchkC_u44) [] [] [] 3000 40 15 rchkC) = some rchkC_d3 := by kernel_rfl
abbrev rchkC_u45 : List (Q × Bool) := [(rchkC_q0, true), (rchkC_q1, true), (rchkC_q2, true), (rchkC_q3, true), (rchkC_q4, true), (rchkC_q5, true), (rchkC_q6, true), (rchkC_q7, true), (rchkC_q8, true), (rchkC_q9, true), (rchkC_q10, true), (rchkC_q11, true), (rchkC_q12, false), (rchkC_q14, false), (rchkC_q18, false), (rchkC_q20, false), (rchkC_q22, true), (rchkC_q15, false), (rchkC_q19, true)]
theorem rchkC_y45 : endC rchkC [] 1000 (callC Tryd.prog (tellA rchkC_u45) [] [] [] 3000 40 15 rchkC) = some rchkC_d3 := by kernel_rfl
abbrev rchkC_u46 : List (Q × Bool) := [(rchkC_q0, true), (rchkC_q1, true), (rchkC_q2, true), (rchkC_q3, true), (rchkC_q4, true), (rchkC_q5, true), (rchkC_q6, true), (rchkC_q7, true), (rchkC_q8, true), (rchkC_q9, true), (rchkC_q10, true), (rchkC_q11, true), (rchkC_q12, true), (rchkC_q13, true), (rchkC_q14, false), (rchkC_q18, false), (rchkC_q20, false), (rchkC_q22, true), (rchkC_q15, false), (rchkC_q19, false)]
theorem rchkC_y46 : endC rchkC [] 1000 (callC Tryd.prog (tellA rchkC_u46) [] [] [] 3000 40 15 rchkC) = some rchkC_d4 := by kernel_rfl
abbrev rchkC_u47 : List (Q × Bool) := [(rchkC_q0, true), (rchkC_q1, true), (rchkC_q2, true), (rchkC_q3, true), (rchkC_q4, true), (rchkC_q5, true), (rchkC_q6, true), (rchkC_q7, true), (rchkC_q8, true), (rchkC_q9, true), (rchkC_q10, true), (rchkC_q11, true), (rchkC_q12, true), (rchkC_q13, false), (rchkC_q14, false), (rchkC_q18, false), (rchkC_q20, false), (rchkC_q22, true), (rchkC_q15, false), (rchkC_q19, false)]
theorem rchkC_y47 : endC rchkC [] 1000 (callC Tryd.prog (tellA rchkC_u47) [] [] [] 3000 40 15 rchkC) = some rchkC_d3 := by kernel_rfl
abbrev rchkC_u48 : List (Q × Bool) := [(rchkC_q0, true), (rchkC_q1, true), (rchkC_q2, true), (rchkC_q3, true), (rchkC_q4, true), (rchkC_q5, true), (rchkC_q6, true), (rchkC_q7, true), (rchkC_q8, true), (rchkC_q9, true), (rchkC_q10, true), (rchkC_q11, true), (rchkC_q12, false), (rchkC_q14, false), (rchkC_q18, false), (rchkC_q20, false), (rchkC_q22, true), (rchkC_q15, false), (rchkC_q19, false)]
theorem rchkC_y48 : endC rchkC [] 1000 (callC Tryd.prog (tellA rchkC_u48) [] [] [] 3000 40 15 rchkC) = some rchkC_d3 := by kernel_rfl
abbrev rchkC_u49 : List (Q × Bool) := [(rchkC_q0, true), (rchkC_q1, true), (rchkC_q2, true), (rchkC_q3, true), (rchkC_q4, true), (rchkC_q5, true), (rchkC_q6, true), (rchkC_q7, true), (rchkC_q8, true), (rchkC_q9, true), (rchkC_q10, true), (rchkC_q11, true), (rchkC_q12, true), (rchkC_q13, true), (rchkC_q14, false), (rchkC_q18, false), (rchkC_q20, false), (rchkC_q22, false), (rchkC_q15, true)]
theorem rchkC_y49 : endC rchkC [] 1000 (callC Tryd.prog (tellA rchkC_u49) [] [] [] 3000 40 15 rchkC) = some rchkC_d3 := by kernel_rfl
abbrev rchkC_u50 : List (Q × Bool) := [(rchkC_q0, true), (rchkC_q1, true), (rchkC_q2, true), (rchkC_q3, true), (rchkC_q4, true), (rchkC_q5, true), (rchkC_q6, true), (rchkC_q7, true), (rchkC_q8, true), (rchkC_q9, true), (rchkC_q10, true), (rchkC_q11, true), (rchkC_q12, true), (rchkC_q13, false), (rchkC_q14, false), (rchkC_q18, false), (rchkC_q20, false), (rchkC_q22, false), (rchkC_q15, true)]
theorem rchkC_y50 : endC rchkC [] 1000 (callC Tryd.prog (tellA rchkC_u50) [] [] [] 3000 40 15 rchkC) = some rchkC_d3 := by kernel_rfl
abbrev rchkC_u51 : List (Q × Bool) := [(rchkC_q0, true), (rchkC_q1, true), (rchkC_q2, true), (rchkC_q3, true), (rchkC_q4, true), (rchkC_q5, true), (rchkC_q6, true), (rchkC_q7, true), (rchkC_q8, true), (rchkC_q9, true), (rchkC_q10, true), (rchkC_q11, true), (rchkC_q12, false), (rchkC_q14, false), (rchkC_q18, false), (rchkC_q20, false), (rchkC_q22, false), (rchkC_q15, true)]
theorem rchkC_y51 : endC rchkC [] 1000 (callC Tryd.prog (tellA rchkC_u51) [] [] [] 3000 40 15 rchkC) = some rchkC_d3 := by kernel_rfl
abbrev rchkC_u52 : List (Q × Bool) := [(rchkC_q0, true), (rchkC_q1, true), (rchkC_q2, true), (rchkC_q3, true), (rchkC_q4, true), (rchkC_q5, true), (rchkC_q6, true), (rchkC_q7, true), (rchkC_q8, true), (rchkC_q9, true), (rchkC_q10, true), (rchkC_q11, true), (rchkC_q12, true), (rchkC_q13, true), (rchkC_q14, false), (rchkC_q18, false), (rchkC_q20, false), (rchkC_q22, false), (rchkC_q15, false), (rchkC_q17, true)]
theorem rchkC_y52 : endC rchkC [] 1000 (callC Tryd.prog (tellA rchkC_u52) [] [] [] 3000 40 15 rchkC) = some rchkC_d4 := by kernel_rfl
abbrev rchkC_u53 : List (Q × Bool) := [(rchkC_q0, true), (rchkC_q1, true), (rchkC_q2, true), (rchkC_q3, true), (rchkC_q4, true), (rchkC_q5, true), (rchkC_q6, true), (rchkC_q7, true), (rchkC_q8, true), (rchkC_q9, true), (rchkC_q10, true), (rchkC_q11, true), (rchkC_q12, true), (rchkC_q13, false), (rchkC_q14, false), (rchkC_q18, false), (rchkC_q20, false), (rchkC_q22, false), (rchkC_q15, false)]
theorem rchkC_y53 : endC rchkC [] 1000 (callC Tryd.prog (tellA rchkC_u53) [] [] [] 3000 40 15 rchkC) = some rchkC_d3 := by kernel_rfl
abbrev rchkC_u54 : List (Q × Bool) := [(rchkC_q0, true), (rchkC_q1, true), (rchkC_q2, true), (rchkC_q3, true), (rchkC_q4, true), (rchkC_q5, true), (rchkC_q6, true), (rchkC_q7, true), (rchkC_q8, true), (rchkC_q9, true), (rchkC_q10, true), (rchkC_q11, true), (rchkC_q12, true), (rchkC_q13, true), (rchkC_q14, false), (rchkC_q18, false), (rchkC_q20, false), (rchkC_q22, false), (rchkC_q15, false), (rchkC_q17, false)]
theorem rchkC_y54 : endC rchkC [] 1000 (callC Tryd.prog (tellA rchkC_u54) [] [] [] 3000 40 15 rchkC) = some rchkC_d3 := by kernel_rfl
abbrev rchkC_u55 : List (Q × Bool) := [(rchkC_q0, true), (rchkC_q1, true), (rchkC_q2, true), (rchkC_q3, true), (rchkC_q4, true), (rchkC_q5, true), (rchkC_q6, true), (rchkC_q7, true), (rchkC_q8, true), (rchkC_q9, true), (rchkC_q10, true), (rchkC_q11, true), (rchkC_q12, false), (rchkC_q14, false), (rchkC_q18, false), (rchkC_q20, false), (rchkC_q22, false), (rchkC_q15, false)]
theorem rchkC_y55 : endC rchkC [] 1000 (callC Tryd.prog (tellA rchkC_u55) [] [] [] 3000 40 15 rchkC) = some rchkC_d3 := by kernel_rfl
set_option maxHeartbeats 8000000 in
theorem rchkC_holds : CHolds Tryd.prog 15 rchkC F := by
  refine cholds_of sound (tableNil _ _) (specsNil _ _) (oversNil _ _) (fuel := 3000) (depth := 40) (by kernel_rfl) fun d hp hR hA => ?_
  have hp := allTold'_iff.2 hp
  simp only [rchkC, allTold', dutiesTold, factsA, factsC, factsP, factsR, AV.facts, RW.facts, inK, and_true, Q.holds', E.i, E.s, E.n, D.nat, E.den, BO.den, UO.den, TO.den, D.toInt_int, D.toList_list, D.ints_ofInts, i64min, i64max, u8min, u8max, u16min, u16max, u32min, u32max, u64min, u64max, i32min, i32max, Om.sub, selI, ints_app, ints_cut, ints_upd, ints_rep, ints_splice, ints_seg, len_ints] at hp hR hA
  cases h0 : Q.val (OmD d) rchkC_q0
  · have p0 : ¬ ((1) ≤ (d 0).toInt) := of_decide_eq_false h0
    refine ⟨tellA rchkC_u0, _, _, _, tellA_ok (told_cons h0 told_nil), rchkC_y0, dutiesTold_ok ?_⟩
    refine ⟨?_, trivial⟩
    show (213 : Int) = errI (d 0).toInt (d 1).toInt (d 2).toInt (d 3).toInt (d 4).toInt (d 6).toInt
    unfold errI saysP rangeP
    repeat' split
    all_goals omega
  have p0 : (1) ≤ (d 0).toInt := of_decide_eq_true h0
  cases h1 : Q.val (OmD d) rchkC_q1
  · have p1 : ¬ ((d 0).toInt ≤ (5)) := of_decide_eq_false h1
    refine ⟨tellA rchkC_u1, _, _, _, tellA_ok (told_cons h0 (told_cons h1 told_nil)), rchkC_y1, dutiesTold_ok ?_⟩
    refine ⟨?_, trivial⟩
    show (213 : Int) = errI (d 0).toInt (d 1).toInt (d 2).toInt (d 3).toInt (d 4).toInt (d 6).toInt
    unfold errI saysP rangeP
    repeat' split
    all_goals omega
  have p1 : (d 0).toInt ≤ (5) := of_decide_eq_true h1
  cases h2 : Q.val (OmD d) rchkC_q2
  · have p2 : ¬ ((0) ≤ (d 1).toInt) := of_decide_eq_false h2
    refine ⟨tellA rchkC_u2, _, _, _, tellA_ok (told_cons h0 (told_cons h1 (told_cons h2 told_nil))), rchkC_y2, dutiesTold_ok ?_⟩
    refine ⟨?_, trivial⟩
    show (5 : Int) = errI (d 0).toInt (d 1).toInt (d 2).toInt (d 3).toInt (d 4).toInt (d 6).toInt
    unfold errI saysP rangeP
    repeat' split
    all_goals omega
  have p2 : (0) ≤ (d 1).toInt := of_decide_eq_true h2
  cases h3 : Q.val (OmD d) rchkC_q3
  · have p3 : ¬ ((d 1).toInt ≤ (2147483647)) := of_decide_eq_false h3
    refine ⟨tellA rchkC_u3, _, _, _, tellA_ok (by (repeat refine told_cons (by assumption) ?_); exact told_nil), rchkC_y3, dutiesTold_ok ?_⟩
    refine ⟨?_, trivial⟩
    show (5 : Int) = errI (d 0).toInt (d 1).toInt (d 2).toInt (d 3).toInt (d 4).toInt (d 6).toInt
    unfold errI saysP rangeP
    repeat' split
    all_goals omega
  have p3 : (d 1).toInt ≤ (2147483647) := of_decide_eq_true h3
  cases h4 : Q.val (OmD d) rchkC_q4
  · have p4 : ¬ ((0) ≤ (d 2).toInt) := of_decide_eq_false h4
    refine ⟨tellA rchkC_u4, _, _, _, tellA_ok (by (repeat refine told_cons (by assumption) ?_); exact told_nil), rchkC_y4, dutiesTold_ok ?_⟩
    refine ⟨?_, trivial⟩
    show (5 : Int) = errI (d 0).toInt (d 1).toInt (d 2).toInt (d 3).toInt (d 4).toInt (d 6).toInt
    unfold errI saysP rangeP
    repeat' split
    all_goals omega
  have p4 : (0) ≤ (d 2).toInt := of_decide_eq_true h4
  cases h5 : Q.val (OmD d) rchkC_q5
  · have p5 : ¬ ((d 2).toInt ≤ (2147483647)) := of_decide_eq_false h5
    refine ⟨tellA rchkC_u5, _, _, _, tellA_ok (by (repeat refine told_cons (by assumption) ?_); exact told_nil), rchkC_y5, dutiesTold_ok ?_⟩
    refine ⟨?_, trivial⟩
    show (5 : Int) = errI (d 0).toInt (d 1).toInt (d 2).toInt (d 3).toInt (d 4).toInt (d 6).toInt
    unfold errI saysP rangeP
    repeat' split
    all_goals omega
  have p5 : (d 2).toInt ≤ (2147483647) := of_decide_eq_true h5
  cases h6 : Q.val (OmD d) rchkC_q6
  · have p6 : ¬ ((0) ≤ (d 3).toInt) := of_decide_eq_false h6
    refine ⟨tellA rchkC_u6, _, _, _, tellA_ok (by (repeat refine told_cons (by assumption) ?_); exact told_nil), rchkC_y6, dutiesTold_ok ?_⟩
    refine ⟨?_, trivial⟩
    show (5 : Int) = errI (d 0).toInt (d 1).toInt (d 2).toInt (d 3).toInt (d 4).toInt (d 6).toInt
    unfold errI saysP rangeP
    repeat' split
    all_goals omega
  have p6 : (0) ≤ (d 3).toInt := of_decide_eq_true h6
  cases h7 : Q.val (OmD d) rchkC_q7
  · have p7 : ¬ ((d 3).toInt ≤ (2147483647)) := of_decide_eq_false h7
    refine ⟨tellA rchkC_u7, _, _, _, tellA_ok (by (repeat refine told_cons (by assumption) ?_); exact told_nil), rchkC_y7, dutiesTold_ok ?_⟩
    refine ⟨?_, trivial⟩
    show (5 : Int) = errI (d 0).toInt (d 1).toInt (d 2).toInt (d 3).toInt (d 4).toInt (d 6).toInt
    unfold errI saysP rangeP
    repeat' split
    all_goals omega
  have p7 : (d 3).toInt ≤ (2147483647) := of_decide_eq_true h7
  cases h8 : Q.val (OmD d) rchkC_q8
  · have p8 : ¬ ((0) ≤ (d 4).toInt) := of_decide_eq_false h8
    refine ⟨tellA rchkC_u8, _, _, _, tellA_ok (by (repeat refine told_cons (by assumption) ?_); exact told_nil), rchkC_y8, dutiesTold_ok ?_⟩
    refine ⟨?_, trivial⟩
    show (5 : Int) = errI (d 0).toInt (d 1).toInt (d 2).toInt (d 3).toInt (d 4).toInt (d 6).toInt
    unfold errI saysP rangeP
    repeat' split
    all_goals omega
  have p8 : (0) ≤ (d 4).toInt := of_decide_eq_true h8
  cases h9 : Q.val (OmD d) rchkC_q9
  · have p9 : ¬ ((d 4).toInt ≤ (2147483647)) := of_decide_eq_false h9
    refine ⟨tellA rchkC_u9, _, _, _, tellA_ok (by (repeat refine told_cons (by assumption) ?_); exact told_nil), rchkC_y9, dutiesTold_ok ?_⟩
    refine ⟨?_, trivial⟩
    show (5 : Int) = errI (d 0).toInt (d 1).toInt (d 2).toInt (d 3).toInt (d 4).toInt (d 6).toInt
    unfold errI saysP rangeP
    repeat' split
    all_goals omega
  have p9 : (d 4).toInt ≤ (2147483647) := of_decide_eq_true h9
  have p10 : -9223372036854775808 ≤ (d 6).toInt ∧ (d 6).toInt ≤ 9223372036854775807 := by omega
  have h10 : Q.val (OmD d) rchkC_q10 = true := decide_eq_true p10
  cases h11 : Q.val (OmD d) rchkC_q11
  · have p11 : ¬ ((d 6).toInt ≤ (1400)) := of_decide_eq_false h11
    refine ⟨tellA rchkC_u10, _, _, _, tellA_ok (by (repeat refine told_cons (by assumption) ?_); exact told_nil), rchkC_y10, dutiesTold_ok ?_⟩
    refine ⟨?_, trivial⟩
    show (3 : Int) = errI (d 0).toInt (d 1).toInt (d 2).toInt (d 3).toInt (d 4).toInt (d 6).toInt
    unfold errI saysP rangeP
    repeat' split
    all_goals omega
  have p11 : (d 6).toInt ≤ (1400) := of_decide_eq_true h11
  cases h12 : Q.val (OmD d) rchkC_q12
  · have p12 : ¬ ((d 3).toInt = (0)) := of_decide_eq_false h12
    cases h13 : Q.val (OmD d) rchkC_q14
    rotate_left
    · have p13 : (d 0).toInt = (1) := of_decide_eq_true h13
      cases h14 : Q.val (OmD d) rchkC_q15
      rotate_left
      · have p14 : (d 1).toInt ≤ (0) := of_decide_eq_true h14
        refine ⟨tellA rchkC_u13, _, _, _, tellA_ok (by (repeat refine told_cons (by assumption) ?_); exact told_nil), rchkC_y13, dutiesTold_ok ?_⟩
        refine ⟨?_, trivial⟩
        show (2 : Int) = errI (d 0).toInt (d 1).toInt (d 2).toInt (d 3).toInt (d 4).toInt (d 6).toInt
        unfold errI saysP rangeP
        repeat' split
        all_goals omega
      have p14 : ¬ ((d 1).toInt ≤ (0)) := of_decide_eq_false h14
      cases h15 : Q.val (OmD d) rchkC_q16
      · have p15 : ¬ ((d 2).toInt = (0)) := of_decide_eq_false h15
        refine ⟨tellA rchkC_u20, _, _, _, tellA_ok (by (repeat refine told_cons (by assumption) ?_); exact told_nil), rchkC_y20, dutiesTold_ok ?_⟩
        refine ⟨?_, trivial⟩
        show (2 : Int) = errI (d 0).toInt (d 1).toInt (d 2).toInt (d 3).toInt (d 4).toInt (d 6).toInt
        unfold errI saysP rangeP
        repeat' split
        all_goals omega
      have p15 : (d 2).toInt = (0) := of_decide_eq_true h15
      refine ⟨tellA rchkC_u17, _, _, _, tellA_ok (by (repeat refine told_cons (by assumption) ?_); exact told_nil), rchkC_y17, dutiesTold_ok ?_⟩
      refine ⟨?_, trivial⟩
      show (2 : Int) = errI (d 0).toInt (d 1).toInt (d 2).toInt (d 3).toInt (d 4).toInt (d 6).toInt
      unfold errI saysP rangeP
      repeat' split
      all_goals omega
    have p13 : ¬ ((d 0).toInt = (1)) := of_decide_eq_false h13
    cases h14 : Q.val (OmD d) rchkC_q18
    rotate_left
    · have p14 : (d 0).toInt = (2) := of_decide_eq_true h14
      cases h15 : Q.val (OmD d) rchkC_q15
      rotate_left
      · have p15 : (d 1).toInt ≤ (0) := of_decide_eq_true h15
        refine ⟨tellA rchkC_u23, _, _, _, tellA_ok (by (repeat refine told_cons (by assumption) ?_); exact told_nil), rchkC_y23, dutiesTold_ok ?_⟩
        refine ⟨?_, trivial⟩
        show (2 : Int) = errI (d 0).toInt (d 1).toInt (d 2).toInt (d 3).toInt (d 4).toInt (d 6).toInt
        unfold errI saysP rangeP
        repeat' split
        all_goals omega
      have p15 : ¬ ((d 1).toInt ≤ (0)) := of_decide_eq_false h15
      cases h16 : Q.val (OmD d) rchkC_q19
      · have p16 : ¬ ((d 2).toInt ≤ (0)) := of_decide_eq_false h16
        refine ⟨tellA rchkC_u30, _, _, _, tellA_ok (by (repeat refine told_cons (by assumption) ?_); exact told_nil), rchkC_y30, dutiesTold_ok ?_⟩
        refine ⟨?_, trivial⟩
        show (2 : Int) = errI (d 0).toInt (d 1).toInt (d 2).toInt (d 3).toInt (d 4).toInt (d 6).toInt
        unfold errI saysP rangeP
        repeat' split
        all_goals omega
      have p16 : (d 2).toInt ≤ (0) := of_decide_eq_true h16
      refine ⟨tellA rchkC_u26, _, _, _, tellA_ok (by (repeat refine told_cons (by assumption) ?_); exact told_nil), rchkC_y26, dutiesTold_ok ?_⟩
      refine ⟨?_, trivial⟩
      show (2 : Int) = errI (d 0).toInt (d 1).toInt (d 2).toInt (d 3).toInt (d 4).toInt (d 6).toInt
      unfold errI saysP rangeP
      repeat' split
      all_goals omega
    have p14 : ¬ ((d 0).toInt = (2)) := of_decide_eq_false h14
    cases h15 : Q.val (OmD d) rchkC_q20
    rotate_left
    · have p15 : (d 0).toInt = (3) := of_decide_eq_true h15
      cases h16 : Q.val (OmD d) rchkC_q15
      rotate_left
      · have p16 : (d 1).toInt ≤ (0) := of_decide_eq_true h16
        refine ⟨tellA rchkC_u33, _, _, _, tellA_ok (by (repeat refine told_cons (by assumption) ?_); exact told_nil), rchkC_y33, dutiesTold_ok ?_⟩
        refine ⟨?_, trivial⟩
        show (2 : Int) = errI (d 0).toInt (d 1).toInt (d 2).toInt (d 3).toInt (d 4).toInt (d 6).toInt
        unfold errI saysP rangeP
        repeat' split
        all_goals omega
      have p16 : ¬ ((d 1).toInt ≤ (0)) := of_decide_eq_false h16
      cases h17 : Q.val (OmD d) rchkC_q19
      · have p17 : ¬ ((d 2).toInt ≤ (0)) := of_decide_eq_false h17
        have p18 : ¬ ((d 3).toInt ≤ (0)) := by omega
        have h18 : Q.val (OmD d) rchkC_q21 = false := decide_eq_false p18
        refine ⟨tellA rchkC_u39, _, _, _, tellA_ok (by (repeat refine told_cons (by assumption) ?_); exact told_nil), rchkC_y39, dutiesTold_ok ?_⟩
        refine ⟨?_, trivial⟩
        show (0 : Int) = errI (d 0).toInt (d 1).toInt (d 2).toInt (d 3).toInt (d 4).toInt (d 6).toInt
        unfold errI saysP rangeP
        repeat' split
        all_goals omega
      have p17 : (d 2).toInt ≤ (0) := of_decide_eq_true h17
      refine ⟨tellA rchkC_u36, _, _, _, tellA_ok (by (repeat refine told_cons (by assumption) ?_); exact told_nil), rchkC_y36, dutiesTold_ok ?_⟩
      refine ⟨?_, trivial⟩
      show (2 : Int) = errI (d 0).toInt (d 1).toInt (d 2).toInt (d 3).toInt (d 4).toInt (d 6).toInt
      unfold errI saysP rangeP
      repeat' split
      all_goals omega
    have p15 : ¬ ((d 0).toInt = (3)) := of_decide_eq_false h15
    cases h16 : Q.val (OmD d) rchkC_q22
    · have p16 : ¬ ((d 0).toInt = (4)) := of_decide_eq_false h16
      cases h17 : Q.val (OmD d) rchkC_q15
      · have p17 : ¬ ((d 1).toInt ≤ (0)) := of_decide_eq_false h17
        refine ⟨tellA rchkC_u55, _, _, _, tellA_ok (by (repeat refine told_cons (by assumption) ?_); exact told_nil), rchkC_y55, dutiesTold_ok ?_⟩
        refine ⟨?_, trivial⟩
        show (2 : Int) = errI (d 0).toInt (d 1).toInt (d 2).toInt (d 3).toInt (d 4).toInt (d 6).toInt
        unfold errI saysP rangeP
        repeat' split
        all_goals omega
      have p17 : (d 1).toInt ≤ (0) := of_decide_eq_true h17
      refine ⟨tellA rchkC_u51, _, _, _, tellA_ok (by (repeat refine told_cons (by assumption) ?_); exact told_nil), rchkC_y51, dutiesTold_ok ?_⟩
      refine ⟨?_, trivial⟩
      show (2 : Int) = errI (d 0).toInt (d 1).toInt (d 2).toInt (d 3).toInt (d 4).toInt (d 6).toInt
      unfold errI saysP rangeP
      repeat' split
      all_goals omega
    have p16 : (d 0).toInt = (4) := of_decide_eq_true h16
    cases h17 : Q.val (OmD d) rchkC_q15
    rotate_left
    · have p17 : (d 1).toInt ≤ (0) := of_decide_eq_true h17
      refine ⟨tellA rchkC_u42, _, _, _, tellA_ok (by (repeat refine told_cons (by assumption) ?_); exact told_nil), rchkC_y42, dutiesTold_ok ?_⟩
      refine ⟨?_, trivial⟩
      show (2 : Int) = errI (d 0).toInt (d 1).toInt (d 2).toInt (d 3).toInt (d 4).toInt (d 6).toInt
      unfold errI saysP rangeP
      repeat' split
      all_goals omega
    have p17 : ¬ ((d 1).toInt ≤ (0)) := of_decide_eq_false h17
    cases h18 : Q.val (OmD d) rchkC_q19
    · have p18 : ¬ ((d 2).toInt ≤ (0)) := of_decide_eq_false h18
      refine ⟨tellA rchkC_u48, _, _, _, tellA_ok (by (repeat refine told_cons (by assumption) ?_); exact told_nil), rchkC_y48, dutiesTold_ok ?_⟩
      refine ⟨?_, trivial⟩
      show (2 : Int) = errI (d 0).toInt (d 1).toInt (d 2).toInt (d 3).toInt (d 4).toInt (d 6).toInt
      unfold errI saysP rangeP
      repeat' split
      all_goals omega
    have p18 : (d 2).toInt ≤ (0) := of_decide_eq_true h18
    refine ⟨tellA rchkC_u45, _, _, _, tellA_ok (by (repeat refine told_cons (by assumption) ?_); exact told_nil), rchkC_y45, dutiesTold_ok ?_⟩
    refine ⟨?_, trivial⟩
    show (2 : Int) = errI (d 0).toInt (d 1).toInt (d 2).toInt (d 3).toInt (d 4).toInt (d 6).toInt
    unfold errI saysP rangeP
    repeat' split
    all_goals omega
  have p12 : (d 3).toInt = (0) := of_decide_eq_true h12
  cases h13 : Q.val (OmD d) rchkC_q13
  · have p13 : ¬ ((d 6).toInt = (0)) := of_decide_eq_false h13
    cases h14 : Q.val (OmD d) rchkC_q14
    rotate_left
    · have p14 : (d 0).toInt = (1) := of_decide_eq_true h14
      cases h15 : Q.val (OmD d) rchkC_q15
      rotate_left
      · have p15 : (d 1).toInt ≤ (0) := of_decide_eq_true h15
        refine ⟨tellA rchkC_u12, _, _, _, tellA_ok (by (repeat refine told_cons (by assumption) ?_); exact told_nil), rchkC_y12, dutiesTold_ok ?_⟩
        refine ⟨?_, trivial⟩
        show (2 : Int) = errI (d 0).toInt (d 1).toInt (d 2).toInt (d 3).toInt (d 4).toInt (d 6).toInt
        unfold errI saysP rangeP
        repeat' split
        all_goals omega
      have p15 : ¬ ((d 1).toInt ≤ (0)) := of_decide_eq_false h15
      cases h16 : Q.val (OmD d) rchkC_q16
      · have p16 : ¬ ((d 2).toInt = (0)) := of_decide_eq_false h16
        refine ⟨tellA rchkC_u19, _, _, _, tellA_ok (by (repeat refine told_cons (by assumption) ?_); exact told_nil), rchkC_y19, dutiesTold_ok ?_⟩
        refine ⟨?_, trivial⟩
        show (2 : Int) = errI (d 0).toInt (d 1).toInt (d 2).toInt (d 3).toInt (d 4).toInt (d 6).toInt
        unfold errI saysP rangeP
        repeat' split
        all_goals omega
      have p16 : (d 2).toInt = (0) := of_decide_eq_true h16
      refine ⟨tellA rchkC_u15, _, _, _, tellA_ok (by (repeat refine told_cons (by assumption) ?_); exact told_nil), rchkC_y15, dutiesTold_ok ?_⟩
      refine ⟨?_, trivial⟩
      show (2 : Int) = errI (d 0).toInt (d 1).toInt (d 2).toInt (d 3).toInt (d 4).toInt (d 6).toInt
      unfold errI saysP rangeP
      repeat' split
      all_goals omega
    have p14 : ¬ ((d 0).toInt = (1)) := of_decide_eq_false h14
    cases h15 : Q.val (OmD d) rchkC_q18
    rotate_left
    · have p15 : (d 0).toInt = (2) := of_decide_eq_true h15
      cases h16 : Q.val (OmD d) rchkC_q15
      rotate_left
      · have p16 : (d 1).toInt ≤ (0) := of_decide_eq_true h16
        refine ⟨tellA rchkC_u22, _, _, _, tellA_ok (by (repeat refine told_cons (by assumption) ?_); exact told_nil), rchkC_y22, dutiesTold_ok ?_⟩
        refine ⟨?_, trivial⟩
        show (2 : Int) = errI (d 0).toInt (d 1).toInt (d 2).toInt (d 3).toInt (d 4).toInt (d 6).toInt
        unfold errI saysP rangeP
        repeat' split
        all_goals omega
      have p16 : ¬ ((d 1).toInt ≤ (0)) := of_decide_eq_false h16
      cases h17 : Q.val (OmD d) rchkC_q19
      · have p17 : ¬ ((d 2).toInt ≤ (0)) := of_decide_eq_false h17
        refine ⟨tellA rchkC_u28, _, _, _, tellA_ok (by (repeat refine told_cons (by assumption) ?_); exact told_nil), rchkC_y28, dutiesTold_ok ?_⟩
        refine ⟨?_, trivial⟩
        show (2 : Int) = errI (d 0).toInt (d 1).toInt (d 2).toInt (d 3).toInt (d 4).toInt (d 6).toInt
        unfold errI saysP rangeP
        repeat' split
        all_goals omega
      have p17 : (d 2).toInt ≤ (0) := of_decide_eq_true h17
      refine ⟨tellA rchkC_u25, _, _, _, tellA_ok (by (repeat refine told_cons (by assumption) ?_); exact told_nil), rchkC_y25, dutiesTold_ok ?_⟩
      refine ⟨?_, trivial⟩
      show (2 : Int) = errI (d 0).toInt (d 1).toInt (d 2).toInt (d 3).toInt (d 4).toInt (d 6).toInt
      unfold errI saysP rangeP
      repeat' split
      all_goals omega
    have p15 : ¬ ((d 0).toInt = (2)) := of_decide_eq_false h15
    cases h16 : Q.val (OmD d) rchkC_q20
    rotate_left
    · have p16 : (d 0).toInt = (3) := of_decide_eq_true h16
      cases h17 : Q.val (OmD d) rchkC_q15
      rotate_left
      · have p17 : (d 1).toInt ≤ (0) := of_decide_eq_true h17
        refine ⟨tellA rchkC_u32, _, _, _, tellA_ok (by (repeat refine told_cons (by assumption) ?_); exact told_nil), rchkC_y32, dutiesTold_ok ?_⟩
        refine ⟨?_, trivial⟩
        show (2 : Int) = errI (d 0).toInt (d 1).toInt (d 2).toInt (d 3).toInt (d 4).toInt (d 6).toInt
        unfold errI saysP rangeP
        repeat' split
        all_goals omega
      have p17 : ¬ ((d 1).toInt ≤ (0)) := of_decide_eq_false h17
      cases h18 : Q.val (OmD d) rchkC_q19
      · have p18 : ¬ ((d 2).toInt ≤ (0)) := of_decide_eq_false h18
        have p19 : (d 3).toInt ≤ (0) := by omega
        have h19 : Q.val (OmD d) rchkC_q21 = true := decide_eq_true p19
        refine ⟨tellA rchkC_u38, _, _, _, tellA_ok (by (repeat refine told_cons (by assumption) ?_); exact told_nil), rchkC_y38, dutiesTold_ok ?_⟩
        refine ⟨?_, trivial⟩
        show (2 : Int) = errI (d 0).toInt (d 1).toInt (d 2).toInt (d 3).toInt (d 4).toInt (d 6).toInt
        unfold errI saysP rangeP
        repeat' split
        all_goals omega
      have p18 : (d 2).toInt ≤ (0) := of_decide_eq_true h18
      refine ⟨tellA rchkC_u35, _, _, _, tellA_ok (by (repeat refine told_cons (by assumption) ?_); exact told_nil), rchkC_y35, dutiesTold_ok ?_⟩
      refine ⟨?_, trivial⟩
      show (2 : Int) = errI (d 0).toInt (d 1).toInt (d 2).toInt (d 3).toInt (d 4).toInt (d 6).toInt
      unfold errI saysP rangeP
      repeat' split
      all_goals omega
    have p16 : ¬ ((d 0).toInt = (3)) := of_decide_eq_false h16
    cases h17 : Q.val (OmD d) rchkC_q22
    · have p17 : ¬ ((d 0).toInt = (4)) := of_decide_eq_false h17
      cases h18 : Q.val (OmD d) rchkC_q15
      · have p18 : ¬ ((d 1).toInt ≤ (0)) := of_decide_eq_false h18
        refine ⟨tellA rchkC_u53, _, _, _, tellA_ok (by (repeat refine told_cons (by assumption) ?_); exact told_nil), rchkC_y53, dutiesTold_ok ?_⟩
        refine ⟨?_, trivial⟩
        show (2 : Int) = errI (d 0).toInt (d 1).toInt (d 2).toInt (d 3).toInt (d 4).toInt (d 6).toInt
        unfold errI saysP rangeP
        repeat' split
        all_goals omega
      have p18 : (d 1).toInt ≤ (0) := of_decide_eq_true h18
      refine ⟨tellA rchkC_u50, _, _, _, tellA_ok (by (repeat refine told_cons (by assumption) ?_); exact told_nil), rchkC_y50, dutiesTold_ok ?_⟩
      refine ⟨?_, trivial⟩
      show (2 : Int) = errI (d 0).toInt (d 1).toInt (d 2).toInt (d 3).toInt (d 4).toInt (d 6).toInt
      unfold errI saysP rangeP
      repeat' split
      all_goals omega
    have p17 : (d 0).toInt = (4) := of_decide_eq_true h17
    cases h18 : Q.val (OmD d) rchkC_q15
    rotate_left
    · have p18 : (d 1).toInt ≤ (0) := of_decide_eq_true h18
      refine ⟨tellA rchkC_u41, _, _, _, tellA_ok (by (repeat refine told_cons (by assumption) ?_); exact told_nil), rchkC_y41, dutiesTold_ok ?_⟩
      refine ⟨?_, trivial⟩
      show (2 : Int) = errI (d 0).toInt (d 1).toInt (d 2).toInt (d 3).toInt (d 4).toInt (d 6).toInt
      unfold errI saysP rangeP
      repeat' split
      all_goals omega
    have p18 : ¬ ((d 1).toInt ≤ (0)) := of_decide_eq_false h18
    cases h19 : Q.val (OmD d) rchkC_q19
    · have p19 : ¬ ((d 2).toInt ≤ (0)) := of_decide_eq_false h19
      refine ⟨tellA rchkC_u47, _, _, _, tellA_ok (by (repeat refine told_cons (by assumption) ?_); exact told_nil), rchkC_y47, dutiesTold_ok ?_⟩
      refine ⟨?_, trivial⟩
      show (2 : Int) = errI (d 0).toInt (d 1).toInt (d 2).toInt (d 3).toInt (d 4).toInt (d 6).toInt
      unfold errI saysP rangeP
      repeat' split
      all_goals omega
    have p19 : (d 2).toInt ≤ (0) := of_decide_eq_true h19
    refine ⟨tellA rchkC_u44, _, _, _, tellA_ok (by (repeat refine told_cons (by assumption) ?_); exact told_nil), rchkC_y44, dutiesTold_ok ?_⟩
    refine ⟨?_, trivial⟩
    show (2 : Int) = errI (d 0).toInt (d 1).toInt (d 2).toInt (d 3).toInt (d 4).toInt (d 6).toInt
    unfold errI saysP rangeP
    repeat' split
    all_goals omega
  have p13 : (d 6).toInt = (0) := of_decide_eq_true h13
  cases h14 : Q.val (OmD d) rchkC_q14
  rotate_left
  · have p14 : (d 0).toInt = (1) := of_decide_eq_true h14
    cases h15 : Q.val (OmD d) rchkC_q15
    rotate_left
    · have p15 : (d 1).toInt ≤ (0) := of_decide_eq_true h15
      refine ⟨tellA rchkC_u11, _, _, _, tellA_ok (by (repeat refine told_cons (by assumption) ?_); exact told_nil), rchkC_y11, dutiesTold_ok ?_⟩
      refine ⟨?_, trivial⟩
      show (2 : Int) = errI (d 0).toInt (d 1).toInt (d 2).toInt (d 3).toInt (d 4).toInt (d 6).toInt
      unfold errI saysP rangeP
      repeat' split
      all_goals omega
    have p15 : ¬ ((d 1).toInt ≤ (0)) := of_decide_eq_false h15
    cases h16 : Q.val (OmD d) rchkC_q16
    · have p16 : ¬ ((d 2).toInt = (0)) := of_decide_eq_false h16
      refine ⟨tellA rchkC_u18, _, _, _, tellA_ok (by (repeat refine told_cons (by assumption) ?_); exact told_nil), rchkC_y18, dutiesTold_ok ?_⟩
      refine ⟨?_, trivial⟩
      show (2 : Int) = errI (d 0).toInt (d 1).toInt (d 2).toInt (d 3).toInt (d 4).toInt (d 6).toInt
      unfold errI saysP rangeP
      repeat' split
      all_goals omega
    have p16 : (d 2).toInt = (0) := of_decide_eq_true h16
    cases h17 : Q.val (OmD d) rchkC_q17
    · have p17 : ¬ ((d 4).toInt = (0)) := of_decide_eq_false h17
      refine ⟨tellA rchkC_u16, _, _, _, tellA_ok (by (repeat refine told_cons (by assumption) ?_); exact told_nil), rchkC_y16, dutiesTold_ok ?_⟩
      refine ⟨?_, trivial⟩
      show (2 : Int) = errI (d 0).toInt (d 1).toInt (d 2).toInt (d 3).toInt (d 4).toInt (d 6).toInt
      unfold errI saysP rangeP
      repeat' split
      all_goals omega
    have p17 : (d 4).toInt = (0) := of_decide_eq_true h17
    refine ⟨tellA rchkC_u14, _, _, _, tellA_ok (by (repeat refine told_cons (by assumption) ?_); exact told_nil), rchkC_y14, dutiesTold_ok ?_⟩
    refine ⟨?_, trivial⟩
    show (0 : Int) = errI (d 0).toInt (d 1).toInt (d 2).toInt (d 3).toInt (d 4).toInt (d 6).toInt
    unfold errI saysP rangeP
    repeat' split
    all_goals omega
  have p14 : ¬ ((d 0).toInt = (1)) := of_decide_eq_false h14
  cases h15 : Q.val (OmD d) rchkC_q18
  rotate_left
  · have p15 : (d 0).toInt = (2) := of_decide_eq_true h15
    cases h16 : Q.val (OmD d) rchkC_q15
    rotate_left
    · have p16 : (d 1).toInt ≤ (0) := of_decide_eq_true h16
      refine ⟨tellA rchkC_u21, _, _, _, tellA_ok (by (repeat refine told_cons (by assumption) ?_); exact told_nil), rchkC_y21, dutiesTold_ok ?_⟩
      refine ⟨?_, trivial⟩
      show (2 : Int) = errI (d 0).toInt (d 1).toInt (d 2).toInt (d 3).toInt (d 4).toInt (d 6).toInt
      unfold errI saysP rangeP
      repeat' split
      all_goals omega
    have p16 : ¬ ((d 1).toInt ≤ (0)) := of_decide_eq_false h16
    cases h17 : Q.val (OmD d) rchkC_q19
    rotate_left
    · have p17 : (d 2).toInt ≤ (0) := of_decide_eq_true h17
      refine ⟨tellA rchkC_u24, _, _, _, tellA_ok (by (repeat refine told_cons (by assumption) ?_); exact told_nil), rchkC_y24, dutiesTold_ok ?_⟩
      refine ⟨?_, trivial⟩
      show (2 : Int) = errI (d 0).toInt (d 1).toInt (d 2).toInt (d 3).toInt (d 4).toInt (d 6).toInt
      unfold errI saysP rangeP
      repeat' split
      all_goals omega
    have p17 : ¬ ((d 2).toInt ≤ (0)) := of_decide_eq_false h17
    cases h18 : Q.val (OmD d) rchkC_q17
    · have p18 : ¬ ((d 4).toInt = (0)) := of_decide_eq_false h18
      refine ⟨tellA rchkC_u29, _, _, _, tellA_ok (by (repeat refine told_cons (by assumption) ?_); exact told_nil), rchkC_y29, dutiesTold_ok ?_⟩
      refine ⟨?_, trivial⟩
      show (2 : Int) = errI (d 0).toInt (d 1).toInt (d 2).toInt (d 3).toInt (d 4).toInt (d 6).toInt
      unfold errI saysP rangeP
      repeat' split
      all_goals omega
    have p18 : (d 4).toInt = (0) := of_decide_eq_true h18
    refine ⟨tellA rchkC_u27, _, _, _, tellA_ok (by (repeat refine told_cons (by assumption) ?_); exact told_nil), rchkC_y27, dutiesTold_ok ?_⟩
    refine ⟨?_, trivial⟩
    show (0 : Int) = errI (d 0).toInt (d 1).toInt (d 2).toInt (d 3).toInt (d 4).toInt (d 6).toInt
    unfold errI saysP rangeP
    repeat' split
    all_goals omega
  have p15 : ¬ ((d 0).toInt = (2)) := of_decide_eq_false h15
  cases h16 : Q.val (OmD d) rchkC_q20
  rotate_left
  · have p16 : (d 0).toInt = (3) := of_decide_eq_true h16
    cases h17 : Q.val (OmD d) rchkC_q15
    rotate_left
    · have p17 : (d 1).toInt ≤ (0) := of_decide_eq_true h17
      refine ⟨tellA rchkC_u31, _, _, _, tellA_ok (by (repeat refine told_cons (by assumption) ?_); exact told_nil), rchkC_y31, dutiesTold_ok ?_⟩
      refine ⟨?_, trivial⟩
      show (2 : Int) = errI (d 0).toInt (d 1).toInt (d 2).toInt (d 3).toInt (d 4).toInt (d 6).toInt
      unfold errI saysP rangeP
      repeat' split
      all_goals omega
    have p17 : ¬ ((d 1).toInt ≤ (0)) := of_decide_eq_false h17
    cases h18 : Q.val (OmD d) rchkC_q19
    · have p18 : ¬ ((d 2).toInt ≤ (0)) := of_decide_eq_false h18
      have p19 : (d 3).toInt ≤ (0) := by omega
      have h19 : Q.val (OmD d) rchkC_q21 = true := decide_eq_true p19
      refine ⟨tellA rchkC_u37, _, _, _, tellA_ok (by (repeat refine told_cons (by assumption) ?_); exact told_nil), rchkC_y37, dutiesTold_ok ?_⟩
      refine ⟨?_, trivial⟩
      show (2 : Int) = errI (d 0).toInt (d 1).toInt (d 2).toInt (d 3).toInt (d 4).toInt (d 6).toInt
      unfold errI saysP rangeP
      repeat' split
      all_goals omega
    have p18 : (d 2).toInt ≤ (0) := of_decide_eq_true h18
    refine ⟨tellA rchkC_u34, _, _, _, tellA_ok (by (repeat refine told_cons (by assumption) ?_); exact told_nil), rchkC_y34, dutiesTold_ok ?_⟩
    refine ⟨?_, trivial⟩
    show (2 : Int) = errI (d 0).toInt (d 1).toInt (d 2).toInt (d 3).toInt (d 4).toInt (d 6).toInt
    unfold errI saysP rangeP
    repeat' split
    all_goals omega
  have p16 : ¬ ((d 0).toInt = (3)) := of_decide_eq_false h16
  cases h17 : Q.val (OmD d) rchkC_q22
  · have p17 : ¬ ((d 0).toInt = (4)) := of_decide_eq_false h17
    cases h18 : Q.val (OmD d) rchkC_q15
    rotate_left
    · have p18 : (d 1).toInt ≤ (0) := of_decide_eq_true h18
      refine ⟨tellA rchkC_u49, _, _, _, tellA_ok (by (repeat refine told_cons (by assumption) ?_); exact told_nil), rchkC_y49, dutiesTold_ok ?_⟩
      refine ⟨?_, trivial⟩
      show (2 : Int) = errI (d 0).toInt (d 1).toInt (d 2).toInt (d 3).toInt (d 4).toInt (d 6).toInt
      unfold errI saysP rangeP
      repeat' split
      all_goals omega
    have p18 : ¬ ((d 1).toInt ≤ (0)) := of_decide_eq_false h18
    cases h19 : Q.val (OmD d) rchkC_q17
    · have p19 : ¬ ((d 4).toInt = (0)) := of_decide_eq_false h19
      refine ⟨tellA rchkC_u54, _, _, _, tellA_ok (by (repeat refine told_cons (by assumption) ?_); exact told_nil), rchkC_y54, dutiesTold_ok ?_⟩
      refine ⟨?_, trivial⟩
      show (2 : Int) = errI (d 0).toInt (d 1).toInt (d 2).toInt (d 3).toInt (d 4).toInt (d 6).toInt
      unfold errI saysP rangeP
      repeat' split
      all_goals omega
    have p19 : (d 4).toInt = (0) := of_decide_eq_true h19
    refine ⟨tellA rchkC_u52, _, _, _, tellA_ok (by (repeat refine told_cons (by assumption) ?_); exact told_nil), rchkC_y52, dutiesTold_ok ?_⟩
    refine ⟨?_, trivial⟩
    show (0 : Int) = errI (d 0).toInt (d 1).toInt (d 2).toInt (d 3).toInt (d 4).toInt (d 6).toInt
    unfold errI saysP rangeP
    repeat' split
    all_goals omega
  have p17 : (d 0).toInt = (4) := of_decide_eq_true h17
  cases h18 : Q.val (OmD d) rchkC_q15
  rotate_left
  · have p18 : (d 1).toInt ≤ (0) := of_decide_eq_true h18
    refine ⟨tellA rchkC_u40, _, _, _, tellA_ok (by (repeat refine told_cons (by assumption) ?_); exact told_nil), rchkC_y40, dutiesTold_ok ?_⟩
    refine ⟨?_, trivial⟩
    show (2 : Int) = errI (d 0).toInt (d 1).toInt (d 2).toInt (d 3).toInt (d 4).toInt (d 6).toInt
    unfold errI saysP rangeP
    repeat' split
    all_goals omega
  have p18 : ¬ ((d 1).toInt ≤ (0)) := of_decide_eq_false h18
  cases h19 : Q.val (OmD d) rchkC_q19
  · have p19 : ¬ ((d 2).toInt ≤ (0)) := of_decide_eq_false h19
    refine ⟨tellA rchkC_u46, _, _, _, tellA_ok (by (repeat refine told_cons (by assumption) ?_); exact told_nil), rchkC_y46, dutiesTold_ok ?_⟩
    refine ⟨?_, trivial⟩
    show (0 : Int) = errI (d 0).toInt (d 1).toInt (d 2).toInt (d 3).toInt (d 4).toInt (d 6).toInt
    unfold errI saysP rangeP
    repeat' split
    all_goals omega
  have p19 : (d 2).toInt ≤ (0) := of_decide_eq_true h19
  refine ⟨tellA rchkC_u43, _, _, _, tellA_ok (by (repeat refine told_cons (by assumption) ?_); exact told_nil), rchkC_y43, dutiesTold_ok ?_⟩
  refine ⟨?_, trivial⟩
  show (2 : Int) = errI (d 0).toInt (d 1).toInt (d 2).toInt (d 3).toInt (d 4).toInt (d 6).toInt
  unfold errI saysP rangeP
  repeat' split
  all_goals omega

def rchkCE : CSpec := { args := [.agg [.sint .i64 (.var 0), .sint .i64 (.var 1), .sint .i64 (.var 2), .sint .i64 (.var 3), .sint .i64 (.var 4), .empty]], next := 0, rows := [], pre := [], res := .sint .i64 (.fn 11 (argsE [.var 0, .var 1, .var 2, .var 3, .var 4, .int 0])), frows := [], same := [] }
abbrev rchkCE_q0 : Q := (.le (.int 1) (.var 0))
abbrev rchkCE_q1 : Q := (.le (.var 0) (.int 5))
abbrev rchkCE_q2 : Q := (.le (.int 0) (.var 1))
abbrev rchkCE_q3 : Q := (.le (.var 1) (.int 2147483647))
abbrev rchkCE_q4 : Q := (.le (.int 0) (.var 2))
abbrev rchkCE_q5 : Q := (.le (.var 2) (.int 2147483647))
abbrev rchkCE_q6 : Q := (.le (.int 0) (.var 3))
abbrev rchkCE_q7 : Q := (.le (.var 3) (.int 2147483647))
abbrev rchkCE_q8 : Q := (.le (.int 0) (.var 4))
abbrev rchkCE_q9 : Q := (.le (.var 4) (.int 2147483647))
abbrev rchkCE_q10 : Q := (.eq (.var 3) (.int 0))
abbrev rchkCE_q11 : Q := (.eq (.var 0) (.int 1))
abbrev rchkCE_q12 : Q := (.le (.var 1) (.int 0))
abbrev rchkCE_q13 : Q := (.eq (.var 2) (.int 0))
abbrev rchkCE_q14 : Q := (.eq (.var 4) (.int 0))
abbrev rchkCE_q15 : Q := (.eq (.var 0) (.int 2))
abbrev rchkCE_q16 : Q := (.le (.var 2) (.int 0))
abbrev rchkCE_q17 : Q := (.eq (.var 0) (.int 3))
abbrev rchkCE_q18 : Q := (.le (.var 3) (.int 0))
abbrev rchkCE_q19 : Q := (.eq (.var 0) (.int 4))
abbrev rchkCE_u0 : List (Q × Bool) := [(rchkCE_q0, false)]
def rchkCE_d0 : List Duty := [(true, (.int 213), (.fn 11 (.bi .pair (.var 0) (.bi .pair (.var 1) (.bi .pair (.var 2) (.bi .pair (.var 3) (.bi .pair (.var 4) (.bi .pair (.int 0) (.int 0)))))))))]
theorem rchkCE_y0 : endC rchkCE [] 1000 (callC Tryd.prog (tellA rchkCE_u0) [] [] [] 3000 40 15 rchkCE) = some rchkCE_d0 := by kernel_rfl
abbrev rchkCE_u1 : List (Q × Bool) := [(rchkCE_q0, true), (rchkCE_q1, false)]
theorem rchkCE_y1 : endC rchkCE [] 1000 (callC Tryd.prog (tellA rchkCE_u1) [] [] [] 3000 40 15 rchkCE) = some rchkCE_d0 := by kernel_rfl
abbrev rchkCE_u2 : List (Q × Bool) := [(rchkCE_q0, true), (rchkCE_q1, true), (rchkCE_q2, false)]
def rchkCE_d1 : List Duty := [(true, (.int 5), (.fn 11 (.bi .pair (.var 0) (.bi .pair (.var 1) (.bi .pair (.var 2) (.bi .pair (.var 3) (.bi .pair (.var 4) (.bi .pair (.int 0) (.int 0)))))))))]
theorem rchkCE_y2 : endC rchkCE [] 1000 (callC Tryd.prog (tellA rchkCE_u2) [] [] [] 3000 40 15 rchkCE) = some rchkCE_d1 := by kernel_rfl
abbrev rchkCE_u3 : List (Q × Bool) := [(rchkCE_q0, true), (rchkCE_q1, true), (rchkCE_q2, true), (rchkCE_q3, false)]
theorem rchkCE_y3 : endC rchkCE [] 1000 (callC Tryd.prog (tellA rchkCE_u3) [] [] [] 3000 40 15 rchkCE) = some rchkCE_d1 := by kernel_rfl
abbrev rchkCE_u4 : List (Q × Bool) := [(rchkCE_q0, true), (rchkCE_q1, true), (rchkCE_q2, true), (rchkCE_q3, true), (rchkCE_q4, false)]
theorem rchkCE_y4 : endC rchkCE [] 1000 (callC Tryd.prog (tellA rchkCE_u4) [] [] [] 3000 40 15 rchkCE) = some rchkCE_d1 := by kernel_rfl
abbrev rchkCE_u5 : List (Q × Bool) := [(rchkCE_q0, true), (rchkCE_q1, true), (rchkCE_q2, true), (rchkCE_q3, true), (rchkCE_q4, true), (rchkCE_q5, false)]
theorem rchkCE_y5 : endC rchkCE [] 1000 (callC Tryd.prog (tellA rchkCE_u5) [] [] [] 3000 40 15 rchkCE) = some rchkCE_d1 := by kernel_rfl
abbrev rchkCE_u6 : List (Q × Bool) := [(rchkCE_q0, true), (rchkCE_q1, true), (rchkCE_q2, true), (rchkCE_q3, true), (rchkCE_q4, true), (rchkCE_q5, true), (rchkCE_q6, false)]
theorem rchkCE_y6 : endC rchkCE [] 1000 (callC Tryd.prog (tellA rchkCE_u6) [] [] [] 3000 40 15 rchkCE) = some rchkCE_d1 := by kernel_rfl
abbrev rchkCE_u7 : List (Q × Bool) := [(rchkCE_q0, true), (rchkCE_q1, true), (rchkCE_q2, true), (rchkCE_q3, true), (rchkCE_q4, true), (rchkCE_q5, true), (rchkCE_q6, true), (rchkCE_q7, false)]
theorem rchkCE_y7 : endC rchkCE [] 1000 (callC Tryd.prog (tellA rchkCE_u7) [] [] [] 3000 40 15 rchkCE) = some rchkCE_d1 := by kernel_rfl
abbrev rchkCE_u8 : List (Q × Bool) := [(rchkCE_q0, true), (rchkCE_q1, true), (rchkCE_q2, true), (rchkCE_q3, true), (rchkCE_q4, true), (rchkCE_q5, true), (rchkCE_q6, true), (rchkCE_q7, true), (rchkCE_q8, false)]
theorem rchkCE_y8 : endC rchkCE [] 1000 (callC Tryd.prog (tellA rchkCE_u8) [] [] [] 3000 40 15 rchkCE) = some rchkCE_d1 := by kernel_rfl
abbrev rchkCE_u9 : List (Q × Bool) := [(rchkCE_q0, true), (rchkCE_q1, true), (rchkCE_q2, true), (rchkCE_q3, true), (rchkCE_q4, true), (rchkCE_q5, true), (rchkCE_q6, true), (rchkCE_q7, true), (rchkCE_q8, true), (rchkCE_q9, false)]
theorem rchkCE_y9 : endC rchkCE [] 1000 (callC Tryd.prog (tellA rchkCE_u9) [] [] [] 3000 40 15 rchkCE) = some rchkCE_d1 := by kernel_rfl
abbrev rchkCE_u10 : List (Q × Bool) := [(rchkCE_q0, true), (rchkCE_q1, true), (rchkCE_q2, true), (rchkCE_q3, true), (rchkCE_q4, true), (rchkCE_q5, true), (rchkCE_q6, true), (rchkCE_q7, true), (rchkCE_q8, true), (rchkCE_q9, true), (rchkCE_q10, true), (rchkCE_q11, true), (rchkCE_q12, true)]
def rchkCE_d2 : List Duty := [(true, (.int 2), (.fn 11 (.bi .pair (.var 0) (.bi .pair (.var 1) (.bi .pair (.var 2) (.bi .pair (.var 3) (.bi .pair (.var 4) (.bi .pair (.int 0) (.int 0)))))))))]
theorem rchkCE_y10 : endC rchkCE [] 1000 (callC Tryd.prog (tellA rchkCE_u10) [] [] [] 3000 40 15 rchkCE) = some rchkCE_d2 := by kernel_rfl
abbrev rchkCE_u11 : List (Q × Bool) := [(rchkCE_q0, true), (rchkCE_q1, true), (rchkCE_q2, true), (rchkCE_q3, true), (rchkCE_q4, true), (rchkCE_q5, true), (rchkCE_q6, true), (rchkCE_q7, true), (rchkCE_q8, true), (rchkCE_q9, true), (rchkCE_q10, false), (rchkCE_q11, true), (rchkCE_q12, true)]
theorem rchkCE_y11 : endC rchkCE [] 1000 (callC Tryd.prog (tellA rchkCE_u11) [] [] [] 3000 40 15 rchkCE) = some rchkCE_d2 := by kernel_rfl
abbrev rchkCE_u12 : List (Q × Bool) := [(rchkCE_q0, true), (rchkCE_q1, true), (rchkCE_q2, true), (rchkCE_q3, true), (rchkCE_q4, true), (rchkCE_q5, true), (rchkCE_q6, true), (rchkCE_q7, true), (rchkCE_q8, true), (rchkCE_q9, true), (rchkCE_q10, true), (rchkCE_q11, true), (rchkCE_q12, false), (rchkCE_q13, true), (rchkCE_q14, true)]
def rchkCE_d3 : List Duty := [(true, (.int 0), (.fn 11 (.bi .pair (.var 0) (.bi .pair (.var 1) (.bi .pair (.var 2) (.bi .pair (.var 3) (.bi .pair (.var 4) (.bi .pair (.int 0) (.int 0)))))))))]
theorem rchkCE_y12 : endC rchkCE [] 1000 (callC Tryd.prog (tellA rchkCE_u12) [] [] [] 3000 40 15 rchkCE) = some rchkCE_d3 := by kernel_rfl
abbrev rchkCE_u13 : List (Q × Bool) := [(rchkCE_q0, true), (rchkCE_q1, true), (rchkCE_q2, true), (rchkCE_q3, true), (rchkCE_q4, true), (rchkCE_q5, true), (rchkCE_q6, true), (rchkCE_q7, true), (rchkCE_q8, true), (rchkCE_q9, true), (rchkCE_q10, true), (rchkCE_q11, true), (rchkCE_q12, false), (rchkCE_q13, true), (rchkCE_q14, false)]
theorem rchkCE_y13 : endC rchkCE [] 1000 (callC Tryd.prog (tellA rchkCE_u13) [] [] [] 3000 40 15 rchkCE) = some rchkCE_d2 := by kernel_rfl
abbrev rchkCE_u14 : List (Q × Bool) := [(rchkCE_q0, true), (rchkCE_q1, true), (rchkCE_q2, true), (rchkCE_q3, true), (rchkCE_q4, true), (rchkCE_q5, true), (rchkCE_q6, true), (rchkCE_q7, true), (rchkCE_q8, true), (rchkCE_q9, true), (rchkCE_q10, false), (rchkCE_q11, true), (rchkCE_q12, false), (rchkCE_q13, true)]
theorem rchkCE_y14 : endC rchkCE [] 1000 (callC Tryd.prog (tellA rchkCE_u14) [] [] [] 3000 40 15 rchkCE) = some rchkCE_d2 := by kernel_rfl
abbrev rchkCE_u15 : List (Q × Bool) := [(rchkCE_q0, true), (rchkCE_q1, true), (rchkCE_q2, true), (rchkCE_q3, true), (rchkCE_q4, true), (rchkCE_q5, true), (rchkCE_q6, true), (rchkCE_q7, true), (rchkCE_q8, true), (rchkCE_q9, true), (rchkCE_q10, true), (rchkCE_q11, true), (rchkCE_q12, false), (rchkCE_q13, false)]
theorem rchkCE_y15 : endC rchkCE [] 1000 (callC Tryd.prog (tellA rchkCE_u15) [] [] [] 3000 40 15 rchkCE) = some rchkCE_d2 := by kernel_rfl
abbrev rchkCE_u16 : List (Q × Bool) := [(rchkCE_q0, true), (rchkCE_q1, true), (rchkCE_q2, true), (rchkCE_q3, true), (rchkCE_q4, true), (rchkCE_q5, true), (rchkCE_q6, true), (rchkCE_q7, true), (rchkCE_q8, true), (rchkCE_q9, true), (rchkCE_q10, false), (rchkCE_q11, true), (rchkCE_q12, false), (rchkCE_q13, false)]
theorem rchkCE_y16 : endC rchkCE [] 1000 (callC Tryd.prog (tellA rchkCE_u16) [] [] [] 3000 40 15 rchkCE) = some rchkCE_d2 := by kernel_rfl
abbrev rchkCE_u17 : List (Q × Bool) := [(rchkCE_q0, true), (rchkCE_q1, true), (rchkCE_q2, true), (rchkCE_q3, true), (rchkCE_q4, true), (rchkCE_q5, true), (rchkCE_q6, true), (rchkCE_q7, true), (rchkCE_q8, true), (rchkCE_q9, true), (rchkCE_q10, true), (rchkCE_q11, false), (rchkCE_q15, true), (rchkCE_q12, true)]
theorem rchkCE_y17 : endC rchkCE [] 1000 (callC Tryd.prog (tellA rchkCE_u17) [] [] [] 3000 40 15 rchkCE) = some rchkCE_d2 := by kernel_rfl
abbrev rchkCE_u18 : List (Q × Bool) := [(rchkCE_q0, true), (rchkCE_q1, true), (rchkCE_q2, true), (rchkCE_q3, true), (rchkCE_q4, true), (rchkCE_q5, true), (rchkCE_q6, true), (rchkCE_q7, true), (rchkCE_q8, true), (rchkCE_q9, true), (rchkCE_q10, false), (rchkCE_q11, false), (rchkCE_q15, true), (rchkCE_q12, true)]
theorem rchkCE_y18 : endC rchkCE [] 1000 (callC Tryd.prog (tellA rchkCE_u18) [] [] [] 3000 40 15 rchkCE) = some rchkCE_d2 := by kernel_rfl
abbrev rchkCE_u19 : List (Q × Bool) := [(rchkCE_q0, true), (rchkCE_q1, true), (rchkCE_q2, true), (rchkCE_q3, true), (rchkCE_q4, true), (rchkCE_q5, true), (rchkCE_q6, true), (rchkCE_q7, true), (rchkCE_q8, true), (rchkCE_q9, true), (rchkCE_q10, true), (rchkCE_q11, false), (rchkCE_q15, true), (rchkCE_q12, false), (rchkCE_q16, true)]
theorem rchkCE_y19 : endC rchkCE [] 1000 (callC Tryd.prog (tellA rchkCE_u19) [] [] [] 3000 40 15 rchkCE) = some rchkCE_d2 := by kernel_rfl
abbrev rchkCE_u20 : List (Q × Bool) := [(rchkCE_q0, true), (rchkCE_q1, true), (rchkCE_q2, true), (rchkCE_q3, true), (rchkCE_q4, true), (rchkCE_q5, true), (rchkCE_q6, true), (rchkCE_q7, true), (rchkCE_q8, true), (rchkCE_q9, true), (rchkCE_q10, false), (rchkCE_q11, false), (rchkCE_q15, true), (rchkCE_q12, false), (rchkCE_q16, true)]
theorem rchkCE_y20 : endC rchkCE [] 1000 (callC Tryd.prog (tellA rchkCE_u20) [] [] [] 3000 40 15 rchkCE) = some rchkCE_d2 := by kernel_rfl
abbrev rchkCE_u21 : List (Q × Bool) := [(rchkCE_q0, true), (rchkCE_q1, true), (rchkCE_q2, true), (rchkCE_q3, true), (rchkCE_q4, true), (rchkCE_q5, true), (rchkCE_q6, true), (rchkCE_q7, true), (rchkCE_q8, true), (rchkCE_q9, true), (rchkCE_q10, true), (rchkCE_q11, false), (rchkCE_q15, true), (rchkCE_q12, false), (rchkCE_q16, false), (rchkCE_q14, true)]
theorem rchkCE_y21 : endC rchkCE [] 1000 (callC Tryd.prog (tellA rchkCE_u21) [] [] [] 3000 40 15 rchkCE) = some rchkCE_d3 := by kernel_rfl
abbrev rchkCE_u22 : List (Q × Bool) := [(rchkCE_q0, true), (rchkCE_q1, true), (rchkCE_q2, true), (rchkCE_q3, true), (rchkCE_q4, true), (rchkCE_q5, true), (rchkCE_q6, true), (rchkCE_q7, true), (rchkCE_q8, true), (rchkCE_q9, true), (rchkCE_q10, true), (rchkCE_q11, false), (rchkCE_q15, true), (rchkCE_q12, false), (rchkCE_q16, false), (rchkCE_q14, false)]
theorem rchkCE_y22 : endC rchkCE [] 1000 (callC Tryd.prog (tellA rchkCE_u22) [] [] [] 3000 40 15 rchkCE) = some rchkCE_d2 := by kernel_rfl
abbrev rchkCE_u23 : List (Q × Bool) := [(rchkCE_q0, true), (rchkCE_q1, true), (rchkCE_q2, true), (rchkCE_q3, true), (rchkCE_q4, true), (rchkCE_q5, true), (rchkCE_q6, true), (rchkCE_q7, true), (rchkCE_q8, true), (rchkCE_q9, true), (rchkCE_q10, false), (rchkCE_q11, false), (rchkCE_q15, true), (rchkCE_q12, false), (rchkCE_q16, false)]
theorem rchkCE_y23 : endC rchkCE [] 1000 (callC Tryd.prog (tellA rchkCE_u23) [] [] [] 3000 40 15 rchkCE) = some rchkCE_d2 := by kernel_rfl
abbrev rchkCE_u24 : List (Q × Bool) := [(rchkCE_q0, true), (rchkCE_q1, true), (rchkCE_q2, true), (rchkCE_q3, true), (rchkCE_q4, true), (rchkCE_q5, true), (rchkCE_q6, true), (rchkCE_q7, true), (rchkCE_q8, true), (rchkCE_q9, true), (rchkCE_q10, true), (rchkCE_q11, false), (rchkCE_q15, false), (rchkCE_q17, true), (rchkCE_q12, true)]
theorem rchkCE_y24 : endC rchkCE [] 1000 (callC Tryd.prog (tellA rchkCE_u24) [] [] [] 3000 40 15 rchkCE) = some rchkCE_d2 := by kernel_rfl
abbrev rchkCE_u25 : List (Q × Bool) := [(rchkCE_q0, true), (rchkCE_q1, true), (rchkCE_q2, true), (rchkCE_q3, true), (rchkCE_q4, true), (rchkCE_q5, true), (rchkCE_q6, true), (rchkCE_q7, true), (rchkCE_q8, true), (rchkCE_q9, true), (rchkCE_q10, false), (rchkCE_q11, false), (rchkCE_q15, false), (rchkCE_q17, true), (rchkCE_q12, true)]
theorem rchkCE_y25 : endC rchkCE [] 1000 (callC Tryd.prog (tellA rchkCE_u25) [] [] [] 3000 40 15 rchkCE) = some rchkCE_d2 := by kernel_rfl
abbrev rchkCE_u26 : List (Q × Bool) := [(rchkCE_q0, true), (rchkCE_q1, true), (rchkCE_q2, true), (rchkCE_q3, true), (rchkCE_q4, true), (rchkCE_q5, true), (rchkCE_q6, true), (rchkCE_q7, true), (rchkCE_q8, true), (rchkCE_q9, true), (rchkCE_q10, true), (rchkCE_q11, false), (rchkCE_q15, false), (rchkCE_q17, true), (rchkCE_q12, false), (rchkCE_q16, true)]
theorem rchkCE_y26 : endC rchkCE [] 1000 (callC Tryd.prog (tellA rchkCE_u26) [] [] [] 3000 40 15 rchkCE) = some rchkCE_d2 := by kernel_rfl
abbrev rchkCE_u27 : List (Q × Bool) := [(rchkCE_q0, true), (rchkCE_q1, true), (rchkCE_q2, true), (rchkCE_q3, true), (rchkCE_q4, true), (rchkCE_q5, true), (rchkCE_q6, true), (rchkCE_q7, true), (rchkCE_q8, true), (rchkCE_q9, true), (rchkCE_q10, false), (rchkCE_q11, false), (rchkCE_q15, false), (rchkCE_q17, true), (rchkCE_q12, false), (rchkCE_q16, true)]
theorem rchkCE_y27 : endC rchkCE [] 1000 (callC Tryd.prog (tellA rchkCE_u27) [] [] [] 3000 40 15 rchkCE) = some rchkCE_d2 := by kernel_rfl
abbrev rchkCE_u28 : List (Q × Bool) := [(rchkCE_q0, true), (rchkCE_q1, true), (rchkCE_q2, true), (rchkCE_q3, true), (rchkCE_q4, true), (rchkCE_q5, true), (rchkCE_q6, true), (rchkCE_q7, true), (rchkCE_q8, true), (rchkCE_q9, true), (rchkCE_q10, true), (rchkCE_q11, false), (rchkCE_q15, false), (rchkCE_q17, true), (rchkCE_q12, false), (rchkCE_q16, false), (rchkCE_q18, true)]
theorem rchkCE_y28 : endC rchkCE [] 1000 (callC Tryd.prog (tellA rchkCE_u28) [] [] [] 3000 40 15 rchkCE) = some rchkCE_d2 := by kernel_rfl
abbrev rchkCE_u29 : List (Q × Bool) := [(rchkCE_q0, true), (rchkCE_q1, true), (rchkCE_q2, true), (rchkCE_q3, true), (rchkCE_q4, true), (rchkCE_q5, true), (rchkCE_q6, true), (rchkCE_q7, true), (rchkCE_q8, true), (rchkCE_q9, true), (rchkCE_q10, false), (rchkCE_q11, false), (rchkCE_q15, false), (rchkCE_q17, true), (rchkCE_q12, false), (rchkCE_q16, false), (rchkCE_q18, false)]
theorem rchkCE_y29 : endC rchkCE [] 1000 (callC Tryd.prog (tellA rchkCE_u29) [] [] [] 3000 40 15 rchkCE) = some rchkCE_d3 := by kernel_rfl
abbrev rchkCE_u30 : List (Q × Bool) := [(rchkCE_q0, true), (rchkCE_q1, true), (rchkCE_q2, true), (rchkCE_q3, true), (rchkCE_q4, true), (rchkCE_q5, true), (rchkCE_q6, true), (rchkCE_q7, true), (rchkCE_q8, true), (rchkCE_q9, true), (rchkCE_q10, true), (rchkCE_q11, false), (rchkCE_q15, false), (rchkCE_q17, false), (rchkCE_q19, true), (rchkCE_q12, true)]
theorem rchkCE_y30 : endC rchkCE [] 1000 (callC Tryd.prog (tellA rchkCE_u30) [] [] [] 3000 40 15 rchkCE) = some rchkCE_d2 := by kernel_rfl
abbrev rchkCE_u31 : List (Q × Bool) := [(rchkCE_q0, true), (rchkCE_q1, true), (rchkCE_q2, true), (rchkCE_q3, true), (rchkCE_q4, true), (rchkCE_q5, true), (rchkCE_q6, true), (rchkCE_q7, true), (rchkCE_q8, true), (rchkCE_q9, true), (rchkCE_q10, false), (rchkCE_q11, false), (rchkCE_q15, false), (rchkCE_q17, false), (rchkCE_q19, true), (rchkCE_q12, true)]
theorem rchkCE_y31 : endC rchkCE [] 1000 (callC Tryd.prog (tellA rchkCE_u31) [] [] [] 3000 40 15 rchkCE) = some rchkCE_d2 := by kernel_rfl
abbrev rchkCE_u32 : List (Q × Bool) := [(rchkCE_q0, true), (rchkCE_q1, true), (rchkCE_q2, true), (rchkCE_q3, true), (rchkCE_q4, true), (rchkCE_q5, true), (rchkCE_q6, true), (rchkCE_q7, true), (rchkCE_q8, true), (rchkCE_q9, true), (rchkCE_q10, true), (rchkCE_q11, false), (rchkCE_q15, false), (rchkCE_q17, false), (rchkCE_q19, true), (rchkCE_q12, false), (rchkCE_q16, true)]
theorem rchkCE_y32 : endC rchkCE [] 1000 (callC Tryd.prog (tellA rchkCE_u32) [] [] [] 3000 40 15 rchkCE) = some rchkCE_d2 := by kernel_rfl
abbrev rchkCE_u33 : List (Q × Bool) := [(rchkCE_q0, true), (rchkCE_q1, true), (rchkCE_q2, true), (rchkCE_q3, true), (rchkCE_q4, true), (rchkCE_q5, true), (rchkCE_q6, true), (rchkCE_q7, true), (rchkCE_q8, true), (rchkCE_q9, true), (rchkCE_q10, false), (rchkCE_q11, false), (rchkCE_q15, false), (rchkCE_q17, false), (rchkCE_q19, true), (rchkCE_q12, false), (rchkCE_q16, true)]
theorem rchkCE_y33 : endC rchkCE [] 1000 (callC Tryd.prog (tellA rchkCE_u33) [] [] [] 3000 40 15 rchkCE) = some rchkCE_d2 := by kernel_rfl
abbrev rchkCE_u34 : List (Q × Bool) := [(rchkCE_q0, true), (rchkCE_q1, true), (rchkCE_q2, true), (rchkCE_q3, true), (rchkCE_q4, true), (rchkCE_q5, true), (rchkCE_q6, true), (rchkCE_q7, true), (rchkCE_q8, true), (rchkCE_q9, true), (rchkCE_q10, true), (rchkCE_q11, false), (rchkCE_q15, false), (rchkCE_q17, false), (rchkCE_q19, true), (rchkCE_q12, false), (rchkCE_q16, false)]
theorem rchkCE_y34 : endC rchkCE [] 1000 (callC Tryd.prog (tellA rchkCE_u34) [] [] [] 3000 40 15 rchkCE) = some rchkCE_d3 := by kernel_rfl
abbrev rchkCE_u35 : List (Q × Bool) := [(rchkCE_q0, true), (rchkCE_q1, true), (rchkCE_q2, true), (rchkCE_q3, true), (rchkCE_q4, true), (rchkCE_q5, true), (rchkCE_q6, true), (rchkCE_q7, true), (rchkCE_q8, true), (rchkCE_q9, true), (rchkCE_q10, false), (rchkCE_q11, false), (rchkCE_q15, false), (rchkCE_q17, false), (rchkCE_q19, true), (rchkCE_q12, false), (rchkCE_q16, false)]
theorem rchkCE_y35 : endC rchkCE [] 1000 (callC Tryd.prog (tellA rchkCE_u35) [] [] [] 3000 40 15 rchkCE) = some rchkCE_d2 := by kernel_rfl
abbrev rchkCE_u36 : List (Q × Bool) := [(rchkCE_q0, true), (rchkCE_q1, true), (rchkCE_q2, true), (rchkCE_q3, true), (rchkCE_q4, true), (rchkCE_q5, true), (rchkCE_q6, true), (rchkCE_q7, true), (rchkCE_q8, true), (rchkCE_q9, true), (rchkCE_q10, true), (rchkCE_q11, false), (rchkCE_q15, false), (rchkCE_q17, false), (rchkCE_q19, false), (rchkCE_q12, true)]
theorem rchkCE_y36 : endC rchkCE [] 1000 (callC Tryd.prog (tellA rchkCE_u36) [] [] [] 3000 40 15 rchkCE) = some rchkCE_d2 := by kernel_rfl
abbrev rchkCE_u37 : List (Q × Bool) := [(rchkCE_q0, true), (rchkCE_q1, true), (rchkCE_q2, true), (rchkCE_q3, true), (rchkCE_q4, true), (rchkCE_q5, true), (rchkCE_q6, true), (rchkCE_q7, true), (rchkCE_q8, true), (rchkCE_q9, true), (rchkCE_q10, false), (rchkCE_q11, false), (rchkCE_q15, false), (rchkCE_q17, false), (rchkCE_q19, false), (rchkCE_q12, true)]
theorem rchkCE_y37 : endC rchkCE [] 1000 (callC Tryd.prog (tellA rchkCE_u37) [] [] [] 3000 40 15 rchkCE) = some rchkCE_d2 := by kernel_rfl
abbrev rchkCE_u38 : List (Q × Bool) := [(rchkCE_q0, true), (rchkCE_q1, true), (rchkCE_q2, true), (rchkCE_q3, true), (rchkCE_q4, true), (rchkCE_q5, true), (rchkCE_q6, true), (rchkCE_q7, true), (rchkCE_q8, true), (rchkCE_q9, true), (rchkCE_q10, true), (rchkCE_q11, false), (rchkCE_q15, false), (rchkCE_q17, false), (rchkCE_q19, false), (rchkCE_q12, false), (rchkCE_q14, true)]
theorem rchkCE_y38 : endC rchkCE [] 1000 (callC Tryd.prog (tellA rchkCE_u38) [] [] [] 3000 40 15 rchkCE) = some rchkCE_d3 := by kernel_rfl
abbrev rchkCE_u39 : List (Q × Bool) := [(rchkCE_q0, true), (rchkCE_q1, true), (rchkCE_q2, true), (rchkCE_q3, true), (rchkCE_q4, true), (rchkCE_q5, true), (rchkCE_q6, true), (rchkCE_q7, true), (rchkCE_q8, true), (rchkCE_q9, true), (rchkCE_q10, true), (rchkCE_q11, false), (rchkCE_q15, false), (rchkCE_q17, false), (rchkCE_q19, false), (rchkCE_q12, false), (rchkCE_q14, false)]
theorem rchkCE_y39 : endC rchkCE [] 1000 (callC Tryd.prog (tellA rchkCE_u39) [] [] [] 3000 40 15 rchkCE) = some rchkCE_d2 := by kernel_rfl
abbrev rchkCE_u40 : List (Q × Bool) := [(rchkCE_q0, true), (rchkCE_q1, true), (rchkCE_q2, true), (rchkCE_q3, true), (rchkCE_q4, true), (rchkCE_q5, true), (rchkCE_q6, true), (rchkCE_q7, true), (rchkCE_q8, true), (rchkCE_q9, true), (rchkCE_q10, false), (rchkCE_q11, false), (rchkCE_q15, false), (rchkCE_q17, false), (rchkCE_q19, false), (rchkCE_q12, false)]
theorem rchkCE_y40 : endC rchkCE [] 1000 (callC Tryd.prog (tellA rchkCE_u40) [] [] [] 3000 40 15 rchkCE) = some rchkCE_d2 := by kernel_rfl
set_option maxHeartbeats 8000000 in
theorem rchkCE_holds : CHolds Tryd.prog 15 rchkCE F := by
  refine cholds_of sound (tableNil _ _) (specsNil _ _) (oversNil _ _) (fuel := 3000) (depth := 40) (by kernel_rfl) fun d hp hR hA => ?_
  have hp := allTold'_iff.2 hp
  simp only [rchkCE, allTold', dutiesTold, factsA, factsC, factsP, factsR, AV.facts, RW.facts, inK, and_true, Q.holds', E.i, E.s, E.n, D.nat, E.den, BO.den, UO.den, TO.den, D.toInt_int, D.toList_list, D.ints_ofInts, i64min, i64max, u8min, u8max, u16min, u16max, u32min, u32max, u64min, u64max, i32min, i32max, Om.sub, selI, ints_app, ints_cut, ints_upd, ints_rep, ints_splice, ints_seg, len_ints] at hp hR hA
  cases h0 : Q.val (OmD d) rchkCE_q0
  · have p0 : ¬ ((1) ≤ (d 0).toInt) := of_decide_eq_false h0
    refine ⟨tellA rchkCE_u0, _, _, _, tellA_ok (told_cons h0 told_nil), rchkCE_y0, dutiesTold_ok ?_⟩
    refine ⟨?_, trivial⟩
    show (213 : Int) = errI (d 0).toInt (d 1).toInt (d 2).toInt (d 3).toInt (d 4).toInt 0
    unfold errI saysP rangeP
    repeat' split
    all_goals omega
  have p0 : (1) ≤ (d 0).toInt := of_decide_eq_true h0
  cases h1 : Q.val (OmD d) rchkCE_q1
  · have p1 : ¬ ((d 0).toInt ≤ (5)) := of_decide_eq_false h1
    refine ⟨tellA rchkCE_u1, _, _, _, tellA_ok (told_cons h0 (told_cons h1 told_nil)), rchkCE_y1, dutiesTold_ok ?_⟩
    refine ⟨?_, trivial⟩
    show (213 : Int) = errI (d 0).toInt (d 1).toInt (d 2).toInt (d 3).toInt (d 4).toInt 0
    unfold errI saysP rangeP
    repeat' split
    all_goals omega
  have p1 : (d 0).toInt ≤ (5) := of_decide_eq_true h1
  cases h2 : Q.val (OmD d) rchkCE_q2
  · have p2 : ¬ ((0) ≤ (d 1).toInt) := of_decide_eq_false h2
    refine ⟨tellA rchkCE_u2, _, _, _, tellA_ok (told_cons h0 (told_cons h1 (told_cons h2 told_nil))), rchkCE_y2, dutiesTold_ok ?_⟩
    refine ⟨?_, trivial⟩
    show (5 : Int) = errI (d 0).toInt (d 1).toInt (d 2).toInt (d 3).toInt (d 4).toInt 0
    unfold errI saysP rangeP
    repeat' split
    all_goals omega
  have p2 : (0) ≤ (d 1).toInt := of_decide_eq_true h2
  cases h3 : Q.val (OmD d) rchkCE_q3
  · have p3 : ¬ ((d 1).toInt ≤ (2147483647)) := of_decide_eq_false h3
    refine ⟨tellA rchkCE_u3, _, _, _, tellA_ok (by (repeat refine told_cons (by assumption) ?_); exact told_nil), rchkCE_y3, dutiesTold_ok ?_⟩
    refine ⟨?_, trivial⟩
    show (5 : Int) = errI (d 0).toInt (d 1).toInt (d 2).toInt (d 3).toInt (d 4).toInt 0
    unfold errI saysP rangeP
    repeat' split
    all_goals omega
  have p3 : (d 1).toInt ≤ (2147483647) := of_decide_eq_true h3
  cases h4 : Q.val (OmD d) rchkCE_q4
  · have p4 : ¬ ((0) ≤ (d 2).toInt) := of_decide_eq_false h4
    refine ⟨tellA rchkCE_u4, _, _, _, tellA_ok (by (repeat refine told_cons (by assumption) ?_); exact told_nil), rchkCE_y4, dutiesTold_ok ?_⟩
    refine ⟨?_, trivial⟩
    show (5 : Int) = errI (d 0).toInt (d 1).toInt (d 2).toInt (d 3).toInt (d 4).toInt 0
    unfold errI saysP rangeP
    repeat' split
    all_goals omega
  have p4 : (0) ≤ (d 2).toInt := of_decide_eq_true h4
  cases h5 : Q.val (OmD d) rchkCE_q5
  · have p5 : ¬ ((d 2).toInt ≤ (2147483647)) := of_decide_eq_false h5
    refine ⟨tellA rchkCE_u5, _, _, _, tellA_ok (by (repeat refine told_cons (by assumption) ?_); exact told_nil), rchkCE_y5, dutiesTold_ok ?_⟩
    refine ⟨?_, trivial⟩
    show (5 : Int) = errI (d 0).toInt (d 1).toInt (d 2).toInt (d 3).toInt (d 4).toInt 0
    unfold errI saysP rangeP
    repeat' split
    all_goals omega
  have p5 : (d 2).toInt ≤ (2147483647) := of_decide_eq_true h5
  cases h6 : Q.val (OmD d) rchkCE_q6
  · have p6 : ¬ ((0) ≤ (d 3).toInt) := of_decide_eq_false h6
    refine ⟨tellA rchkCE_u6, _, _, _, tellA_ok (by (repeat refine told_cons (by assumption) ?_); exact told_nil), rchkCE_y6, dutiesTold_ok ?_⟩
    refine ⟨?_, trivial⟩
    show (5 : Int) = errI (d 0).toInt (d 1).toInt (d 2).toInt (d 3).toInt (d 4).toInt 0
    unfold errI saysP rangeP
    repeat' split
    all_goals omega
  have p6 : (0) ≤ (d 3).toInt := of_decide_eq_true h6
  cases h7 : Q.val (OmD d) rchkCE_q7
  · have p7 : ¬ ((d 3).toInt ≤ (2147483647)) := of_decide_eq_false h7
    refine ⟨tellA rchkCE_u7, _, _, _, tellA_ok (by (repeat refine told_cons (by assumption) ?_); exact told_nil), rchkCE_y7, dutiesTold_ok ?_⟩
    refine ⟨?_, trivial⟩
    show (5 : Int) = errI (d 0).toInt (d 1).toInt (d 2).toInt (d 3).toInt (d 4).toInt 0
    unfold errI saysP rangeP
    repeat' split
    all_goals omega
  have p7 : (d 3).toInt ≤ (2147483647) := of_decide_eq_true h7
  cases h8 : Q.val (OmD d) rchkCE_q8
  · have p8 : ¬ ((0) ≤ (d 4).toInt) := of_decide_eq_false h8
    refine ⟨tellA rchkCE_u8, _, _, _, tellA_ok (by (repeat refine told_cons (by assumption) ?_); exact told_nil), rchkCE_y8, dutiesTold_ok ?_⟩
    refine ⟨?_, trivial⟩
    show (5 : Int) = errI (d 0).toInt (d 1).toInt (d 2).toInt (d 3).toInt (d 4).toInt 0
    unfold errI saysP rangeP
    repeat' split
    all_goals omega
  have p8 : (0) ≤ (d 4).toInt := of_decide_eq_true h8
  cases h9 : Q.val (OmD d) rchkCE_q9
  · have p9 : ¬ ((d 4).toInt ≤ (2147483647)) := of_decide_eq_false h9
    refine ⟨tellA rchkCE_u9, _, _, _, tellA_ok (by (repeat refine told_cons (by assumption) ?_); exact told_nil), rchkCE_y9, dutiesTold_ok ?_⟩
    refine ⟨?_, trivial⟩
    show (5 : Int) = errI (d 0).toInt (d 1).toInt (d 2).toInt (d 3).toInt (d 4).toInt 0
    unfold errI saysP rangeP
    repeat' split
    all_goals omega
  have p9 : (d 4).toInt ≤ (2147483647) := of_decide_eq_true h9
  cases h10 : Q.val (OmD d) rchkCE_q10
  · have p10 : ¬ ((d 3).toInt = (0)) := of_decide_eq_false h10
    cases h11 : Q.val (OmD d) rchkCE_q11
    rotate_left
    · have p11 : (d 0).toInt = (1) := of_decide_eq_true h11
      cases h12 : Q.val (OmD d) rchkCE_q12
      rotate_left
      · have p12 : (d 1).toInt ≤ (0) := of_decide_eq_true h12
        refine ⟨tellA rchkCE_u11, _, _, _, tellA_ok (by (repeat refine told_cons (by assumption) ?_); exact told_nil), rchkCE_y11, dutiesTold_ok ?_⟩
        refine ⟨?_, trivial⟩
        show (2 : Int) = errI (d 0).toInt (d 1).toInt (d 2).toInt (d 3).toInt (d 4).toInt 0
        unfold errI saysP rangeP
        repeat' split
        all_goals omega
      have p12 : ¬ ((d 1).toInt ≤ (0)) := of_decide_eq_false h12
      cases h13 : Q.val (OmD d) rchkCE_q13
      · have p13 : ¬ ((d 2).toInt = (0)) := of_decide_eq_false h13
        refine ⟨tellA rchkCE_u16, _, _, _, tellA_ok (by (repeat refine told_cons (by assumption) ?_); exact told_nil), rchkCE_y16, dutiesTold_ok ?_⟩
        refine ⟨?_, trivial⟩
        show (2 : Int) = errI (d 0).toInt (d 1).toInt (d 2).toInt (d 3).toInt (d 4).toInt 0
        unfold errI saysP rangeP
        repeat' split
        all_goals omega
      have p13 : (d 2).toInt = (0) := of_decide_eq_true h13
      refine ⟨tellA rchkCE_u14, _, _, _, tellA_ok (by (repeat refine told_cons (by assumption) ?_); exact told_nil), rchkCE_y14, dutiesTold_ok ?_⟩
      refine ⟨?_, trivial⟩
      show (2 : Int) = errI (d 0).toInt (d 1).toInt (d 2).toInt (d 3).toInt (d 4).toInt 0
      unfold errI saysP rangeP
      repeat' split
      all_goals omega
    have p11 : ¬ ((d 0).toInt = (1)) := of_decide_eq_false h11
    cases h12 : Q.val (OmD d) rchkCE_q15
    rotate_left
    · have p12 : (d 0).toInt = (2) := of_decide_eq_true h12
      cases h13 : Q.val (OmD d) rchkCE_q12
      rotate_left
      · have p13 : (d 1).toInt ≤ (0) := of_decide_eq_true h13
        refine ⟨tellA rchkCE_u18, _, _, _, tellA_ok (by (repeat refine told_cons (by assumption) ?_); exact told_nil), rchkCE_y18, dutiesTold_ok ?_⟩
        refine ⟨?_, trivial⟩
        show (2 : Int) = errI (d 0).toInt (d 1).toInt (d 2).toInt (d 3).toInt (d 4).toInt 0
        unfold errI saysP rangeP
        repeat' split
        all_goals omega
      have p13 : ¬ ((d 1).toInt ≤ (0)) := of_decide_eq_false h13
      cases h14 : Q.val (OmD d) rchkCE_q16
      · have p14 : ¬ ((d 2).toInt ≤ (0)) := of_decide_eq_false h14
        refine ⟨tellA rchkCE_u23, _, _, _, tellA_ok (by (repeat refine told_cons (by assumption) ?_); exact told_nil), rchkCE_y23, dutiesTold_ok ?_⟩
        refine ⟨?_, trivial⟩
        show (2 : Int) = errI (d 0).toInt (d 1).toInt (d 2).toInt (d 3).toInt (d 4).toInt 0
        unfold errI saysP rangeP
        repeat' split
        all_goals omega
      have p14 : (d 2).toInt ≤ (0) := of_decide_eq_true h14
      refine ⟨tellA rchkCE_u20, _, _, _, tellA_ok (by (repeat refine told_cons (by assumption) ?_); exact told_nil), rchkCE_y20, dutiesTold_ok ?_⟩
      refine ⟨?_, trivial⟩
      show (2 : Int) = errI (d 0).toInt (d 1).toInt (d 2).toInt (d 3).toInt (d 4).toInt 0
      unfold errI saysP rangeP
      repeat' split
      all_goals omega
    have p12 : ¬ ((d 0).toInt = (2)) := of_decide_eq_false h12
    cases h13 : Q.val (OmD d) rchkCE_q17
    rotate_left
    · have p13 : (d 0).toInt = (3) := of_decide_eq_true h13
      cases h14 : Q.val (OmD d) rchkCE_q12
      rotate_left
      · have p14 : (d 1).toInt ≤ (0) := of_decide_eq_true h14
        refine ⟨tellA rchkCE_u25, _, _, _, tellA_ok (by (repeat refine told_cons (by assumption) ?_); exact told_nil), rchkCE_y25, dutiesTold_ok ?_⟩
        refine ⟨?_, trivial⟩
        show (2 : Int) = errI (d 0).toInt (d 1).toInt (d 2).toInt (d 3).toInt (d 4).toInt 0
        unfold errI saysP rangeP
        repeat' split
        all_goals omega
      have p14 : ¬ ((d 1).toInt ≤ (0)) := of_decide_eq_false h14
      cases h15 : Q.val (OmD d) rchkCE_q16
      · have p15 : ¬ ((d 2).toInt ≤ (0)) := of_decide_eq_false h15
        have p16 : ¬ ((d 3).toInt ≤ (0)) := by omega
        have h16 : Q.val (OmD d) rchkCE_q18 = false := decide_eq_false p16
        refine ⟨tellA rchkCE_u29, _, _, _, tellA_ok (by (repeat refine told_cons (by assumption) ?_); exact told_nil), rchkCE_y29, dutiesTold_ok ?_⟩
        refine ⟨?_, trivial⟩
        show (0 : Int) = errI (d 0).toInt (d 1).toInt (d 2).toInt (d 3).toInt (d 4).toInt 0
        unfold errI saysP rangeP
        repeat' split
        all_goals omega
      have p15 : (d 2).toInt ≤ (0) := of_decide_eq_true h15
      refine ⟨tellA rchkCE_u27, _, _, _, tellA_ok (by (repeat refine told_cons (by assumption) ?_); exact told_nil), rchkCE_y27, dutiesTold_ok ?_⟩
      refine ⟨?_, trivial⟩
      show (2 : Int) = errI (d 0).toInt (d 1).toInt (d 2).toInt (d 3).toInt (d 4).toInt 0
      unfold errI saysP rangeP
      repeat' split
      all_goals omega
    have p13 : ¬ ((d 0).toInt = (3)) := of_decide_eq_false h13
    cases h14 : Q.val (OmD d) rchkCE_q19
    · have p14 : ¬ ((d 0).toInt = (4)) := of_decide_eq_false h14
      cases h15 : Q.val (OmD d) rchkCE_q12
      · have p15 : ¬ ((d 1).toInt ≤ (0)) := of_decide_eq_false h15
        refine ⟨tellA rchkCE_u40, _, _, _, tellA_ok (by (repeat refine told_cons (by assumption) ?_); exact told_nil), rchkCE_y40, dutiesTold_ok ?_⟩
        refine ⟨?_, trivial⟩
        show (2 : Int) = errI (d 0).toInt (d 1).toInt (d 2).toInt (d 3).toInt (d 4).toInt 0
        unfold errI saysP rangeP
        repeat' split
        all_goals omega
      have p15 : (d 1).toInt ≤ (0) := of_decide_eq_true h15
      refine ⟨tellA rchkCE_u37, _, _, _, tellA_ok (by (repeat refine told_cons (by assumption) ?_); exact told_nil), rchkCE_y37, dutiesTold_ok ?_⟩
      refine ⟨?_, trivial⟩
      show (2 : Int) = errI (d 0).toInt (d 1).toInt (d 2).toInt (d 3).toInt (d 4).toInt 0
      unfold errI saysP rangeP
      repeat' split
      all_goals omega
    have p14 : (d 0).toInt = (4) := of_decide_eq_true h14
    cases h15 : Q.val (OmD d) rchkCE_q12
    rotate_left
    · have p15 : (d 1).toInt ≤ (0) := of_decide_eq_true h15
      refine ⟨tellA rchkCE_u31, _, _, _, tellA_ok (by (repeat refine told_cons (by assumption) ?_); exact told_nil), rchkCE_y31, dutiesTold_ok ?_⟩
      refine ⟨?_, trivial⟩
      show (2 : Int) = errI (d 0).toInt (d 1).toInt (d 2).toInt (d 3).toInt (d 4).toInt 0
      unfold errI saysP rangeP
      repeat' split
      all_goals omega
    have p15 : ¬ ((d 1).toInt ≤ (0)) := of_decide_eq_false h15
    cases h16 : Q.val (OmD d) rchkCE_q16
    · have p16 : ¬ ((d 2).toInt ≤ (0)) := of_decide_eq_false h16
      refine ⟨tellA rchkCE_u35, _, _, _, tellA_ok (by (repeat refine told_cons (by assumption) ?_); exact told_nil), rchkCE_y35, dutiesTold_ok ?_⟩
      refine ⟨?_, trivial⟩
      show (2 : Int) = errI (d 0).toInt (d 1).toInt (d 2).toInt (d 3).toInt (d 4).toInt 0
      unfold errI saysP rangeP
      repeat' split
      all_goals omega
    have p16 : (d 2).toInt ≤ (0) := of_decide_eq_true h16
    refine ⟨tellA rchkCE_u33, _, _, _, tellA_ok (by (repeat refine told_cons (by assumption) ?_); exact told_nil), rchkCE_y33, dutiesTold_ok ?_⟩
    refine ⟨?_, trivial⟩
    show (2 : Int) = errI (d 0).toInt (d 1).toInt (d 2).toInt (d 3).toInt (d 4).toInt 0
    unfold errI saysP rangeP
    repeat' split
    all_goals omega
  have p10 : (d 3).toInt = (0) := of_decide_eq_true h10
  cases h11 : Q.val (OmD d) rchkCE_q11
  rotate_left
  · have p11 : (d 0).toInt = (1) := of_decide_eq_true h11
    cases h12 : Q.val (OmD d) rchkCE_q12
    rotate_left
    · have p12 : (d 1).toInt ≤ (0) := of_decide_eq_true h12
      refine ⟨tellA rchkCE_u10, _, _, _, tellA_ok (by (repeat refine told_cons (by assumption) ?_); exact told_nil), rchkCE_y10, dutiesTold_ok ?_⟩
      refine ⟨?_, trivial⟩
      show (2 : Int) = errI (d 0).toInt (d 1).toInt (d 2).toInt (d 3).toInt (d 4).toInt 0
      unfold errI saysP rangeP
      repeat' split
      all_goals omega
    have p12 : ¬ ((d 1).toInt ≤ (0)) := of_decide_eq_false h12
    cases h13 : Q.val (OmD d) rchkCE_q13
    · have p13 : ¬ ((d 2).toInt = (0)) := of_decide_eq_false h13
      refine ⟨tellA rchkCE_u15, _, _, _, tellA_ok (by (repeat refine told_cons (by assumption) ?_); exact told_nil), rchkCE_y15, dutiesTold_ok ?_⟩
      refine ⟨?_, trivial⟩
      show (2 : Int) = errI (d 0).toInt (d 1).toInt (d 2).toInt (d 3).toInt (d 4).toInt 0
      unfold errI saysP rangeP
      repeat' split
      all_goals omega
    have p13 : (d 2).toInt = (0) := of_decide_eq_true h13
    cases h14 : Q.val (OmD d) rchkCE_q14
    · have p14 : ¬ ((d 4).toInt = (0)) := of_decide_eq_false h14
      refine ⟨tellA rchkCE_u13, _, _, _, tellA_ok (by (repeat refine told_cons (by assumption) ?_); exact told_nil), rchkCE_y13, dutiesTold_ok ?_⟩
      refine ⟨?_, trivial⟩
      show (2 : Int) = errI (d 0).toInt (d 1).toInt (d 2).toInt (d 3).toInt (d 4).toInt 0
      unfold errI saysP rangeP
      repeat' split
      all_goals omega
    have p14 : (d 4).toInt = (0) := of_decide_eq_true h14
    refine ⟨tellA rchkCE_u12, _, _, _, tellA_ok (by (repeat refine told_cons (by assumption) ?_); exact told_nil), rchkCE_y12, dutiesTold_ok ?_⟩
    refine ⟨?_, trivial⟩
    show (0 : Int) = errI (d 0).toInt (d 1).toInt (d 2).toInt (d 3).toInt (d 4).toInt 0
    unfold errI saysP rangeP
    repeat' split
    all_goals omega
  have p11 : ¬ ((d 0).toInt = (1)) := of_decide_eq_false h11
  cases h12 : Q.val (OmD d) rchkCE_q15
  rotate_left
  · have p12 : (d 0).toInt = (2) := of_decide_eq_true h12
    cases h13 : Q.val (OmD d) rchkCE_q12
    rotate_left
    · have p13 : (d 1).toInt ≤ (0) := of_decide_eq_true h13
      refine ⟨tellA rchkCE_u17, _, _, _, tellA_ok (by (repeat refine told_cons (by assumption) ?_); exact told_nil), rchkCE_y17, dutiesTold_ok ?_⟩
      refine ⟨?_, trivial⟩
      show (2 : Int) = errI (d 0).toInt (d 1).toInt (d 2).toInt (d 3).toInt (d 4).toInt 0
      unfold errI saysP rangeP
      repeat' split
      all_goals omega
    have p13 : ¬ ((d 1).toInt ≤ (0)) := of_decide_eq_false h13
    cases h14 : Q.val (OmD d) rchkCE_q16
    rotate_left
    · have p14 : (d 2).toInt ≤ (0) := of_decide_eq_true h14
      refine ⟨tellA rchkCE_u19, _, _, _, tellA_ok (by (repeat refine told_cons (by assumption) ?_); exact told_nil), rchkCE_y19, dutiesTold_ok ?_⟩
      refine ⟨?_, trivial⟩
      show (2 : Int) = errI (d 0).toInt (d 1).toInt (d 2).toInt (d 3).toInt (d 4).toInt 0
      unfold errI saysP rangeP
      repeat' split
      all_goals omega
    have p14 : ¬ ((d 2).toInt ≤ (0)) := of_decide_eq_false h14
    cases h15 : Q.val (OmD d) rchkCE_q14
    · have p15 : ¬ ((d 4).toInt = (0)) := of_decide_eq_false h15
      refine ⟨tellA rchkCE_u22, _, _, _, tellA_ok (by (repeat refine told_cons (by assumption) ?_); exact told_nil), rchkCE_y22, dutiesTold_ok ?_⟩
      refine ⟨?_, trivial⟩
      show (2 : Int) = errI (d 0).toInt (d 1).toInt (d 2).toInt (d 3).toInt (d 4).toInt 0
      unfold errI saysP rangeP
      repeat' split
      all_goals omega
    have p15 : (d 4).toInt = (0) := of_decide_eq_true h15
    refine ⟨tellA rchkCE_u21, _, _, _, tellA_ok (by (repeat refine told_cons (by assumption) ?_); exact told_nil), rchkCE_y21, dutiesTold_ok ?_⟩
    refine ⟨?_, trivial⟩
    show (0 : Int) = errI (d 0).toInt (d 1).toInt (d 2).toInt (d 3).toInt (d 4).toInt 0
    unfold errI saysP rangeP
    repeat' split
    all_goals omega
  have p12 : ¬ ((d 0).toInt = (2)) := of_decide_eq_false h12
  cases h13 : Q.val (OmD d) rchkCE_q17
  rotate_left
  · have p13 : (d 0).toInt = (3) := of_decide_eq_true h13
    cases h14 : Q.val (OmD d) rchkCE_q12
    rotate_left
    · have p14 : (d 1).toInt ≤ (0) := of_decide_eq_true h14
      refine ⟨tellA rchkCE_u24, _, _, _, tellA_ok (by (repeat refine told_cons (by assumption) ?_); exact told_nil), rchkCE_y24, dutiesTold_ok ?_⟩
      refine ⟨?_, trivial⟩
      show (2 : Int) = errI (d 0).toInt (d 1).toInt (d 2).toInt (d 3).toInt (d 4).toInt 0
      unfold errI saysP rangeP
      repeat' split
      all_goals omega
    have p14 : ¬ ((d 1).toInt ≤ (0)) := of_decide_eq_false h14
    cases h15 : Q.val (OmD d) rchkCE_q16
    · have p15 : ¬ ((d 2).toInt ≤ (0)) := of_decide_eq_false h15
      have p16 : (d 3).toInt ≤ (0) := by omega
      have h16 : Q.val (OmD d) rchkCE_q18 = true := decide_eq_true p16
      refine ⟨tellA rchkCE_u28, _, _, _, tellA_ok (by (repeat refine told_cons (by assumption) ?_); exact told_nil), rchkCE_y28, dutiesTold_ok ?_⟩
      refine ⟨?_, trivial⟩
      show (2 : Int) = errI (d 0).toInt (d 1).toInt (d 2).toInt (d 3).toInt (d 4).toInt 0
      unfold errI saysP rangeP
      repeat' split
      all_goals omega
    have p15 : (d 2).toInt ≤ (0) := of_decide_eq_true h15
    refine ⟨tellA rchkCE_u26, _, _, _, tellA_ok (by (repeat refine told_cons (by assumption) ?_); exact told_nil), rchkCE_y26, dutiesTold_ok ?_⟩
    refine ⟨?_, trivial⟩
    show (2 : Int) = errI (d 0).toInt (d 1).toInt (d 2).toInt (d 3).toInt (d 4).toInt 0
    unfold errI saysP rangeP
    repeat' split
    all_goals omega
  have p13 : ¬ ((d 0).toInt = (3)) := of_decide_eq_false h13
  cases h14 : Q.val (OmD d) rchkCE_q19
  · have p14 : ¬ ((d 0).toInt = (4)) := of_decide_eq_false h14
    cases h15 : Q.val (OmD d) rchkCE_q12
    rotate_left
    · have p15 : (d 1).toInt ≤ (0) := of_decide_eq_true h15
      refine ⟨tellA rchkCE_u36, _, _, _, tellA_ok (by (repeat refine told_cons (by assumption) ?_); exact told_nil), rchkCE_y36, dutiesTold_ok ?_⟩
      refine ⟨?_, trivial⟩
      show (2 : Int) = errI (d 0).toInt (d 1).toInt (d 2).toInt (d 3).toInt (d 4).toInt 0
      unfold errI saysP rangeP
      repeat' split
      all_goals omega
    have p15 : ¬ ((d 1).toInt ≤ (0)) := of_decide_eq_false h15
    cases h16 : Q.val (OmD d) rchkCE_q14
    · have p16 : ¬ ((d 4).toInt = (0)) := of_decide_eq_false h16
      refine ⟨tellA rchkCE_u39, _, _, _, tellA_ok (by (repeat refine told_cons (by assumption) ?_); exact told_nil), rchkCE_y39, dutiesTold_ok ?_⟩
      refine ⟨?_, trivial⟩
      show (2 : Int) = errI (d 0).toInt (d 1).toInt (d 2).toInt (d 3).toInt (d 4).toInt 0
      unfold errI saysP rangeP
      repeat' split
      all_goals omega
    have p16 : (d 4).toInt = (0) := of_decide_eq_true h16
    refine ⟨tellA rchkCE_u38, _, _, _, tellA_ok (by (repeat refine told_cons (by assumption) ?_); exact told_nil), rchkCE_y38, dutiesTold_ok ?_⟩
    refine ⟨?_, trivial⟩
    show (0 : Int) = errI (d 0).toInt (d 1).toInt (d 2).toInt (d 3).toInt (d 4).toInt 0
    unfold errI saysP rangeP
    repeat' split
    all_goals omega
  have p14 : (d 0).toInt = (4) := of_decide_eq_true h14
  cases h15 : Q.val (OmD d) rchkCE_q12
  rotate_left
  · have p15 : (d 1).toInt ≤ (0) := of_decide_eq_true h15
    refine ⟨tellA rchkCE_u30, _, _, _, tellA_ok (by (repeat refine told_cons (by assumption) ?_); exact told_nil), rchkCE_y30, dutiesTold_ok ?_⟩
    refine ⟨?_, trivial⟩
    show (2 : Int) = errI (d 0).toInt (d 1).toInt (d 2).toInt (d 3).toInt (d 4).toInt 0
    unfold errI saysP rangeP
    repeat' split
    all_goals omega
  have p15 : ¬ ((d 1).toInt ≤ (0)) := of_decide_eq_false h15
  cases h16 : Q.val (OmD d) rchkCE_q16
  · have p16 : ¬ ((d 2).toInt ≤ (0)) := of_decide_eq_false h16
    refine ⟨tellA rchkCE_u34, _, _, _, tellA_ok (by (repeat refine told_cons (by assumption) ?_); exact told_nil), rchkCE_y34, dutiesTold_ok ?_⟩
    refine ⟨?_, trivial⟩
    show (0 : Int) = errI (d 0).toInt (d 1).toInt (d 2).toInt (d 3).toInt (d 4).toInt 0
    unfold errI saysP rangeP
    repeat' split
    all_goals omega
  have p16 : (d 2).toInt ≤ (0) := of_decide_eq_true h16
  refine ⟨tellA rchkCE_u32, _, _, _, tellA_ok (by (repeat refine told_cons (by assumption) ?_); exact told_nil), rchkCE_y32, dutiesTold_ok ?_⟩
  refine ⟨?_, trivial⟩
  show (2 : Int) = errI (d 0).toInt (d 1).toInt (d 2).toInt (d 3).toInt (d 4).toInt 0
  unfold errI saysP rangeP
  repeat' split
  all_goals omega

end Go.Proofs.YtlmcjfcfmcdcpaaDoor.F7
