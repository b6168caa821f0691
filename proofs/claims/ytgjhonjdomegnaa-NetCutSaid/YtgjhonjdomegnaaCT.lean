/-
  The law NetCut of the layer net holds of the code: for all inputs the call returns true, and the arguments read as they did. No condition.
-/
import Derived.Test.YtgjhonjdomegnaaCo
import Derived.Test.YtgjhonjdomegnaaSycp
import Derived.Test.YtgjhonjdomegnaaCa
import Derived.WalkKit
import Derived.ProofKit
import Derived.OpenShut
set_option linter.unusedSimpArgs false
set_option linter.unusedVariables false
namespace Go.Proofs.Ytgjhonjdomegnaa.netCut
open Go.ChangeShapes Go.WideShapes Go.ChangeAt Go.RowKit Go.Ev Go.Proofs.Ytgjhonjdomegnaa.Co Go.Proofs.Ytgjhonjdomegnaa.Ca

def om (n0 : Int) (n1 : Int) (n2 : Int) (n3 : Int) : Om := ⟨fun _ => .bool false, fun i => if i = 0 then .int n0 else if i = 10 then .int n1 else if i = 20 then .int n2 else if i = 30 then .int n3 else .int 0, F⟩
theorem om_0 (n0 : Int) (n1 : Int) (n2 : Int) (n3 : Int) : (om n0 n1 n2 n3).d 0 = .int n0 := rfl
theorem om_10 (n0 : Int) (n1 : Int) (n2 : Int) (n3 : Int) : (om n0 n1 n2 n3).d 10 = .int n1 := rfl
theorem om_20 (n0 : Int) (n1 : Int) (n2 : Int) (n3 : Int) : (om n0 n1 n2 n3).d 20 = .int n2 := rfl
theorem om_30 (n0 : Int) (n1 : Int) (n2 : Int) (n3 : Int) : (om n0 n1 n2 n3).d 30 = .int n3 := rfl
theorem om_f (n0 : Int) (n1 : Int) (n2 : Int) (n3 : Int) : (om n0 n1 n2 n3).f = F := rfl

abbrev c_q0 : Q := (.le (.int 0) (.fn 30 (.bi .pair (.var 0) (.int 0))))
abbrev c_q1 : Q := (.le (.int 64) (.fn 30 (.bi .pair (.var 0) (.int 0))))
abbrev c_q2 : Q := (.le (.int 0) (.fn 30 (.bi .pair (.var 10) (.int 0))))
abbrev c_q3 : Q := (.le (.int 64) (.fn 30 (.bi .pair (.var 10) (.int 0))))
abbrev c_q4 : Q := (.le (.fn 30 (.bi .pair (.var 0) (.int 0))) (.fn 30 (.bi .pair (.var 10) (.int 0))))
abbrev c_q5 : Q := (.le (.fn 30 (.bi .pair (.var 10) (.int 0))) (.fn 30 (.bi .pair (.var 0) (.int 0))))
abbrev c_q6 : Q := (.eq (.fn 30 (.bi .pair (.var 10) (.int 0))) (.fn 30 (.bi .pair (.var 0) (.int 0))))
abbrev c_q7 : Q := (.le (.int 0) (.fn 30 (.bi .pair (.var 20) (.int 0))))
abbrev c_q8 : Q := (.le (.int 64) (.fn 30 (.bi .pair (.var 20) (.int 0))))
abbrev c_q9 : Q := (.le (.int 0) (.fn 30 (.bi .pair (.var 30) (.int 0))))
abbrev c_q10 : Q := (.le (.int 64) (.fn 30 (.bi .pair (.var 30) (.int 0))))
abbrev c_q11 : Q := (.le (.fn 30 (.bi .pair (.var 20) (.int 0))) (.fn 30 (.bi .pair (.var 30) (.int 0))))
abbrev c_q12 : Q := (.le (.fn 30 (.bi .pair (.var 30) (.int 0))) (.fn 30 (.bi .pair (.var 20) (.int 0))))
abbrev c_q13 : Q := (.eq (.fn 30 (.bi .pair (.var 20) (.int 0))) (.fn 30 (.bi .pair (.var 0) (.int 0))))
abbrev c_q14 : Q := (.eq (.fn 30 (.bi .pair (.var 0) (.int 0))) (.fn 30 (.bi .pair (.var 20) (.int 0))))
abbrev c_q15 : Q := (.eq (.fn 30 (.bi .pair (.var 10) (.int 0))) (.fn 30 (.bi .pair (.var 30) (.int 0))))
abbrev c_q16 : Q := (.eq (.fn 30 (.bi .pair (.var 30) (.int 0))) (.fn 30 (.bi .pair (.var 0) (.int 0))))
abbrev c_q17 : Q := (.eq (.fn 30 (.bi .pair (.var 0) (.int 0))) (.fn 30 (.bi .pair (.var 30) (.int 0))))
abbrev c_q18 : Q := (.eq (.fn 30 (.bi .pair (.var 30) (.int 0))) (.fn 30 (.bi .pair (.var 10) (.int 0))))
abbrev c_q19 : Q := (.eq (.fn 30 (.bi .pair (.var 10) (.int 0))) (.fn 30 (.bi .pair (.var 20) (.int 0))))
abbrev c_q20 : Q := (.eq (.fn 30 (.bi .pair (.var 20) (.int 0))) (.fn 30 (.bi .pair (.var 10) (.int 0))))
abbrev c_u0 : List (Q × Bool) := [(c_q0, true), (c_q1, false), (c_q2, true), (c_q3, false), (c_q4, true), (c_q5, true), (c_q6, true), (c_q7, true), (c_q8, false), (c_q9, true), (c_q10, false), (c_q11, true), (c_q12, true), (c_q13, true), (c_q14, true), (c_q15, true)]
set_option maxRecDepth 100000 in
theorem c_y0 : yesOf Try.prog (knownV (tellA c_u0) tab specs overs) 8000 80 8 [.sint .i64 (.var 0), .sint .i64 (.var 10), .sint .i64 (.var 20), .sint .i64 (.var 30)] (globSt g0) = true := by kernel_rfl
abbrev c_u1 : List (Q × Bool) := [(c_q0, true), (c_q1, false), (c_q2, true), (c_q3, false), (c_q4, true), (c_q5, true), (c_q6, true), (c_q7, true), (c_q8, false), (c_q9, true), (c_q10, false), (c_q11, true), (c_q12, false), (c_q13, true), (c_q16, false), (c_q14, true), (c_q15, false), (c_q17, false), (c_q18, false)]
set_option maxRecDepth 100000 in
theorem c_y1 : yesOf Try.prog (knownV (tellA c_u1) tab specs overs) 8000 80 8 [.sint .i64 (.var 0), .sint .i64 (.var 10), .sint .i64 (.var 20), .sint .i64 (.var 30)] (globSt g0) = true := by kernel_rfl
abbrev c_u2 : List (Q × Bool) := [(c_q0, true), (c_q1, false), (c_q2, true), (c_q3, false), (c_q4, true), (c_q5, true), (c_q6, true), (c_q7, true), (c_q8, false), (c_q9, true), (c_q10, false), (c_q11, false), (c_q12, true), (c_q16, true), (c_q13, false), (c_q14, false), (c_q17, true), (c_q19, false), (c_q18, true)]
set_option maxRecDepth 100000 in
theorem c_y2 : yesOf Try.prog (knownV (tellA c_u2) tab specs overs) 8000 80 8 [.sint .i64 (.var 0), .sint .i64 (.var 10), .sint .i64 (.var 20), .sint .i64 (.var 30)] (globSt g0) = true := by kernel_rfl
abbrev c_u3 : List (Q × Bool) := [(c_q0, true), (c_q1, false), (c_q2, true), (c_q3, false), (c_q4, true), (c_q5, true), (c_q6, true), (c_q7, true), (c_q8, false), (c_q9, true), (c_q10, false), (c_q11, true), (c_q12, true), (c_q13, false), (c_q14, false), (c_q17, false), (c_q18, false)]
set_option maxRecDepth 100000 in
theorem c_y3 : yesOf Try.prog (knownV (tellA c_u3) tab specs overs) 8000 80 8 [.sint .i64 (.var 0), .sint .i64 (.var 10), .sint .i64 (.var 20), .sint .i64 (.var 30)] (globSt g0) = true := by kernel_rfl
abbrev c_u4 : List (Q × Bool) := [(c_q0, true), (c_q1, false), (c_q2, true), (c_q3, false), (c_q4, true), (c_q5, true), (c_q6, true), (c_q7, true), (c_q8, false), (c_q9, true), (c_q10, false), (c_q11, true), (c_q12, false), (c_q13, false), (c_q14, false), (c_q17, false), (c_q18, false)]
set_option maxRecDepth 100000 in
theorem c_y4 : yesOf Try.prog (knownV (tellA c_u4) tab specs overs) 8000 80 8 [.sint .i64 (.var 0), .sint .i64 (.var 10), .sint .i64 (.var 20), .sint .i64 (.var 30)] (globSt g0) = true := by kernel_rfl
abbrev c_u5 : List (Q × Bool) := [(c_q0, true), (c_q1, false), (c_q2, true), (c_q3, false), (c_q4, true), (c_q5, true), (c_q6, true), (c_q7, true), (c_q8, false), (c_q9, true), (c_q10, false), (c_q11, false), (c_q12, true), (c_q16, false), (c_q14, false), (c_q17, false), (c_q18, false)]
set_option maxRecDepth 100000 in
theorem c_y5 : yesOf Try.prog (knownV (tellA c_u5) tab specs overs) 8000 80 8 [.sint .i64 (.var 0), .sint .i64 (.var 10), .sint .i64 (.var 20), .sint .i64 (.var 30)] (globSt g0) = true := by kernel_rfl
abbrev c_u6 : List (Q × Bool) := [(c_q0, true), (c_q1, false), (c_q2, true), (c_q3, false), (c_q4, true), (c_q5, false), (c_q7, true), (c_q8, false), (c_q9, true), (c_q10, false), (c_q11, true), (c_q12, true), (c_q13, true), (c_q20, false), (c_q14, true), (c_q15, false), (c_q17, true), (c_q19, false), (c_q18, false)]
set_option maxRecDepth 100000 in
theorem c_y6 : yesOf Try.prog (knownV (tellA c_u6) tab specs overs) 8000 80 8 [.sint .i64 (.var 0), .sint .i64 (.var 10), .sint .i64 (.var 20), .sint .i64 (.var 30)] (globSt g0) = true := by kernel_rfl
abbrev c_u7 : List (Q × Bool) := [(c_q0, true), (c_q1, false), (c_q2, true), (c_q3, false), (c_q4, true), (c_q5, false), (c_q7, true), (c_q8, false), (c_q9, true), (c_q10, false), (c_q11, true), (c_q12, false), (c_q13, true), (c_q18, true), (c_q14, true), (c_q15, true)]
set_option maxRecDepth 100000 in
theorem c_y7 : yesOf Try.prog (knownV (tellA c_u7) tab specs overs) 8000 80 8 [.sint .i64 (.var 0), .sint .i64 (.var 10), .sint .i64 (.var 20), .sint .i64 (.var 30)] (globSt g0) = true := by kernel_rfl
abbrev c_u8 : List (Q × Bool) := [(c_q0, true), (c_q1, false), (c_q2, true), (c_q3, false), (c_q4, true), (c_q5, false), (c_q7, true), (c_q8, false), (c_q9, true), (c_q10, false), (c_q11, true), (c_q12, false), (c_q13, true), (c_q18, false), (c_q14, true), (c_q15, false), (c_q17, false)]
set_option maxRecDepth 100000 in
theorem c_y8 : yesOf Try.prog (knownV (tellA c_u8) tab specs overs) 8000 80 8 [.sint .i64 (.var 0), .sint .i64 (.var 10), .sint .i64 (.var 20), .sint .i64 (.var 30)] (globSt g0) = true := by kernel_rfl
abbrev c_u9 : List (Q × Bool) := [(c_q0, true), (c_q1, false), (c_q2, true), (c_q3, false), (c_q4, true), (c_q5, false), (c_q7, true), (c_q8, false), (c_q9, true), (c_q10, false), (c_q11, false), (c_q12, true), (c_q16, true), (c_q20, true), (c_q14, false), (c_q17, true), (c_q19, true)]
set_option maxRecDepth 100000 in
theorem c_y9 : yesOf Try.prog (knownV (tellA c_u9) tab specs overs) 8000 80 8 [.sint .i64 (.var 0), .sint .i64 (.var 10), .sint .i64 (.var 20), .sint .i64 (.var 30)] (globSt g0) = true := by kernel_rfl
abbrev c_u10 : List (Q × Bool) := [(c_q0, true), (c_q1, false), (c_q2, true), (c_q3, false), (c_q4, true), (c_q5, false), (c_q7, true), (c_q8, false), (c_q9, true), (c_q10, false), (c_q11, true), (c_q12, true), (c_q13, false), (c_q14, false), (c_q17, false), (c_q18, true)]
set_option maxRecDepth 100000 in
theorem c_y10 : yesOf Try.prog (knownV (tellA c_u10) tab specs overs) 8000 80 8 [.sint .i64 (.var 0), .sint .i64 (.var 10), .sint .i64 (.var 20), .sint .i64 (.var 30)] (globSt g0) = true := by kernel_rfl
abbrev c_u11 : List (Q × Bool) := [(c_q0, true), (c_q1, false), (c_q2, true), (c_q3, false), (c_q4, true), (c_q5, false), (c_q7, true), (c_q8, false), (c_q9, true), (c_q10, false), (c_q11, true), (c_q12, false), (c_q13, false), (c_q14, false), (c_q17, false), (c_q18, false)]
set_option maxRecDepth 100000 in
theorem c_y11 : yesOf Try.prog (knownV (tellA c_u11) tab specs overs) 8000 80 8 [.sint .i64 (.var 0), .sint .i64 (.var 10), .sint .i64 (.var 20), .sint .i64 (.var 30)] (globSt g0) = true := by kernel_rfl
abbrev c_u12 : List (Q × Bool) := [(c_q0, true), (c_q1, false), (c_q2, true), (c_q3, false), (c_q4, true), (c_q5, false), (c_q7, true), (c_q8, false), (c_q9, true), (c_q10, false), (c_q11, false), (c_q12, true), (c_q16, true), (c_q20, false), (c_q14, false), (c_q17, true), (c_q19, false), (c_q18, false)]
set_option maxRecDepth 100000 in
theorem c_y12 : yesOf Try.prog (knownV (tellA c_u12) tab specs overs) 8000 80 8 [.sint .i64 (.var 0), .sint .i64 (.var 10), .sint .i64 (.var 20), .sint .i64 (.var 30)] (globSt g0) = true := by kernel_rfl
abbrev c_u13 : List (Q × Bool) := [(c_q0, true), (c_q1, false), (c_q2, true), (c_q3, false), (c_q4, true), (c_q5, false), (c_q7, true), (c_q8, false), (c_q9, true), (c_q10, false), (c_q11, false), (c_q12, true), (c_q16, false), (c_q14, false), (c_q17, false), (c_q18, true)]
set_option maxRecDepth 100000 in
theorem c_y13 : yesOf Try.prog (knownV (tellA c_u13) tab specs overs) 8000 80 8 [.sint .i64 (.var 0), .sint .i64 (.var 10), .sint .i64 (.var 20), .sint .i64 (.var 30)] (globSt g0) = true := by kernel_rfl
abbrev c_u14 : List (Q × Bool) := [(c_q0, true), (c_q1, false), (c_q2, true), (c_q3, false), (c_q4, true), (c_q5, false), (c_q7, true), (c_q8, false), (c_q9, true), (c_q10, false), (c_q11, true), (c_q12, true), (c_q13, false), (c_q14, false), (c_q17, false), (c_q18, false)]
set_option maxRecDepth 100000 in
theorem c_y14 : yesOf Try.prog (knownV (tellA c_u14) tab specs overs) 8000 80 8 [.sint .i64 (.var 0), .sint .i64 (.var 10), .sint .i64 (.var 20), .sint .i64 (.var 30)] (globSt g0) = true := by kernel_rfl
abbrev c_u15 : List (Q × Bool) := [(c_q0, true), (c_q1, false), (c_q2, true), (c_q3, false), (c_q4, true), (c_q5, false), (c_q7, true), (c_q8, false), (c_q9, true), (c_q10, false), (c_q11, false), (c_q12, true), (c_q16, false), (c_q14, false), (c_q17, false), (c_q18, false)]
set_option maxRecDepth 100000 in
theorem c_y15 : yesOf Try.prog (knownV (tellA c_u15) tab specs overs) 8000 80 8 [.sint .i64 (.var 0), .sint .i64 (.var 10), .sint .i64 (.var 20), .sint .i64 (.var 30)] (globSt g0) = true := by kernel_rfl
abbrev c_u16 : List (Q × Bool) := [(c_q0, true), (c_q1, false), (c_q2, true), (c_q3, false), (c_q4, true), (c_q5, false), (c_q7, true), (c_q8, false), (c_q9, true), (c_q10, false), (c_q11, true), (c_q12, false), (c_q13, false), (c_q14, false), (c_q17, false), (c_q18, true)]
set_option maxRecDepth 100000 in
theorem c_y16 : yesOf Try.prog (knownV (tellA c_u16) tab specs overs) 8000 80 8 [.sint .i64 (.var 0), .sint .i64 (.var 10), .sint .i64 (.var 20), .sint .i64 (.var 30)] (globSt g0) = true := by kernel_rfl
abbrev c_u17 : List (Q × Bool) := [(c_q0, true), (c_q1, false), (c_q2, true), (c_q3, false), (c_q4, false), (c_q5, true), (c_q7, true), (c_q8, false), (c_q9, true), (c_q10, false), (c_q11, true), (c_q12, true), (c_q20, true), (c_q13, false), (c_q14, false), (c_q17, false), (c_q18, true)]
set_option maxRecDepth 100000 in
theorem c_y17 : yesOf Try.prog (knownV (tellA c_u17) tab specs overs) 8000 80 8 [.sint .i64 (.var 0), .sint .i64 (.var 10), .sint .i64 (.var 20), .sint .i64 (.var 30)] (globSt g0) = true := by kernel_rfl
abbrev c_u18 : List (Q × Bool) := [(c_q0, true), (c_q1, false), (c_q2, true), (c_q3, false), (c_q4, false), (c_q5, true), (c_q7, true), (c_q8, false), (c_q9, true), (c_q10, false), (c_q11, true), (c_q12, false), (c_q20, true), (c_q16, true), (c_q14, false), (c_q17, true), (c_q19, true)]
set_option maxRecDepth 100000 in
theorem c_y18 : yesOf Try.prog (knownV (tellA c_u18) tab specs overs) 8000 80 8 [.sint .i64 (.var 0), .sint .i64 (.var 10), .sint .i64 (.var 20), .sint .i64 (.var 30)] (globSt g0) = true := by kernel_rfl
abbrev c_u19 : List (Q × Bool) := [(c_q0, true), (c_q1, false), (c_q2, true), (c_q3, false), (c_q4, false), (c_q5, true), (c_q7, true), (c_q8, false), (c_q9, true), (c_q10, false), (c_q11, true), (c_q12, false), (c_q20, true), (c_q16, false), (c_q14, false), (c_q17, false), (c_q18, false)]
set_option maxRecDepth 100000 in
theorem c_y19 : yesOf Try.prog (knownV (tellA c_u19) tab specs overs) 8000 80 8 [.sint .i64 (.var 0), .sint .i64 (.var 10), .sint .i64 (.var 20), .sint .i64 (.var 30)] (globSt g0) = true := by kernel_rfl
abbrev c_u20 : List (Q × Bool) := [(c_q0, true), (c_q1, false), (c_q2, true), (c_q3, false), (c_q4, false), (c_q5, true), (c_q7, true), (c_q8, false), (c_q9, true), (c_q10, false), (c_q11, false), (c_q12, true), (c_q18, true), (c_q13, true), (c_q14, true), (c_q15, true)]
set_option maxRecDepth 100000 in
theorem c_y20 : yesOf Try.prog (knownV (tellA c_u20) tab specs overs) 8000 80 8 [.sint .i64 (.var 0), .sint .i64 (.var 10), .sint .i64 (.var 20), .sint .i64 (.var 30)] (globSt g0) = true := by kernel_rfl
abbrev c_u21 : List (Q × Bool) := [(c_q0, true), (c_q1, false), (c_q2, true), (c_q3, false), (c_q4, false), (c_q5, true), (c_q7, true), (c_q8, false), (c_q9, true), (c_q10, false), (c_q11, true), (c_q12, true), (c_q20, false), (c_q14, true), (c_q15, false), (c_q17, true), (c_q19, false), (c_q18, false)]
set_option maxRecDepth 100000 in
theorem c_y21 : yesOf Try.prog (knownV (tellA c_u21) tab specs overs) 8000 80 8 [.sint .i64 (.var 0), .sint .i64 (.var 10), .sint .i64 (.var 20), .sint .i64 (.var 30)] (globSt g0) = true := by kernel_rfl
abbrev c_u22 : List (Q × Bool) := [(c_q0, true), (c_q1, false), (c_q2, true), (c_q3, false), (c_q4, false), (c_q5, true), (c_q7, true), (c_q8, false), (c_q9, true), (c_q10, false), (c_q11, true), (c_q12, false), (c_q20, false), (c_q14, true), (c_q15, false), (c_q17, false), (c_q18, false)]
set_option maxRecDepth 100000 in
theorem c_y22 : yesOf Try.prog (knownV (tellA c_u22) tab specs overs) 8000 80 8 [.sint .i64 (.var 0), .sint .i64 (.var 10), .sint .i64 (.var 20), .sint .i64 (.var 30)] (globSt g0) = true := by kernel_rfl
abbrev c_u23 : List (Q × Bool) := [(c_q0, true), (c_q1, false), (c_q2, true), (c_q3, false), (c_q4, false), (c_q5, true), (c_q7, true), (c_q8, false), (c_q9, true), (c_q10, false), (c_q11, false), (c_q12, true), (c_q18, true), (c_q13, false), (c_q14, false), (c_q17, false)]
set_option maxRecDepth 100000 in
theorem c_y23 : yesOf Try.prog (knownV (tellA c_u23) tab specs overs) 8000 80 8 [.sint .i64 (.var 0), .sint .i64 (.var 10), .sint .i64 (.var 20), .sint .i64 (.var 30)] (globSt g0) = true := by kernel_rfl
abbrev c_u24 : List (Q × Bool) := [(c_q0, true), (c_q1, false), (c_q2, true), (c_q3, false), (c_q4, false), (c_q5, true), (c_q7, true), (c_q8, false), (c_q9, true), (c_q10, false), (c_q11, false), (c_q12, true), (c_q18, false), (c_q14, false), (c_q17, true), (c_q19, false)]
set_option maxRecDepth 100000 in
theorem c_y24 : yesOf Try.prog (knownV (tellA c_u24) tab specs overs) 8000 80 8 [.sint .i64 (.var 0), .sint .i64 (.var 10), .sint .i64 (.var 20), .sint .i64 (.var 30)] (globSt g0) = true := by kernel_rfl
abbrev c_u25 : List (Q × Bool) := [(c_q0, true), (c_q1, false), (c_q2, true), (c_q3, false), (c_q4, false), (c_q5, true), (c_q7, true), (c_q8, false), (c_q9, true), (c_q10, false), (c_q11, true), (c_q12, true), (c_q20, false), (c_q14, false), (c_q17, false), (c_q18, false)]
set_option maxRecDepth 100000 in
theorem c_y25 : yesOf Try.prog (knownV (tellA c_u25) tab specs overs) 8000 80 8 [.sint .i64 (.var 0), .sint .i64 (.var 10), .sint .i64 (.var 20), .sint .i64 (.var 30)] (globSt g0) = true := by kernel_rfl
abbrev c_u26 : List (Q × Bool) := [(c_q0, true), (c_q1, false), (c_q2, true), (c_q3, false), (c_q4, false), (c_q5, true), (c_q7, true), (c_q8, false), (c_q9, true), (c_q10, false), (c_q11, true), (c_q12, false), (c_q20, false), (c_q14, false), (c_q17, false), (c_q18, false)]
set_option maxRecDepth 100000 in
theorem c_y26 : yesOf Try.prog (knownV (tellA c_u26) tab specs overs) 8000 80 8 [.sint .i64 (.var 0), .sint .i64 (.var 10), .sint .i64 (.var 20), .sint .i64 (.var 30)] (globSt g0) = true := by kernel_rfl
abbrev c_u27 : List (Q × Bool) := [(c_q0, true), (c_q1, false), (c_q2, true), (c_q3, false), (c_q4, false), (c_q5, true), (c_q7, true), (c_q8, false), (c_q9, true), (c_q10, false), (c_q11, false), (c_q12, true), (c_q18, false), (c_q14, false), (c_q17, false)]
set_option maxRecDepth 100000 in
theorem c_y27 : yesOf Try.prog (knownV (tellA c_u27) tab specs overs) 8000 80 8 [.sint .i64 (.var 0), .sint .i64 (.var 10), .sint .i64 (.var 20), .sint .i64 (.var 30)] (globSt g0) = true := by kernel_rfl
abbrev c_u28 : List (Q × Bool) := [(c_q0, true), (c_q1, false), (c_q2, true), (c_q3, false), (c_q4, true), (c_q5, true), (c_q6, true), (c_q7, true), (c_q8, false), (c_q9, true), (c_q10, false), (c_q11, true), (c_q12, false), (c_q13, false), (c_q14, false), (c_q17, true), (c_q19, false), (c_q18, true)]
set_option maxRecDepth 100000 in
theorem c_y28 : yesOf Try.prog (knownV (tellA c_u28) tab specs overs) 8000 80 8 [.sint .i64 (.var 0), .sint .i64 (.var 10), .sint .i64 (.var 20), .sint .i64 (.var 30)] (globSt g0) = true := by kernel_rfl
abbrev c_u29 : List (Q × Bool) := [(c_q0, true), (c_q1, false), (c_q2, true), (c_q3, false), (c_q4, true), (c_q5, true), (c_q6, true), (c_q7, true), (c_q8, false), (c_q9, true), (c_q10, false), (c_q11, false), (c_q12, true), (c_q16, false), (c_q14, true), (c_q15, false), (c_q17, false), (c_q18, false)]
set_option maxRecDepth 100000 in
theorem c_y29 : yesOf Try.prog (knownV (tellA c_u29) tab specs overs) 8000 80 8 [.sint .i64 (.var 0), .sint .i64 (.var 10), .sint .i64 (.var 20), .sint .i64 (.var 30)] (globSt g0) = true := by kernel_rfl
abbrev c_u30 : List (Q × Bool) := [(c_q0, true), (c_q1, false), (c_q2, true), (c_q3, false), (c_q4, true), (c_q5, false), (c_q7, true), (c_q8, false), (c_q9, true), (c_q10, false), (c_q11, true), (c_q12, false), (c_q13, false), (c_q14, false), (c_q17, true), (c_q19, false), (c_q18, false)]
set_option maxRecDepth 100000 in
theorem c_y30 : yesOf Try.prog (knownV (tellA c_u30) tab specs overs) 8000 80 8 [.sint .i64 (.var 0), .sint .i64 (.var 10), .sint .i64 (.var 20), .sint .i64 (.var 30)] (globSt g0) = true := by kernel_rfl
abbrev c_u31 : List (Q × Bool) := [(c_q0, true), (c_q1, false), (c_q2, true), (c_q3, false), (c_q4, true), (c_q5, false), (c_q7, true), (c_q8, false), (c_q9, true), (c_q10, false), (c_q11, false), (c_q12, true), (c_q16, false), (c_q14, true), (c_q15, false), (c_q17, false), (c_q18, false)]
set_option maxRecDepth 100000 in
theorem c_y31 : yesOf Try.prog (knownV (tellA c_u31) tab specs overs) 8000 80 8 [.sint .i64 (.var 0), .sint .i64 (.var 10), .sint .i64 (.var 20), .sint .i64 (.var 30)] (globSt g0) = true := by kernel_rfl
abbrev c_u32 : List (Q × Bool) := [(c_q0, true), (c_q1, false), (c_q2, true), (c_q3, false), (c_q4, false), (c_q5, true), (c_q7, true), (c_q8, false), (c_q9, true), (c_q10, false), (c_q11, true), (c_q12, false), (c_q20, false), (c_q14, false), (c_q17, true), (c_q19, false), (c_q18, false)]
set_option maxRecDepth 100000 in
theorem c_y32 : yesOf Try.prog (knownV (tellA c_u32) tab specs overs) 8000 80 8 [.sint .i64 (.var 0), .sint .i64 (.var 10), .sint .i64 (.var 20), .sint .i64 (.var 30)] (globSt g0) = true := by kernel_rfl
abbrev c_u33 : List (Q × Bool) := [(c_q0, true), (c_q1, false), (c_q2, true), (c_q3, false), (c_q4, false), (c_q5, true), (c_q7, true), (c_q8, false), (c_q9, true), (c_q10, false), (c_q11, false), (c_q12, true), (c_q18, false), (c_q14, true), (c_q15, false), (c_q17, false)]
set_option maxRecDepth 100000 in
theorem c_y33 : yesOf Try.prog (knownV (tellA c_u33) tab specs overs) 8000 80 8 [.sint .i64 (.var 0), .sint .i64 (.var 10), .sint .i64 (.var 20), .sint .i64 (.var 30)] (globSt g0) = true := by kernel_rfl
abbrev c_u34 : List (Q × Bool) := [(c_q0, true), (c_q1, false), (c_q2, true), (c_q3, false), (c_q4, false), (c_q5, true), (c_q7, true), (c_q8, false), (c_q9, true), (c_q10, false), (c_q11, true), (c_q12, false), (c_q20, false), (c_q14, false), (c_q17, false), (c_q18, true)]
set_option maxRecDepth 100000 in
theorem c_y34 : yesOf Try.prog (knownV (tellA c_u34) tab specs overs) 8000 80 8 [.sint .i64 (.var 0), .sint .i64 (.var 10), .sint .i64 (.var 20), .sint .i64 (.var 30)] (globSt g0) = true := by kernel_rfl
set_option maxRecDepth 100000 in
set_option maxHeartbeats 6000000 in
theorem c_walk {W : World} {n0 : Int} (hn0 : inK .i64 n0) {n1 : Int} (hn1 : inK .i64 n1) {n2 : Int} (hn2 : inK .i64 n2) {n3 : Int} (hn3 : inK .i64 n3) (hG : GlobsR (om n0 n1 n2 n3) W g0) : Calls Try.prog 8 #[.int .i64 n0, .int .i64 n1, .int .i64 n2, .int .i64 n3] W fun e w' => e = .returned (.bool true) ∧ Below W.heap.size W w' := by
  have r0 := Rel.globs (om n0 n1 n2 n3) W g0 hG
  have hargs : VRs (Env.none (om n0 n1 n2 n3)) [.sint .i64 (.var 0), .sint .i64 (.var 10), .sint .i64 (.var 20), .sint .i64 (.var 30)] [.int .i64 n0, .int .i64 n1, .int .i64 n2, .int .i64 n3] := VRs_cons (vr_sint (i := 0) hn0 (by rw [r0.opq]; rfl)) (VRs_cons (vr_sint (i := 10) hn1 (by rw [r0.opq]; rfl)) (VRs_cons (vr_sint (i := 20) hn2 (by rw [r0.opq]; rfl)) (VRs_cons (vr_sint (i := 30) hn3 (by rw [r0.opq]; rfl)) (VRs_nil))))
  simp only [inK, i64min, i64max, u8min, u8max, u32min, u32max, u64min, u64max] at hn0
  simp only [inK, i64min, i64max, u8min, u8max, u32min, u32max, u64min, u64max] at hn1
  simp only [inK, i64min, i64max, u8min, u8max, u32min, u32max, u64min, u64max] at hn2
  simp only [inK, i64min, i64max, u8min, u8max, u32min, u32max, u64min, u64max] at hn3
  have h0 : Q.val (om n0 n1 n2 n3) c_q0 = true := (Q.holds'_iff _ _ _).1 (by
    simp only [c_q0, om_0, om_10, om_20, om_30, om_f, F30, allTold', dutiesTold, factsA, factsC, factsP, factsR, AV.facts, RW.facts, inK, and_true, Q.holds', E.i, E.s, E.n, D.nat, E.den, BO.den, UO.den, TO.den, D.toInt_int, D.toList_list, D.ints_ofInts, i64min, i64max, u8min, u8max, u16min, u16max, u32min, u32max, u64min, u64max, i32min, i32max, Om.sub, selI, ints_app, ints_cut, ints_upd, ints_rep, ints_splice, ints_seg, len_ints]
    all_goals (first | omega | trivial))
  have p0 := (Q.holds'_iff _ _ _).2 h0
  try (
    simp only [c_q0, om_0, om_10, om_20, om_30, om_f, F30, allTold', dutiesTold, factsA, factsC, factsP, factsR, AV.facts, RW.facts, inK, and_true, Q.holds', E.i, E.s, E.n, D.nat, E.den, BO.den, UO.den, TO.den, D.toInt_int, D.toList_list, D.ints_ofInts, i64min, i64max, u8min, u8max, u16min, u16max, u32min, u32max, u64min, u64max, i32min, i32max, Om.sub, selI, ints_app, ints_cut, ints_upd, ints_rep, ints_splice, ints_seg, len_ints] at p0)
  have h1 : Q.val (om n0 n1 n2 n3) c_q1 = false := (Q.holds'_iff _ _ _).1 (by
    simp only [c_q1, om_0, om_10, om_20, om_30, om_f, F30, allTold', dutiesTold, factsA, factsC, factsP, factsR, AV.facts, RW.facts, inK, and_true, Q.holds', E.i, E.s, E.n, D.nat, E.den, BO.den, UO.den, TO.den, D.toInt_int, D.toList_list, D.ints_ofInts, i64min, i64max, u8min, u8max, u16min, u16max, u32min, u32max, u64min, u64max, i32min, i32max, Om.sub, selI, ints_app, ints_cut, ints_upd, ints_rep, ints_splice, ints_seg, len_ints]
    all_goals (first | omega | trivial))
  have p1 := (Q.holds'_iff _ _ _).2 h1
  try (
    simp only [c_q1, om_0, om_10, om_20, om_30, om_f, F30, allTold', dutiesTold, factsA, factsC, factsP, factsR, AV.facts, RW.facts, inK, and_true, Q.holds', E.i, E.s, E.n, D.nat, E.den, BO.den, UO.den, TO.den, D.toInt_int, D.toList_list, D.ints_ofInts, i64min, i64max, u8min, u8max, u16min, u16max, u32min, u32max, u64min, u64max, i32min, i32max, Om.sub, selI, ints_app, ints_cut, ints_upd, ints_rep, ints_splice, ints_seg, len_ints] at p1)
  have h2 : Q.val (om n0 n1 n2 n3) c_q2 = true := (Q.holds'_iff _ _ _).1 (by
    simp only [c_q2, om_0, om_10, om_20, om_30, om_f, F30, allTold', dutiesTold, factsA, factsC, factsP, factsR, AV.facts, RW.facts, inK, and_true, Q.holds', E.i, E.s, E.n, D.nat, E.den, BO.den, UO.den, TO.den, D.toInt_int, D.toList_list, D.ints_ofInts, i64min, i64max, u8min, u8max, u16min, u16max, u32min, u32max, u64min, u64max, i32min, i32max, Om.sub, selI, ints_app, ints_cut, ints_upd, ints_rep, ints_splice, ints_seg, len_ints]
    all_goals (first | omega | trivial))
  have p2 := (Q.holds'_iff _ _ _).2 h2
  try (
    simp only [c_q2, om_0, om_10, om_20, om_30, om_f, F30, allTold', dutiesTold, factsA, factsC, factsP, factsR, AV.facts, RW.facts, inK, and_true, Q.holds', E.i, E.s, E.n, D.nat, E.den, BO.den, UO.den, TO.den, D.toInt_int, D.toList_list, D.ints_ofInts, i64min, i64max, u8min, u8max, u16min, u16max, u32min, u32max, u64min, u64max, i32min, i32max, Om.sub, selI, ints_app, ints_cut, ints_upd, ints_rep, ints_splice, ints_seg, len_ints] at p2)
  have h3 : Q.val (om n0 n1 n2 n3) c_q3 = false := (Q.holds'_iff _ _ _).1 (by
    simp only [c_q3, om_0, om_10, om_20, om_30, om_f, F30, allTold', dutiesTold, factsA, factsC, factsP, factsR, AV.facts, RW.facts, inK, and_true, Q.holds', E.i, E.s, E.n, D.nat, E.den, BO.den, UO.den, TO.den, D.toInt_int, D.toList_list, D.ints_ofInts, i64min, i64max, u8min, u8max, u16min, u16max, u32min, u32max, u64min, u64max, i32min, i32max, Om.sub, selI, ints_app, ints_cut, ints_upd, ints_rep, ints_splice, ints_seg, len_ints]
    all_goals (first | omega | trivial))
  have p3 := (Q.holds'_iff _ _ _).2 h3
  try (
    simp only [c_q3, om_0, om_10, om_20, om_30, om_f, F30, allTold', dutiesTold, factsA, factsC, factsP, factsR, AV.facts, RW.facts, inK, and_true, Q.holds', E.i, E.s, E.n, D.nat, E.den, BO.den, UO.den, TO.den, D.toInt_int, D.toList_list, D.ints_ofInts, i64min, i64max, u8min, u8max, u16min, u16max, u32min, u32max, u64min, u64max, i32min, i32max, Om.sub, selI, ints_app, ints_cut, ints_upd, ints_rep, ints_splice, ints_seg, len_ints] at p3)
  cases h4 : Q.val (om n0 n1 n2 n3) c_q4
  · have p4 := (Q.holds'_iff _ _ _).2 h4
    simp only [c_q4, om_0, om_10, om_20, om_30, om_f, F30, allTold', dutiesTold, factsA, factsC, factsP, factsR, AV.facts, RW.facts, inK, and_true, Q.holds', E.i, E.s, E.n, D.nat, E.den, BO.den, UO.den, TO.den, D.toInt_int, D.toList_list, D.ints_ofInts, i64min, i64max, u8min, u8max, u16min, u16max, u32min, u32max, u64min, u64max, i32min, i32max, Om.sub, selI, ints_app, ints_cut, ints_upd, ints_rep, ints_splice, ints_seg, len_ints] at p4
    have h5 : Q.val (om n0 n1 n2 n3) c_q5 = true := (Q.holds'_iff _ _ _).1 (by
      simp only [c_q5, om_0, om_10, om_20, om_30, om_f, F30, allTold', dutiesTold, factsA, factsC, factsP, factsR, AV.facts, RW.facts, inK, and_true, Q.holds', E.i, E.s, E.n, D.nat, E.den, BO.den, UO.den, TO.den, D.toInt_int, D.toList_list, D.ints_ofInts, i64min, i64max, u8min, u8max, u16min, u16max, u32min, u32max, u64min, u64max, i32min, i32max, Om.sub, selI, ints_app, ints_cut, ints_upd, ints_rep, ints_splice, ints_seg, len_ints]
      all_goals (first | omega | trivial))
    have p5 := (Q.holds'_iff _ _ _).2 h5
    try (
      simp only [c_q5, om_0, om_10, om_20, om_30, om_f, F30, allTold', dutiesTold, factsA, factsC, factsP, factsR, AV.facts, RW.facts, inK, and_true, Q.holds', E.i, E.s, E.n, D.nat, E.den, BO.den, UO.den, TO.den, D.toInt_int, D.toList_list, D.ints_ofInts, i64min, i64max, u8min, u8max, u16min, u16max, u32min, u32max, u64min, u64max, i32min, i32max, Om.sub, selI, ints_app, ints_cut, ints_upd, ints_rep, ints_splice, ints_seg, len_ints] at p5)
    have h6 : Q.val (om n0 n1 n2 n3) c_q7 = true := (Q.holds'_iff _ _ _).1 (by
      simp only [c_q7, om_0, om_10, om_20, om_30, om_f, F30, allTold', dutiesTold, factsA, factsC, factsP, factsR, AV.facts, RW.facts, inK, and_true, Q.holds', E.i, E.s, E.n, D.nat, E.den, BO.den, UO.den, TO.den, D.toInt_int, D.toList_list, D.ints_ofInts, i64min, i64max, u8min, u8max, u16min, u16max, u32min, u32max, u64min, u64max, i32min, i32max, Om.sub, selI, ints_app, ints_cut, ints_upd, ints_rep, ints_splice, ints_seg, len_ints]
      all_goals (first | omega | trivial))
    have p6 := (Q.holds'_iff _ _ _).2 h6
    try (
      simp only [c_q7, om_0, om_10, om_20, om_30, om_f, F30, allTold', dutiesTold, factsA, factsC, factsP, factsR, AV.facts, RW.facts, inK, and_true, Q.holds', E.i, E.s, E.n, D.nat, E.den, BO.den, UO.den, TO.den, D.toInt_int, D.toList_list, D.ints_ofInts, i64min, i64max, u8min, u8max, u16min, u16max, u32min, u32max, u64min, u64max, i32min, i32max, Om.sub, selI, ints_app, ints_cut, ints_upd, ints_rep, ints_splice, ints_seg, len_ints] at p6)
    have h7 : Q.val (om n0 n1 n2 n3) c_q8 = false := (Q.holds'_iff _ _ _).1 (by
      simp only [c_q8, om_0, om_10, om_20, om_30, om_f, F30, allTold', dutiesTold, factsA, factsC, factsP, factsR, AV.facts, RW.facts, inK, and_true, Q.holds', E.i, E.s, E.n, D.nat, E.den, BO.den, UO.den, TO.den, D.toInt_int, D.toList_list, D.ints_ofInts, i64min, i64max, u8min, u8max, u16min, u16max, u32min, u32max, u64min, u64max, i32min, i32max, Om.sub, selI, ints_app, ints_cut, ints_upd, ints_rep, ints_splice, ints_seg, len_ints]
      all_goals (first | omega | trivial))
    have p7 := (Q.holds'_iff _ _ _).2 h7
    try (
      simp only [c_q8, om_0, om_10, om_20, om_30, om_f, F30, allTold', dutiesTold, factsA, factsC, factsP, factsR, AV.facts, RW.facts, inK, and_true, Q.holds', E.i, E.s, E.n, D.nat, E.den, BO.den, UO.den, TO.den, D.toInt_int, D.toList_list, D.ints_ofInts, i64min, i64max, u8min, u8max, u16min, u16max, u32min, u32max, u64min, u64max, i32min, i32max, Om.sub, selI, ints_app, ints_cut, ints_upd, ints_rep, ints_splice, ints_seg, len_ints] at p7)
    have h8 : Q.val (om n0 n1 n2 n3) c_q9 = true := (Q.holds'_iff _ _ _).1 (by
      simp only [c_q9, om_0, om_10, om_20, om_30, om_f, F30, allTold', dutiesTold, factsA, factsC, factsP, factsR, AV.facts, RW.facts, inK, and_true, Q.holds', E.i, E.s, E.n, D.nat, E.den, BO.den, UO.den, TO.den, D.toInt_int, D.toList_list, D.ints_ofInts, i64min, i64max, u8min, u8max, u16min, u16max, u32min, u32max, u64min, u64max, i32min, i32max, Om.sub, selI, ints_app, ints_cut, ints_upd, ints_rep, ints_splice, ints_seg, len_ints]
      all_goals (first | omega | trivial))
    have p8 := (Q.holds'_iff _ _ _).2 h8
    try (
      simp only [c_q9, om_0, om_10, om_20, om_30, om_f, F30, allTold', dutiesTold, factsA, factsC, factsP, factsR, AV.facts, RW.facts, inK, and_true, Q.holds', E.i, E.s, E.n, D.nat, E.den, BO.den, UO.den, TO.den, D.toInt_int, D.toList_list, D.ints_ofInts, i64min, i64max, u8min, u8max, u16min, u16max, u32min, u32max, u64min, u64max, i32min, i32max, Om.sub, selI, ints_app, ints_cut, ints_upd, ints_rep, ints_splice, ints_seg, len_ints] at p8)
    have h9 : Q.val (om n0 n1 n2 n3) c_q10 = false := (Q.holds'_iff _ _ _).1 (by
      simp only [c_q10, om_0, om_10, om_20, om_30, om_f, F30, allTold', dutiesTold, factsA, factsC, factsP, factsR, AV.facts, RW.facts, inK, and_true, Q.holds', E.i, E.s, E.n, D.nat, E.den, BO.den, UO.den, TO.den, D.toInt_int, D.toList_list, D.ints_ofInts, i64min, i64max, u8min, u8max, u16min, u16max, u32min, u32max, u64min, u64max, i32min, i32max, Om.sub, selI, ints_app, ints_cut, ints_upd, ints_rep, ints_splice, ints_seg, len_ints]
      all_goals (first | omega | trivial))
    have p9 := (Q.holds'_iff _ _ _).2 h9
    try (
      simp only [c_q10, om_0, om_10, om_20, om_30, om_f, F30, allTold', dutiesTold, factsA, factsC, factsP, factsR, AV.facts, RW.facts, inK, and_true, Q.holds', E.i, E.s, E.n, D.nat, E.den, BO.den, UO.den, TO.den, D.toInt_int, D.toList_list, D.ints_ofInts, i64min, i64max, u8min, u8max, u16min, u16max, u32min, u32max, u64min, u64max, i32min, i32max, Om.sub, selI, ints_app, ints_cut, ints_upd, ints_rep, ints_splice, ints_seg, len_ints] at p9)
    cases h10 : Q.val (om n0 n1 n2 n3) c_q11
    · have p10 := (Q.holds'_iff _ _ _).2 h10
      simp only [c_q11, om_0, om_10, om_20, om_30, om_f, F30, allTold', dutiesTold, factsA, factsC, factsP, factsR, AV.facts, RW.facts, inK, and_true, Q.holds', E.i, E.s, E.n, D.nat, E.den, BO.den, UO.den, TO.den, D.toInt_int, D.toList_list, D.ints_ofInts, i64min, i64max, u8min, u8max, u16min, u16max, u32min, u32max, u64min, u64max, i32min, i32max, Om.sub, selI, ints_app, ints_cut, ints_upd, ints_rep, ints_splice, ints_seg, len_ints] at p10
      have h11 : Q.val (om n0 n1 n2 n3) c_q12 = true := (Q.holds'_iff _ _ _).1 (by
        simp only [c_q12, om_0, om_10, om_20, om_30, om_f, F30, allTold', dutiesTold, factsA, factsC, factsP, factsR, AV.facts, RW.facts, inK, and_true, Q.holds', E.i, E.s, E.n, D.nat, E.den, BO.den, UO.den, TO.den, D.toInt_int, D.toList_list, D.ints_ofInts, i64min, i64max, u8min, u8max, u16min, u16max, u32min, u32max, u64min, u64max, i32min, i32max, Om.sub, selI, ints_app, ints_cut, ints_upd, ints_rep, ints_splice, ints_seg, len_ints]
        all_goals (first | omega | trivial))
      have p11 := (Q.holds'_iff _ _ _).2 h11
      try (
        simp only [c_q12, om_0, om_10, om_20, om_30, om_f, F30, allTold', dutiesTold, factsA, factsC, factsP, factsR, AV.facts, RW.facts, inK, and_true, Q.holds', E.i, E.s, E.n, D.nat, E.den, BO.den, UO.den, TO.den, D.toInt_int, D.toList_list, D.ints_ofInts, i64min, i64max, u8min, u8max, u16min, u16max, u32min, u32max, u64min, u64max, i32min, i32max, Om.sub, selI, ints_app, ints_cut, ints_upd, ints_rep, ints_splice, ints_seg, len_ints] at p11)
      cases h12 : Q.val (om n0 n1 n2 n3) c_q18
      · have p12 := (Q.holds'_iff _ _ _).2 h12
        simp only [c_q18, om_0, om_10, om_20, om_30, om_f, F30, allTold', dutiesTold, factsA, factsC, factsP, factsR, AV.facts, RW.facts, inK, and_true, Q.holds', E.i, E.s, E.n, D.nat, E.den, BO.den, UO.den, TO.den, D.toInt_int, D.toList_list, D.ints_ofInts, i64min, i64max, u8min, u8max, u16min, u16max, u32min, u32max, u64min, u64max, i32min, i32max, Om.sub, selI, ints_app, ints_cut, ints_upd, ints_rep, ints_splice, ints_seg, len_ints] at p12
        cases h13 : Q.val (om n0 n1 n2 n3) c_q14
        · have p13 := (Q.holds'_iff _ _ _).2 h13
          simp only [c_q14, om_0, om_10, om_20, om_30, om_f, F30, allTold', dutiesTold, factsA, factsC, factsP, factsR, AV.facts, RW.facts, inK, and_true, Q.holds', E.i, E.s, E.n, D.nat, E.den, BO.den, UO.den, TO.den, D.toInt_int, D.toList_list, D.ints_ofInts, i64min, i64max, u8min, u8max, u16min, u16max, u32min, u32max, u64min, u64max, i32min, i32max, Om.sub, selI, ints_app, ints_cut, ints_upd, ints_rep, ints_splice, ints_seg, len_ints] at p13
          cases h14 : Q.val (om n0 n1 n2 n3) c_q17
          · have p14 := (Q.holds'_iff _ _ _).2 h14
            simp only [c_q17, om_0, om_10, om_20, om_30, om_f, F30, allTold', dutiesTold, factsA, factsC, factsP, factsR, AV.facts, RW.facts, inK, and_true, Q.holds', E.i, E.s, E.n, D.nat, E.den, BO.den, UO.den, TO.den, D.toInt_int, D.toList_list, D.ints_ofInts, i64min, i64max, u8min, u8max, u16min, u16max, u32min, u32max, u64min, u64max, i32min, i32max, Om.sub, selI, ints_app, ints_cut, ints_upd, ints_rep, ints_splice, ints_seg, len_ints] at p14
            exact calls_of_yesV sound tab_ok specs_ok overs_ok c_y27 rfl (tellA_ok (by (repeat refine told_cons (by assumption) ?_); exact told_nil)) r0 hargs
          · have p14 := (Q.holds'_iff _ _ _).2 h14
            simp only [c_q17, om_0, om_10, om_20, om_30, om_f, F30, allTold', dutiesTold, factsA, factsC, factsP, factsR, AV.facts, RW.facts, inK, and_true, Q.holds', E.i, E.s, E.n, D.nat, E.den, BO.den, UO.den, TO.den, D.toInt_int, D.toList_list, D.ints_ofInts, i64min, i64max, u8min, u8max, u16min, u16max, u32min, u32max, u64min, u64max, i32min, i32max, Om.sub, selI, ints_app, ints_cut, ints_upd, ints_rep, ints_splice, ints_seg, len_ints] at p14
            have h15 : Q.val (om n0 n1 n2 n3) c_q19 = false := (Q.holds'_iff _ _ _).1 (by
              simp only [c_q19, om_0, om_10, om_20, om_30, om_f, F30, allTold', dutiesTold, factsA, factsC, factsP, factsR, AV.facts, RW.facts, inK, and_true, Q.holds', E.i, E.s, E.n, D.nat, E.den, BO.den, UO.den, TO.den, D.toInt_int, D.toList_list, D.ints_ofInts, i64min, i64max, u8min, u8max, u16min, u16max, u32min, u32max, u64min, u64max, i32min, i32max, Om.sub, selI, ints_app, ints_cut, ints_upd, ints_rep, ints_splice, ints_seg, len_ints]
              all_goals (first | omega | trivial))
            have p15 := (Q.holds'_iff _ _ _).2 h15
            try (
              simp only [c_q19, om_0, om_10, om_20, om_30, om_f, F30, allTold', dutiesTold, factsA, factsC, factsP, factsR, AV.facts, RW.facts, inK, and_true, Q.holds', E.i, E.s, E.n, D.nat, E.den, BO.den, UO.den, TO.den, D.toInt_int, D.toList_list, D.ints_ofInts, i64min, i64max, u8min, u8max, u16min, u16max, u32min, u32max, u64min, u64max, i32min, i32max, Om.sub, selI, ints_app, ints_cut, ints_upd, ints_rep, ints_splice, ints_seg, len_ints] at p15)
            exact calls_of_yesV sound tab_ok specs_ok overs_ok c_y24 rfl (tellA_ok (by (repeat refine told_cons (by assumption) ?_); exact told_nil)) r0 hargs
        · have p13 := (Q.holds'_iff _ _ _).2 h13
          simp only [c_q14, om_0, om_10, om_20, om_30, om_f, F30, allTold', dutiesTold, factsA, factsC, factsP, factsR, AV.facts, RW.facts, inK, and_true, Q.holds', E.i, E.s, E.n, D.nat, E.den, BO.den, UO.den, TO.den, D.toInt_int, D.toList_list, D.ints_ofInts, i64min, i64max, u8min, u8max, u16min, u16max, u32min, u32max, u64min, u64max, i32min, i32max, Om.sub, selI, ints_app, ints_cut, ints_upd, ints_rep, ints_splice, ints_seg, len_ints] at p13
          have h14 : Q.val (om n0 n1 n2 n3) c_q15 = false := (Q.holds'_iff _ _ _).1 (by
            simp only [c_q15, om_0, om_10, om_20, om_30, om_f, F30, allTold', dutiesTold, factsA, factsC, factsP, factsR, AV.facts, RW.facts, inK, and_true, Q.holds', E.i, E.s, E.n, D.nat, E.den, BO.den, UO.den, TO.den, D.toInt_int, D.toList_list, D.ints_ofInts, i64min, i64max, u8min, u8max, u16min, u16max, u32min, u32max, u64min, u64max, i32min, i32max, Om.sub, selI, ints_app, ints_cut, ints_upd, ints_rep, ints_splice, ints_seg, len_ints]
            all_goals (first | omega | trivial))
          have p14 := (Q.holds'_iff _ _ _).2 h14
          try (
            simp only [c_q15, om_0, om_10, om_20, om_30, om_f, F30, allTold', dutiesTold, factsA, factsC, factsP, factsR, AV.facts, RW.facts, inK, and_true, Q.holds', E.i, E.s, E.n, D.nat, E.den, BO.den, UO.den, TO.den, D.toInt_int, D.toList_list, D.ints_ofInts, i64min, i64max, u8min, u8max, u16min, u16max, u32min, u32max, u64min, u64max, i32min, i32max, Om.sub, selI, ints_app, ints_cut, ints_upd, ints_rep, ints_splice, ints_seg, len_ints] at p14)
          have h15 : Q.val (om n0 n1 n2 n3) c_q17 = false := (Q.holds'_iff _ _ _).1 (by
            simp only [c_q17, om_0, om_10, om_20, om_30, om_f, F30, allTold', dutiesTold, factsA, factsC, factsP, factsR, AV.facts, RW.facts, inK, and_true, Q.holds', E.i, E.s, E.n, D.nat, E.den, BO.den, UO.den, TO.den, D.toInt_int, D.toList_list, D.ints_ofInts, i64min, i64max, u8min, u8max, u16min, u16max, u32min, u32max, u64min, u64max, i32min, i32max, Om.sub, selI, ints_app, ints_cut, ints_upd, ints_rep, ints_splice, ints_seg, len_ints]
            all_goals (first | omega | trivial))
          have p15 := (Q.holds'_iff _ _ _).2 h15
          try (
            simp only [c_q17, om_0, om_10, om_20, om_30, om_f, F30, allTold', dutiesTold, factsA, factsC, factsP, factsR, AV.facts, RW.facts, inK, and_true, Q.holds', E.i, E.s, E.n, D.nat, E.den, BO.den, UO.den, TO.den, D.toInt_int, D.toList_list, D.ints_ofInts, i64min, i64max, u8min, u8max, u16min, u16max, u32min, u32max, u64min, u64max, i32min, i32max, Om.sub, selI, ints_app, ints_cut, ints_upd, ints_rep, ints_splice, ints_seg, len_ints] at p15)
          exact calls_of_yesV sound tab_ok specs_ok overs_ok c_y33 rfl (tellA_ok (by (repeat refine told_cons (by assumption) ?_); exact told_nil)) r0 hargs
      · have p12 := (Q.holds'_iff _ _ _).2 h12
        simp only [c_q18, om_0, om_10, om_20, om_30, om_f, F30, allTold', dutiesTold, factsA, factsC, factsP, factsR, AV.facts, RW.facts, inK, and_true, Q.holds', E.i, E.s, E.n, D.nat, E.den, BO.den, UO.den, TO.den, D.toInt_int, D.toList_list, D.ints_ofInts, i64min, i64max, u8min, u8max, u16min, u16max, u32min, u32max, u64min, u64max, i32min, i32max, Om.sub, selI, ints_app, ints_cut, ints_upd, ints_rep, ints_splice, ints_seg, len_ints] at p12
        cases h13 : Q.val (om n0 n1 n2 n3) c_q13
        · have p13 := (Q.holds'_iff _ _ _).2 h13
          simp only [c_q13, om_0, om_10, om_20, om_30, om_f, F30, allTold', dutiesTold, factsA, factsC, factsP, factsR, AV.facts, RW.facts, inK, and_true, Q.holds', E.i, E.s, E.n, D.nat, E.den, BO.den, UO.den, TO.den, D.toInt_int, D.toList_list, D.ints_ofInts, i64min, i64max, u8min, u8max, u16min, u16max, u32min, u32max, u64min, u64max, i32min, i32max, Om.sub, selI, ints_app, ints_cut, ints_upd, ints_rep, ints_splice, ints_seg, len_ints] at p13
          have h14 : Q.val (om n0 n1 n2 n3) c_q14 = false := (Q.holds'_iff _ _ _).1 (by
            simp only [c_q14, om_0, om_10, om_20, om_30, om_f, F30, allTold', dutiesTold, factsA, factsC, factsP, factsR, AV.facts, RW.facts, inK, and_true, Q.holds', E.i, E.s, E.n, D.nat, E.den, BO.den, UO.den, TO.den, D.toInt_int, D.toList_list, D.ints_ofInts, i64min, i64max, u8min, u8max, u16min, u16max, u32min, u32max, u64min, u64max, i32min, i32max, Om.sub, selI, ints_app, ints_cut, ints_upd, ints_rep, ints_splice, ints_seg, len_ints]
            all_goals (first | omega | trivial))
          have p14 := (Q.holds'_iff _ _ _).2 h14
          try (
            simp only [c_q14, om_0, om_10, om_20, om_30, om_f, F30, allTold', dutiesTold, factsA, factsC, factsP, factsR, AV.facts, RW.facts, inK, and_true, Q.holds', E.i, E.s, E.n, D.nat, E.den, BO.den, UO.den, TO.den, D.toInt_int, D.toList_list, D.ints_ofInts, i64min, i64max, u8min, u8max, u16min, u16max, u32min, u32max, u64min, u64max, i32min, i32max, Om.sub, selI, ints_app, ints_cut, ints_upd, ints_rep, ints_splice, ints_seg, len_ints] at p14)
          have h15 : Q.val (om n0 n1 n2 n3) c_q17 = false := (Q.holds'_iff _ _ _).1 (by
            simp only [c_q17, om_0, om_10, om_20, om_30, om_f, F30, allTold', dutiesTold, factsA, factsC, factsP, factsR, AV.facts, RW.facts, inK, and_true, Q.holds', E.i, E.s, E.n, D.nat, E.den, BO.den, UO.den, TO.den, D.toInt_int, D.toList_list, D.ints_ofInts, i64min, i64max, u8min, u8max, u16min, u16max, u32min, u32max, u64min, u64max, i32min, i32max, Om.sub, selI, ints_app, ints_cut, ints_upd, ints_rep, ints_splice, ints_seg, len_ints]
            all_goals (first | omega | trivial))
          have p15 := (Q.holds'_iff _ _ _).2 h15
          try (
            simp only [c_q17, om_0, om_10, om_20, om_30, om_f, F30, allTold', dutiesTold, factsA, factsC, factsP, factsR, AV.facts, RW.facts, inK, and_true, Q.holds', E.i, E.s, E.n, D.nat, E.den, BO.den, UO.den, TO.den, D.toInt_int, D.toList_list, D.ints_ofInts, i64min, i64max, u8min, u8max, u16min, u16max, u32min, u32max, u64min, u64max, i32min, i32max, Om.sub, selI, ints_app, ints_cut, ints_upd, ints_rep, ints_splice, ints_seg, len_ints] at p15)
          exact calls_of_yesV sound tab_ok specs_ok overs_ok c_y23 rfl (tellA_ok (by (repeat refine told_cons (by assumption) ?_); exact told_nil)) r0 hargs
        · have p13 := (Q.holds'_iff _ _ _).2 h13
          simp only [c_q13, om_0, om_10, om_20, om_30, om_f, F30, allTold', dutiesTold, factsA, factsC, factsP, factsR, AV.facts, RW.facts, inK, and_true, Q.holds', E.i, E.s, E.n, D.nat, E.den, BO.den, UO.den, TO.den, D.toInt_int, D.toList_list, D.ints_ofInts, i64min, i64max, u8min, u8max, u16min, u16max, u32min, u32max, u64min, u64max, i32min, i32max, Om.sub, selI, ints_app, ints_cut, ints_upd, ints_rep, ints_splice, ints_seg, len_ints] at p13
          have h14 : Q.val (om n0 n1 n2 n3) c_q14 = true := (Q.holds'_iff _ _ _).1 (by
            simp only [c_q14, om_0, om_10, om_20, om_30, om_f, F30, allTold', dutiesTold, factsA, factsC, factsP, factsR, AV.facts, RW.facts, inK, and_true, Q.holds', E.i, E.s, E.n, D.nat, E.den, BO.den, UO.den, TO.den, D.toInt_int, D.toList_list, D.ints_ofInts, i64min, i64max, u8min, u8max, u16min, u16max, u32min, u32max, u64min, u64max, i32min, i32max, Om.sub, selI, ints_app, ints_cut, ints_upd, ints_rep, ints_splice, ints_seg, len_ints]
            all_goals (first | omega | trivial))
          have p14 := (Q.holds'_iff _ _ _).2 h14
          try (
            simp only [c_q14, om_0, om_10, om_20, om_30, om_f, F30, allTold', dutiesTold, factsA, factsC, factsP, factsR, AV.facts, RW.facts, inK, and_true, Q.holds', E.i, E.s, E.n, D.nat, E.den, BO.den, UO.den, TO.den, D.toInt_int, D.toList_list, D.ints_ofInts, i64min, i64max, u8min, u8max, u16min, u16max, u32min, u32max, u64min, u64max, i32min, i32max, Om.sub, selI, ints_app, ints_cut, ints_upd, ints_rep, ints_splice, ints_seg, len_ints] at p14)
          have h15 : Q.val (om n0 n1 n2 n3) c_q15 = true := (Q.holds'_iff _ _ _).1 (by
            simp only [c_q15, om_0, om_10, om_20, om_30, om_f, F30, allTold', dutiesTold, factsA, factsC, factsP, factsR, AV.facts, RW.facts, inK, and_true, Q.holds', E.i, E.s, E.n, D.nat, E.den, BO.den, UO.den, TO.den, D.toInt_int, D.toList_list, D.ints_ofInts, i64min, i64max, u8min, u8max, u16min, u16max, u32min, u32max, u64min, u64max, i32min, i32max, Om.sub, selI, ints_app, ints_cut, ints_upd, ints_rep, ints_splice, ints_seg, len_ints]
            all_goals (first | omega | trivial))
          have p15 := (Q.holds'_iff _ _ _).2 h15
          try (
            simp only [c_q15, om_0, om_10, om_20, om_30, om_f, F30, allTold', dutiesTold, factsA, factsC, factsP, factsR, AV.facts, RW.facts, inK, and_true, Q.holds', E.i, E.s, E.n, D.nat, E.den, BO.den, UO.den, TO.den, D.toInt_int, D.toList_list, D.ints_ofInts, i64min, i64max, u8min, u8max, u16min, u16max, u32min, u32max, u64min, u64max, i32min, i32max, Om.sub, selI, ints_app, ints_cut, ints_upd, ints_rep, ints_splice, ints_seg, len_ints] at p15)
          exact calls_of_yesV sound tab_ok specs_ok overs_ok c_y20 rfl (tellA_ok (by (repeat refine told_cons (by assumption) ?_); exact told_nil)) r0 hargs
    · have p10 := (Q.holds'_iff _ _ _).2 h10
      simp only [c_q11, om_0, om_10, om_20, om_30, om_f, F30, allTold', dutiesTold, factsA, factsC, factsP, factsR, AV.facts, RW.facts, inK, and_true, Q.holds', E.i, E.s, E.n, D.nat, E.den, BO.den, UO.den, TO.den, D.toInt_int, D.toList_list, D.ints_ofInts, i64min, i64max, u8min, u8max, u16min, u16max, u32min, u32max, u64min, u64max, i32min, i32max, Om.sub, selI, ints_app, ints_cut, ints_upd, ints_rep, ints_splice, ints_seg, len_ints] at p10
      cases h11 : Q.val (om n0 n1 n2 n3) c_q12
      · have p11 := (Q.holds'_iff _ _ _).2 h11
        simp only [c_q12, om_0, om_10, om_20, om_30, om_f, F30, allTold', dutiesTold, factsA, factsC, factsP, factsR, AV.facts, RW.facts, inK, and_true, Q.holds', E.i, E.s, E.n, D.nat, E.den, BO.den, UO.den, TO.den, D.toInt_int, D.toList_list, D.ints_ofInts, i64min, i64max, u8min, u8max, u16min, u16max, u32min, u32max, u64min, u64max, i32min, i32max, Om.sub, selI, ints_app, ints_cut, ints_upd, ints_rep, ints_splice, ints_seg, len_ints] at p11
        cases h12 : Q.val (om n0 n1 n2 n3) c_q20
        · have p12 := (Q.holds'_iff _ _ _).2 h12
          simp only [c_q20, om_0, om_10, om_20, om_30, om_f, F30, allTold', dutiesTold, factsA, factsC, factsP, factsR, AV.facts, RW.facts, inK, and_true, Q.holds', E.i, E.s, E.n, D.nat, E.den, BO.den, UO.den, TO.den, D.toInt_int, D.toList_list, D.ints_ofInts, i64min, i64max, u8min, u8max, u16min, u16max, u32min, u32max, u64min, u64max, i32min, i32max, Om.sub, selI, ints_app, ints_cut, ints_upd, ints_rep, ints_splice, ints_seg, len_ints] at p12
          cases h13 : Q.val (om n0 n1 n2 n3) c_q14
          · have p13 := (Q.holds'_iff _ _ _).2 h13
            simp only [c_q14, om_0, om_10, om_20, om_30, om_f, F30, allTold', dutiesTold, factsA, factsC, factsP, factsR, AV.facts, RW.facts, inK, and_true, Q.holds', E.i, E.s, E.n, D.nat, E.den, BO.den, UO.den, TO.den, D.toInt_int, D.toList_list, D.ints_ofInts, i64min, i64max, u8min, u8max, u16min, u16max, u32min, u32max, u64min, u64max, i32min, i32max, Om.sub, selI, ints_app, ints_cut, ints_upd, ints_rep, ints_splice, ints_seg, len_ints] at p13
            cases h14 : Q.val (om n0 n1 n2 n3) c_q17
            · have p14 := (Q.holds'_iff _ _ _).2 h14
              simp only [c_q17, om_0, om_10, om_20, om_30, om_f, F30, allTold', dutiesTold, factsA, factsC, factsP, factsR, AV.facts, RW.facts, inK, and_true, Q.holds', E.i, E.s, E.n, D.nat, E.den, BO.den, UO.den, TO.den, D.toInt_int, D.toList_list, D.ints_ofInts, i64min, i64max, u8min, u8max, u16min, u16max, u32min, u32max, u64min, u64max, i32min, i32max, Om.sub, selI, ints_app, ints_cut, ints_upd, ints_rep, ints_splice, ints_seg, len_ints] at p14
              cases h15 : Q.val (om n0 n1 n2 n3) c_q18
              · have p15 := (Q.holds'_iff _ _ _).2 h15
                simp only [c_q18, om_0, om_10, om_20, om_30, om_f, F30, allTold', dutiesTold, factsA, factsC, factsP, factsR, AV.facts, RW.facts, inK, and_true, Q.holds', E.i, E.s, E.n, D.nat, E.den, BO.den, UO.den, TO.den, D.toInt_int, D.toList_list, D.ints_ofInts, i64min, i64max, u8min, u8max, u16min, u16max, u32min, u32max, u64min, u64max, i32min, i32max, Om.sub, selI, ints_app, ints_cut, ints_upd, ints_rep, ints_splice, ints_seg, len_ints] at p15
                exact calls_of_yesV sound tab_ok specs_ok overs_ok c_y26 rfl (tellA_ok (by (repeat refine told_cons (by assumption) ?_); exact told_nil)) r0 hargs
              · have p15 := (Q.holds'_iff _ _ _).2 h15
                simp only [c_q18, om_0, om_10, om_20, om_30, om_f, F30, allTold', dutiesTold, factsA, factsC, factsP, factsR, AV.facts, RW.facts, inK, and_true, Q.holds', E.i, E.s, E.n, D.nat, E.den, BO.den, UO.den, TO.den, D.toInt_int, D.toList_list, D.ints_ofInts, i64min, i64max, u8min, u8max, u16min, u16max, u32min, u32max, u64min, u64max, i32min, i32max, Om.sub, selI, ints_app, ints_cut, ints_upd, ints_rep, ints_splice, ints_seg, len_ints] at p15
                exact calls_of_yesV sound tab_ok specs_ok overs_ok c_y34 rfl (tellA_ok (by (repeat refine told_cons (by assumption) ?_); exact told_nil)) r0 hargs
            · have p14 := (Q.holds'_iff _ _ _).2 h14
              simp only [c_q17, om_0, om_10, om_20, om_30, om_f, F30, allTold', dutiesTold, factsA, factsC, factsP, factsR, AV.facts, RW.facts, inK, and_true, Q.holds', E.i, E.s, E.n, D.nat, E.den, BO.den, UO.den, TO.den, D.toInt_int, D.toList_list, D.ints_ofInts, i64min, i64max, u8min, u8max, u16min, u16max, u32min, u32max, u64min, u64max, i32min, i32max, Om.sub, selI, ints_app, ints_cut, ints_upd, ints_rep, ints_splice, ints_seg, len_ints] at p14
              have h15 : Q.val (om n0 n1 n2 n3) c_q19 = false := (Q.holds'_iff _ _ _).1 (by
                simp only [c_q19, om_0, om_10, om_20, om_30, om_f, F30, allTold', dutiesTold, factsA, factsC, factsP, factsR, AV.facts, RW.facts, inK, and_true, Q.holds', E.i, E.s, E.n, D.nat, E.den, BO.den, UO.den, TO.den, D.toInt_int, D.toList_list, D.ints_ofInts, i64min, i64max, u8min, u8max, u16min, u16max, u32min, u32max, u64min, u64max, i32min, i32max, Om.sub, selI, ints_app, ints_cut, ints_upd, ints_rep, ints_splice, ints_seg, len_ints]
                all_goals (first | omega | trivial))
              have p15 := (Q.holds'_iff _ _ _).2 h15
              try (
                simp only [c_q19, om_0, om_10, om_20, om_30, om_f, F30, allTold', dutiesTold, factsA, factsC, factsP, factsR, AV.facts, RW.facts, inK, and_true, Q.holds', E.i, E.s, E.n, D.nat, E.den, BO.den, UO.den, TO.den, D.toInt_int, D.toList_list, D.ints_ofInts, i64min, i64max, u8min, u8max, u16min, u16max, u32min, u32max, u64min, u64max, i32min, i32max, Om.sub, selI, ints_app, ints_cut, ints_upd, ints_rep, ints_splice, ints_seg, len_ints] at p15)
              have h16 : Q.val (om n0 n1 n2 n3) c_q18 = false := (Q.holds'_iff _ _ _).1 (by
                simp only [c_q18, om_0, om_10, om_20, om_30, om_f, F30, allTold', dutiesTold, factsA, factsC, factsP, factsR, AV.facts, RW.facts, inK, and_true, Q.holds', E.i, E.s, E.n, D.nat, E.den, BO.den, UO.den, TO.den, D.toInt_int, D.toList_list, D.ints_ofInts, i64min, i64max, u8min, u8max, u16min, u16max, u32min, u32max, u64min, u64max, i32min, i32max, Om.sub, selI, ints_app, ints_cut, ints_upd, ints_rep, ints_splice, ints_seg, len_ints]
                all_goals (first | omega | trivial))
              have p16 := (Q.holds'_iff _ _ _).2 h16
              try (
                simp only [c_q18, om_0, om_10, om_20, om_30, om_f, F30, allTold', dutiesTold, factsA, factsC, factsP, factsR, AV.facts, RW.facts, inK, and_true, Q.holds', E.i, E.s, E.n, D.nat, E.den, BO.den, UO.den, TO.den, D.toInt_int, D.toList_list, D.ints_ofInts, i64min, i64max, u8min, u8max, u16min, u16max, u32min, u32max, u64min, u64max, i32min, i32max, Om.sub, selI, ints_app, ints_cut, ints_upd, ints_rep, ints_splice, ints_seg, len_ints] at p16)
              exact calls_of_yesV sound tab_ok specs_ok overs_ok c_y32 rfl (tellA_ok (by (repeat refine told_cons (by assumption) ?_); exact told_nil)) r0 hargs
          · have p13 := (Q.holds'_iff _ _ _).2 h13
            simp only [c_q14, om_0, om_10, om_20, om_30, om_f, F30, allTold', dutiesTold, factsA, factsC, factsP, factsR, AV.facts, RW.facts, inK, and_true, Q.holds', E.i, E.s, E.n, D.nat, E.den, BO.den, UO.den, TO.den, D.toInt_int, D.toList_list, D.ints_ofInts, i64min, i64max, u8min, u8max, u16min, u16max, u32min, u32max, u64min, u64max, i32min, i32max, Om.sub, selI, ints_app, ints_cut, ints_upd, ints_rep, ints_splice, ints_seg, len_ints] at p13
            have h14 : Q.val (om n0 n1 n2 n3) c_q15 = false := (Q.holds'_iff _ _ _).1 (by
              simp only [c_q15, om_0, om_10, om_20, om_30, om_f, F30, allTold', dutiesTold, factsA, factsC, factsP, factsR, AV.facts, RW.facts, inK, and_true, Q.holds', E.i, E.s, E.n, D.nat, E.den, BO.den, UO.den, TO.den, D.toInt_int, D.toList_list, D.ints_ofInts, i64min, i64max, u8min, u8max, u16min, u16max, u32min, u32max, u64min, u64max, i32min, i32max, Om.sub, selI, ints_app, ints_cut, ints_upd, ints_rep, ints_splice, ints_seg, len_ints]
              all_goals (first | omega | trivial))
            have p14 := (Q.holds'_iff _ _ _).2 h14
            try (
              simp only [c_q15, om_0, om_10, om_20, om_30, om_f, F30, allTold', dutiesTold, factsA, factsC, factsP, factsR, AV.facts, RW.facts, inK, and_true, Q.holds', E.i, E.s, E.n, D.nat, E.den, BO.den, UO.den, TO.den, D.toInt_int, D.toList_list, D.ints_ofInts, i64min, i64max, u8min, u8max, u16min, u16max, u32min, u32max, u64min, u64max, i32min, i32max, Om.sub, selI, ints_app, ints_cut, ints_upd, ints_rep, ints_splice, ints_seg, len_ints] at p14)
            have h15 : Q.val (om n0 n1 n2 n3) c_q17 = false := (Q.holds'_iff _ _ _).1 (by
              simp only [c_q17, om_0, om_10, om_20, om_30, om_f, F30, allTold', dutiesTold, factsA, factsC, factsP, factsR, AV.facts, RW.facts, inK, and_true, Q.holds', E.i, E.s, E.n, D.nat, E.den, BO.den, UO.den, TO.den, D.toInt_int, D.toList_list, D.ints_ofInts, i64min, i64max, u8min, u8max, u16min, u16max, u32min, u32max, u64min, u64max, i32min, i32max, Om.sub, selI, ints_app, ints_cut, ints_upd, ints_rep, ints_splice, ints_seg, len_ints]
              all_goals (first | omega | trivial))
            have p15 := (Q.holds'_iff _ _ _).2 h15
            try (
              simp only [c_q17, om_0, om_10, om_20, om_30, om_f, F30, allTold', dutiesTold, factsA, factsC, factsP, factsR, AV.facts, RW.facts, inK, and_true, Q.holds', E.i, E.s, E.n, D.nat, E.den, BO.den, UO.den, TO.den, D.toInt_int, D.toList_list, D.ints_ofInts, i64min, i64max, u8min, u8max, u16min, u16max, u32min, u32max, u64min, u64max, i32min, i32max, Om.sub, selI, ints_app, ints_cut, ints_upd, ints_rep, ints_splice, ints_seg, len_ints] at p15)
            have h16 : Q.val (om n0 n1 n2 n3) c_q18 = false := (Q.holds'_iff _ _ _).1 (by
              simp only [c_q18, om_0, om_10, om_20, om_30, om_f, F30, allTold', dutiesTold, factsA, factsC, factsP, factsR, AV.facts, RW.facts, inK, and_true, Q.holds', E.i, E.s, E.n, D.nat, E.den, BO.den, UO.den, TO.den, D.toInt_int, D.toList_list, D.ints_ofInts, i64min, i64max, u8min, u8max, u16min, u16max, u32min, u32max, u64min, u64max, i32min, i32max, Om.sub, selI, ints_app, ints_cut, ints_upd, ints_rep, ints_splice, ints_seg, len_ints]
              all_goals (first | omega | trivial))
            have p16 := (Q.holds'_iff _ _ _).2 h16
            try (
              simp only [c_q18, om_0, om_10, om_20, om_30, om_f, F30, allTold', dutiesTold, factsA, factsC, factsP, factsR, AV.facts, RW.facts, inK, and_true, Q.holds', E.i, E.s, E.n, D.nat, E.den, BO.den, UO.den, TO.den, D.toInt_int, D.toList_list, D.ints_ofInts, i64min, i64max, u8min, u8max, u16min, u16max, u32min, u32max, u64min, u64max, i32min, i32max, Om.sub, selI, ints_app, ints_cut, ints_upd, ints_rep, ints_splice, ints_seg, len_ints] at p16)
            exact calls_of_yesV sound tab_ok specs_ok overs_ok c_y22 rfl (tellA_ok (by (repeat refine told_cons (by assumption) ?_); exact told_nil)) r0 hargs
        · have p12 := (Q.holds'_iff _ _ _).2 h12
          simp only [c_q20, om_0, om_10, om_20, om_30, om_f, F30, allTold', dutiesTold, factsA, factsC, factsP, factsR, AV.facts, RW.facts, inK, and_true, Q.holds', E.i, E.s, E.n, D.nat, E.den, BO.den, UO.den, TO.den, D.toInt_int, D.toList_list, D.ints_ofInts, i64min, i64max, u8min, u8max, u16min, u16max, u32min, u32max, u64min, u64max, i32min, i32max, Om.sub, selI, ints_app, ints_cut, ints_upd, ints_rep, ints_splice, ints_seg, len_ints] at p12
          cases h13 : Q.val (om n0 n1 n2 n3) c_q16
          · have p13 := (Q.holds'_iff _ _ _).2 h13
            simp only [c_q16, om_0, om_10, om_20, om_30, om_f, F30, allTold', dutiesTold, factsA, factsC, factsP, factsR, AV.facts, RW.facts, inK, and_true, Q.holds', E.i, E.s, E.n, D.nat, E.den, BO.den, UO.den, TO.den, D.toInt_int, D.toList_list, D.ints_ofInts, i64min, i64max, u8min, u8max, u16min, u16max, u32min, u32max, u64min, u64max, i32min, i32max, Om.sub, selI, ints_app, ints_cut, ints_upd, ints_rep, ints_splice, ints_seg, len_ints] at p13
            have h14 : Q.val (om n0 n1 n2 n3) c_q14 = false := (Q.holds'_iff _ _ _).1 (by
              simp only [c_q14, om_0, om_10, om_20, om_30, om_f, F30, allTold', dutiesTold, factsA, factsC, factsP, factsR, AV.facts, RW.facts, inK, and_true, Q.holds', E.i, E.s, E.n, D.nat, E.den, BO.den, UO.den, TO.den, D.toInt_int, D.toList_list, D.ints_ofInts, i64min, i64max, u8min, u8max, u16min, u16max, u32min, u32max, u64min, u64max, i32min, i32max, Om.sub, selI, ints_app, ints_cut, ints_upd, ints_rep, ints_splice, ints_seg, len_ints]
              all_goals (first | omega | trivial))
            have p14 := (Q.holds'_iff _ _ _).2 h14
            try (
              simp only [c_q14, om_0, om_10, om_20, om_30, om_f, F30, allTold', dutiesTold, factsA, factsC, factsP, factsR, AV.facts, RW.facts, inK, and_true, Q.holds', E.i, E.s, E.n, D.nat, E.den, BO.den, UO.den, TO.den, D.toInt_int, D.toList_list, D.ints_ofInts, i64min, i64max, u8min, u8max, u16min, u16max, u32min, u32max, u64min, u64max, i32min, i32max, Om.sub, selI, ints_app, ints_cut, ints_upd, ints_rep, ints_splice, ints_seg, len_ints] at p14)
            have h15 : Q.val (om n0 n1 n2 n3) c_q17 = false := (Q.holds'_iff _ _ _).1 (by
              simp only [c_q17, om_0, om_10, om_20, om_30, om_f, F30, allTold', dutiesTold, factsA, factsC, factsP, factsR, AV.facts, RW.facts, inK, and_true, Q.holds', E.i, E.s, E.n, D.nat, E.den, BO.den, UO.den, TO.den, D.toInt_int, D.toList_list, D.ints_ofInts, i64min, i64max, u8min, u8max, u16min, u16max, u32min, u32max, u64min, u64max, i32min, i32max, Om.sub, selI, ints_app, ints_cut, ints_upd, ints_rep, ints_splice, ints_seg, len_ints]
              all_goals (first | omega | trivial))
            have p15 := (Q.holds'_iff _ _ _).2 h15
            try (
              simp only [c_q17, om_0, om_10, om_20, om_30, om_f, F30, allTold', dutiesTold, factsA, factsC, factsP, factsR, AV.facts, RW.facts, inK, and_true, Q.holds', E.i, E.s, E.n, D.nat, E.den, BO.den, UO.den, TO.den, D.toInt_int, D.toList_list, D.ints_ofInts, i64min, i64max, u8min, u8max, u16min, u16max, u32min, u32max, u64min, u64max, i32min, i32max, Om.sub, selI, ints_app, ints_cut, ints_upd, ints_rep, ints_splice, ints_seg, len_ints] at p15)
            have h16 : Q.val (om n0 n1 n2 n3) c_q18 = false := (Q.holds'_iff _ _ _).1 (by
              simp only [c_q18, om_0, om_10, om_20, om_30, om_f, F30, allTold', dutiesTold, factsA, factsC, factsP, factsR, AV.facts, RW.facts, inK, and_true, Q.holds', E.i, E.s, E.n, D.nat, E.den, BO.den, UO.den, TO.den, D.toInt_int, D.toList_list, D.ints_ofInts, i64min, i64max, u8min, u8max, u16min, u16max, u32min, u32max, u64min, u64max, i32min, i32max, Om.sub, selI, ints_app, ints_cut, ints_upd, ints_rep, ints_splice, ints_seg, len_ints]
              all_goals (first | omega | trivial))
            have p16 := (Q.holds'_iff _ _ _).2 h16
            try (
              simp only [c_q18, om_0, om_10, om_20, om_30, om_f, F30, allTold', dutiesTold, factsA, factsC, factsP, factsR, AV.facts, RW.facts, inK, and_true, Q.holds', E.i, E.s, E.n, D.nat, E.den, BO.den, UO.den, TO.den, D.toInt_int, D.toList_list, D.ints_ofInts, i64min, i64max, u8min, u8max, u16min, u16max, u32min, u32max, u64min, u64max, i32min, i32max, Om.sub, selI, ints_app, ints_cut, ints_upd, ints_rep, ints_splice, ints_seg, len_ints] at p16)
            exact calls_of_yesV sound tab_ok specs_ok overs_ok c_y19 rfl (tellA_ok (by (repeat refine told_cons (by assumption) ?_); exact told_nil)) r0 hargs
          · have p13 := (Q.holds'_iff _ _ _).2 h13
            simp only [c_q16, om_0, om_10, om_20, om_30, om_f, F30, allTold', dutiesTold, factsA, factsC, factsP, factsR, AV.facts, RW.facts, inK, and_true, Q.holds', E.i, E.s, E.n, D.nat, E.den, BO.den, UO.den, TO.den, D.toInt_int, D.toList_list, D.ints_ofInts, i64min, i64max, u8min, u8max, u16min, u16max, u32min, u32max, u64min, u64max, i32min, i32max, Om.sub, selI, ints_app, ints_cut, ints_upd, ints_rep, ints_splice, ints_seg, len_ints] at p13
            have h14 : Q.val (om n0 n1 n2 n3) c_q14 = false := (Q.holds'_iff _ _ _).1 (by
              simp only [c_q14, om_0, om_10, om_20, om_30, om_f, F30, allTold', dutiesTold, factsA, factsC, factsP, factsR, AV.facts, RW.facts, inK, and_true, Q.holds', E.i, E.s, E.n, D.nat, E.den, BO.den, UO.den, TO.den, D.toInt_int, D.toList_list, D.ints_ofInts, i64min, i64max, u8min, u8max, u16min, u16max, u32min, u32max, u64min, u64max, i32min, i32max, Om.sub, selI, ints_app, ints_cut, ints_upd, ints_rep, ints_splice, ints_seg, len_ints]
              all_goals (first | omega | trivial))
            have p14 := (Q.holds'_iff _ _ _).2 h14
            try (
              simp only [c_q14, om_0, om_10, om_20, om_30, om_f, F30, allTold', dutiesTold, factsA, factsC, factsP, factsR, AV.facts, RW.facts, inK, and_true, Q.holds', E.i, E.s, E.n, D.nat, E.den, BO.den, UO.den, TO.den, D.toInt_int, D.toList_list, D.ints_ofInts, i64min, i64max, u8min, u8max, u16min, u16max, u32min, u32max, u64min, u64max, i32min, i32max, Om.sub, selI, ints_app, ints_cut, ints_upd, ints_rep, ints_splice, ints_seg, len_ints] at p14)
            have h15 : Q.val (om n0 n1 n2 n3) c_q17 = true := (Q.holds'_iff _ _ _).1 (by
              simp only [c_q17, om_0, om_10, om_20, om_30, om_f, F30, allTold', dutiesTold, factsA, factsC, factsP, factsR, AV.facts, RW.facts, inK, and_true, Q.holds', E.i, E.s, E.n, D.nat, E.den, BO.den, UO.den, TO.den, D.toInt_int, D.toList_list, D.ints_ofInts, i64min, i64max, u8min, u8max, u16min, u16max, u32min, u32max, u64min, u64max, i32min, i32max, Om.sub, selI, ints_app, ints_cut, ints_upd, ints_rep, ints_splice, ints_seg, len_ints]
              all_goals (first | omega | trivial))
            have p15 := (Q.holds'_iff _ _ _).2 h15
            try (
              simp only [c_q17, om_0, om_10, om_20, om_30, om_f, F30, allTold', dutiesTold, factsA, factsC, factsP, factsR, AV.facts, RW.facts, inK, and_true, Q.holds', E.i, E.s, E.n, D.nat, E.den, BO.den, UO.den, TO.den, D.toInt_int, D.toList_list, D.ints_ofInts, i64min, i64max, u8min, u8max, u16min, u16max, u32min, u32max, u64min, u64max, i32min, i32max, Om.sub, selI, ints_app, ints_cut, ints_upd, ints_rep, ints_splice, ints_seg, len_ints] at p15)
            have h16 : Q.val (om n0 n1 n2 n3) c_q19 = true := (Q.holds'_iff _ _ _).1 (by
              simp only [c_q19, om_0, om_10, om_20, om_30, om_f, F30, allTold', dutiesTold, factsA, factsC, factsP, factsR, AV.facts, RW.facts, inK, and_true, Q.holds', E.i, E.s, E.n, D.nat, E.den, BO.den, UO.den, TO.den, D.toInt_int, D.toList_list, D.ints_ofInts, i64min, i64max, u8min, u8max, u16min, u16max, u32min, u32max, u64min, u64max, i32min, i32max, Om.sub, selI, ints_app, ints_cut, ints_upd, ints_rep, ints_splice, ints_seg, len_ints]
              all_goals (first | omega | trivial))
            have p16 := (Q.holds'_iff _ _ _).2 h16
            try (
              simp only [c_q19, om_0, om_10, om_20, om_30, om_f, F30, allTold', dutiesTold, factsA, factsC, factsP, factsR, AV.facts, RW.facts, inK, and_true, Q.holds', E.i, E.s, E.n, D.nat, E.den, BO.den, UO.den, TO.den, D.toInt_int, D.toList_list, D.ints_ofInts, i64min, i64max, u8min, u8max, u16min, u16max, u32min, u32max, u64min, u64max, i32min, i32max, Om.sub, selI, ints_app, ints_cut, ints_upd, ints_rep, ints_splice, ints_seg, len_ints] at p16)
            exact calls_of_yesV sound tab_ok specs_ok overs_ok c_y18 rfl (tellA_ok (by (repeat refine told_cons (by assumption) ?_); exact told_nil)) r0 hargs
      · have p11 := (Q.holds'_iff _ _ _).2 h11
        simp only [c_q12, om_0, om_10, om_20, om_30, om_f, F30, allTold', dutiesTold, factsA, factsC, factsP, factsR, AV.facts, RW.facts, inK, and_true, Q.holds', E.i, E.s, E.n, D.nat, E.den, BO.den, UO.den, TO.den, D.toInt_int, D.toList_list, D.ints_ofInts, i64min, i64max, u8min, u8max, u16min, u16max, u32min, u32max, u64min, u64max, i32min, i32max, Om.sub, selI, ints_app, ints_cut, ints_upd, ints_rep, ints_splice, ints_seg, len_ints] at p11
        cases h12 : Q.val (om n0 n1 n2 n3) c_q20
        · have p12 := (Q.holds'_iff _ _ _).2 h12
          simp only [c_q20, om_0, om_10, om_20, om_30, om_f, F30, allTold', dutiesTold, factsA, factsC, factsP, factsR, AV.facts, RW.facts, inK, and_true, Q.holds', E.i, E.s, E.n, D.nat, E.den, BO.den, UO.den, TO.den, D.toInt_int, D.toList_list, D.ints_ofInts, i64min, i64max, u8min, u8max, u16min, u16max, u32min, u32max, u64min, u64max, i32min, i32max, Om.sub, selI, ints_app, ints_cut, ints_upd, ints_rep, ints_splice, ints_seg, len_ints] at p12
          cases h13 : Q.val (om n0 n1 n2 n3) c_q14
          · have p13 := (Q.holds'_iff _ _ _).2 h13
            simp only [c_q14, om_0, om_10, om_20, om_30, om_f, F30, allTold', dutiesTold, factsA, factsC, factsP, factsR, AV.facts, RW.facts, inK, and_true, Q.holds', E.i, E.s, E.n, D.nat, E.den, BO.den, UO.den, TO.den, D.toInt_int, D.toList_list, D.ints_ofInts, i64min, i64max, u8min, u8max, u16min, u16max, u32min, u32max, u64min, u64max, i32min, i32max, Om.sub, selI, ints_app, ints_cut, ints_upd, ints_rep, ints_splice, ints_seg, len_ints] at p13
            have h14 : Q.val (om n0 n1 n2 n3) c_q17 = false := (Q.holds'_iff _ _ _).1 (by
              simp only [c_q17, om_0, om_10, om_20, om_30, om_f, F30, allTold', dutiesTold, factsA, factsC, factsP, factsR, AV.facts, RW.facts, inK, and_true, Q.holds', E.i, E.s, E.n, D.nat, E.den, BO.den, UO.den, TO.den, D.toInt_int, D.toList_list, D.ints_ofInts, i64min, i64max, u8min, u8max, u16min, u16max, u32min, u32max, u64min, u64max, i32min, i32max, Om.sub, selI, ints_app, ints_cut, ints_upd, ints_rep, ints_splice, ints_seg, len_ints]
              all_goals (first | omega | trivial))
            have p14 := (Q.holds'_iff _ _ _).2 h14
            try (
              simp only [c_q17, om_0, om_10, om_20, om_30, om_f, F30, allTold', dutiesTold, factsA, factsC, factsP, factsR, AV.facts, RW.facts, inK, and_true, Q.holds', E.i, E.s, E.n, D.nat, E.den, BO.den, UO.den, TO.den, D.toInt_int, D.toList_list, D.ints_ofInts, i64min, i64max, u8min, u8max, u16min, u16max, u32min, u32max, u64min, u64max, i32min, i32max, Om.sub, selI, ints_app, ints_cut, ints_upd, ints_rep, ints_splice, ints_seg, len_ints] at p14)
            have h15 : Q.val (om n0 n1 n2 n3) c_q18 = false := (Q.holds'_iff _ _ _).1 (by
              simp only [c_q18, om_0, om_10, om_20, om_30, om_f, F30, allTold', dutiesTold, factsA, factsC, factsP, factsR, AV.facts, RW.facts, inK, and_true, Q.holds', E.i, E.s, E.n, D.nat, E.den, BO.den, UO.den, TO.den, D.toInt_int, D.toList_list, D.ints_ofInts, i64min, i64max, u8min, u8max, u16min, u16max, u32min, u32max, u64min, u64max, i32min, i32max, Om.sub, selI, ints_app, ints_cut, ints_upd, ints_rep, ints_splice, ints_seg, len_ints]
              all_goals (first | omega | trivial))
            have p15 := (Q.holds'_iff _ _ _).2 h15
            try (
              simp only [c_q18, om_0, om_10, om_20, om_30, om_f, F30, allTold', dutiesTold, factsA, factsC, factsP, factsR, AV.facts, RW.facts, inK, and_true, Q.holds', E.i, E.s, E.n, D.nat, E.den, BO.den, UO.den, TO.den, D.toInt_int, D.toList_list, D.ints_ofInts, i64min, i64max, u8min, u8max, u16min, u16max, u32min, u32max, u64min, u64max, i32min, i32max, Om.sub, selI, ints_app, ints_cut, ints_upd, ints_rep, ints_splice, ints_seg, len_ints] at p15)
            exact calls_of_yesV sound tab_ok specs_ok overs_ok c_y25 rfl (tellA_ok (by (repeat refine told_cons (by assumption) ?_); exact told_nil)) r0 hargs
          · have p13 := (Q.holds'_iff _ _ _).2 h13
            simp only [c_q14, om_0, om_10, om_20, om_30, om_f, F30, allTold', dutiesTold, factsA, factsC, factsP, factsR, AV.facts, RW.facts, inK, and_true, Q.holds', E.i, E.s, E.n, D.nat, E.den, BO.den, UO.den, TO.den, D.toInt_int, D.toList_list, D.ints_ofInts, i64min, i64max, u8min, u8max, u16min, u16max, u32min, u32max, u64min, u64max, i32min, i32max, Om.sub, selI, ints_app, ints_cut, ints_upd, ints_rep, ints_splice, ints_seg, len_ints] at p13
            have h14 : Q.val (om n0 n1 n2 n3) c_q15 = false := (Q.holds'_iff _ _ _).1 (by
              simp only [c_q15, om_0, om_10, om_20, om_30, om_f, F30, allTold', dutiesTold, factsA, factsC, factsP, factsR, AV.facts, RW.facts, inK, and_true, Q.holds', E.i, E.s, E.n, D.nat, E.den, BO.den, UO.den, TO.den, D.toInt_int, D.toList_list, D.ints_ofInts, i64min, i64max, u8min, u8max, u16min, u16max, u32min, u32max, u64min, u64max, i32min, i32max, Om.sub, selI, ints_app, ints_cut, ints_upd, ints_rep, ints_splice, ints_seg, len_ints]
              all_goals (first | omega | trivial))
            have p14 := (Q.holds'_iff _ _ _).2 h14
            try (
              simp only [c_q15, om_0, om_10, om_20, om_30, om_f, F30, allTold', dutiesTold, factsA, factsC, factsP, factsR, AV.facts, RW.facts, inK, and_true, Q.holds', E.i, E.s, E.n, D.nat, E.den, BO.den, UO.den, TO.den, D.toInt_int, D.toList_list, D.ints_ofInts, i64min, i64max, u8min, u8max, u16min, u16max, u32min, u32max, u64min, u64max, i32min, i32max, Om.sub, selI, ints_app, ints_cut, ints_upd, ints_rep, ints_splice, ints_seg, len_ints] at p14)
            have h15 : Q.val (om n0 n1 n2 n3) c_q17 = true := (Q.holds'_iff _ _ _).1 (by
              simp only [c_q17, om_0, om_10, om_20, om_30, om_f, F30, allTold', dutiesTold, factsA, factsC, factsP, factsR, AV.facts, RW.facts, inK, and_true, Q.holds', E.i, E.s, E.n, D.nat, E.den, BO.den, UO.den, TO.den, D.toInt_int, D.toList_list, D.ints_ofInts, i64min, i64max, u8min, u8max, u16min, u16max, u32min, u32max, u64min, u64max, i32min, i32max, Om.sub, selI, ints_app, ints_cut, ints_upd, ints_rep, ints_splice, ints_seg, len_ints]
              all_goals (first | omega | trivial))
            have p15 := (Q.holds'_iff _ _ _).2 h15
            try (
              simp only [c_q17, om_0, om_10, om_20, om_30, om_f, F30, allTold', dutiesTold, factsA, factsC, factsP, factsR, AV.facts, RW.facts, inK, and_true, Q.holds', E.i, E.s, E.n, D.nat, E.den, BO.den, UO.den, TO.den, D.toInt_int, D.toList_list, D.ints_ofInts, i64min, i64max, u8min, u8max, u16min, u16max, u32min, u32max, u64min, u64max, i32min, i32max, Om.sub, selI, ints_app, ints_cut, ints_upd, ints_rep, ints_splice, ints_seg, len_ints] at p15)
            have h16 : Q.val (om n0 n1 n2 n3) c_q19 = false := (Q.holds'_iff _ _ _).1 (by
              simp only [c_q19, om_0, om_10, om_20, om_30, om_f, F30, allTold', dutiesTold, factsA, factsC, factsP, factsR, AV.facts, RW.facts, inK, and_true, Q.holds', E.i, E.s, E.n, D.nat, E.den, BO.den, UO.den, TO.den, D.toInt_int, D.toList_list, D.ints_ofInts, i64min, i64max, u8min, u8max, u16min, u16max, u32min, u32max, u64min, u64max, i32min, i32max, Om.sub, selI, ints_app, ints_cut, ints_upd, ints_rep, ints_splice, ints_seg, len_ints]
              all_goals (first | omega | trivial))
            have p16 := (Q.holds'_iff _ _ _).2 h16
            try (
              simp only [c_q19, om_0, om_10, om_20, om_30, om_f, F30, allTold', dutiesTold, factsA, factsC, factsP, factsR, AV.facts, RW.facts, inK, and_true, Q.holds', E.i, E.s, E.n, D.nat, E.den, BO.den, UO.den, TO.den, D.toInt_int, D.toList_list, D.ints_ofInts, i64min, i64max, u8min, u8max, u16min, u16max, u32min, u32max, u64min, u64max, i32min, i32max, Om.sub, selI, ints_app, ints_cut, ints_upd, ints_rep, ints_splice, ints_seg, len_ints] at p16)
            have h17 : Q.val (om n0 n1 n2 n3) c_q18 = false := (Q.holds'_iff _ _ _).1 (by
              simp only [c_q18, om_0, om_10, om_20, om_30, om_f, F30, allTold', dutiesTold, factsA, factsC, factsP, factsR, AV.facts, RW.facts, inK, and_true, Q.holds', E.i, E.s, E.n, D.nat, E.den, BO.den, UO.den, TO.den, D.toInt_int, D.toList_list, D.ints_ofInts, i64min, i64max, u8min, u8max, u16min, u16max, u32min, u32max, u64min, u64max, i32min, i32max, Om.sub, selI, ints_app, ints_cut, ints_upd, ints_rep, ints_splice, ints_seg, len_ints]
              all_goals (first | omega | trivial))
            have p17 := (Q.holds'_iff _ _ _).2 h17
            try (
              simp only [c_q18, om_0, om_10, om_20, om_30, om_f, F30, allTold', dutiesTold, factsA, factsC, factsP, factsR, AV.facts, RW.facts, inK, and_true, Q.holds', E.i, E.s, E.n, D.nat, E.den, BO.den, UO.den, TO.den, D.toInt_int, D.toList_list, D.ints_ofInts, i64min, i64max, u8min, u8max, u16min, u16max, u32min, u32max, u64min, u64max, i32min, i32max, Om.sub, selI, ints_app, ints_cut, ints_upd, ints_rep, ints_splice, ints_seg, len_ints] at p17)
            exact calls_of_yesV sound tab_ok specs_ok overs_ok c_y21 rfl (tellA_ok (by (repeat refine told_cons (by assumption) ?_); exact told_nil)) r0 hargs
        · have p12 := (Q.holds'_iff _ _ _).2 h12
          simp only [c_q20, om_0, om_10, om_20, om_30, om_f, F30, allTold', dutiesTold, factsA, factsC, factsP, factsR, AV.facts, RW.facts, inK, and_true, Q.holds', E.i, E.s, E.n, D.nat, E.den, BO.den, UO.den, TO.den, D.toInt_int, D.toList_list, D.ints_ofInts, i64min, i64max, u8min, u8max, u16min, u16max, u32min, u32max, u64min, u64max, i32min, i32max, Om.sub, selI, ints_app, ints_cut, ints_upd, ints_rep, ints_splice, ints_seg, len_ints] at p12
          have h13 : Q.val (om n0 n1 n2 n3) c_q13 = false := (Q.holds'_iff _ _ _).1 (by
            simp only [c_q13, om_0, om_10, om_20, om_30, om_f, F30, allTold', dutiesTold, factsA, factsC, factsP, factsR, AV.facts, RW.facts, inK, and_true, Q.holds', E.i, E.s, E.n, D.nat, E.den, BO.den, UO.den, TO.den, D.toInt_int, D.toList_list, D.ints_ofInts, i64min, i64max, u8min, u8max, u16min, u16max, u32min, u32max, u64min, u64max, i32min, i32max, Om.sub, selI, ints_app, ints_cut, ints_upd, ints_rep, ints_splice, ints_seg, len_ints]
            all_goals (first | omega | trivial))
          have p13 := (Q.holds'_iff _ _ _).2 h13
          try (
            simp only [c_q13, om_0, om_10, om_20, om_30, om_f, F30, allTold', dutiesTold, factsA, factsC, factsP, factsR, AV.facts, RW.facts, inK, and_true, Q.holds', E.i, E.s, E.n, D.nat, E.den, BO.den, UO.den, TO.den, D.toInt_int, D.toList_list, D.ints_ofInts, i64min, i64max, u8min, u8max, u16min, u16max, u32min, u32max, u64min, u64max, i32min, i32max, Om.sub, selI, ints_app, ints_cut, ints_upd, ints_rep, ints_splice, ints_seg, len_ints] at p13)
          have h14 : Q.val (om n0 n1 n2 n3) c_q14 = false := (Q.holds'_iff _ _ _).1 (by
            simp only [c_q14, om_0, om_10, om_20, om_30, om_f, F30, allTold', dutiesTold, factsA, factsC, factsP, factsR, AV.facts, RW.facts, inK, and_true, Q.holds', E.i, E.s, E.n, D.nat, E.den, BO.den, UO.den, TO.den, D.toInt_int, D.toList_list, D.ints_ofInts, i64min, i64max, u8min, u8max, u16min, u16max, u32min, u32max, u64min, u64max, i32min, i32max, Om.sub, selI, ints_app, ints_cut, ints_upd, ints_rep, ints_splice, ints_seg, len_ints]
            all_goals (first | omega | trivial))
          have p14 := (Q.holds'_iff _ _ _).2 h14
          try (
            simp only [c_q14, om_0, om_10, om_20, om_30, om_f, F30, allTold', dutiesTold, factsA, factsC, factsP, factsR, AV.facts, RW.facts, inK, and_true, Q.holds', E.i, E.s, E.n, D.nat, E.den, BO.den, UO.den, TO.den, D.toInt_int, D.toList_list, D.ints_ofInts, i64min, i64max, u8min, u8max, u16min, u16max, u32min, u32max, u64min, u64max, i32min, i32max, Om.sub, selI, ints_app, ints_cut, ints_upd, ints_rep, ints_splice, ints_seg, len_ints] at p14)
          have h15 : Q.val (om n0 n1 n2 n3) c_q17 = false := (Q.holds'_iff _ _ _).1 (by
            simp only [c_q17, om_0, om_10, om_20, om_30, om_f, F30, allTold', dutiesTold, factsA, factsC, factsP, factsR, AV.facts, RW.facts, inK, and_true, Q.holds', E.i, E.s, E.n, D.nat, E.den, BO.den, UO.den, TO.den, D.toInt_int, D.toList_list, D.ints_ofInts, i64min, i64max, u8min, u8max, u16min, u16max, u32min, u32max, u64min, u64max, i32min, i32max, Om.sub, selI, ints_app, ints_cut, ints_upd, ints_rep, ints_splice, ints_seg, len_ints]
            all_goals (first | omega | trivial))
          have p15 := (Q.holds'_iff _ _ _).2 h15
          try (
            simp only [c_q17, om_0, om_10, om_20, om_30, om_f, F30, allTold', dutiesTold, factsA, factsC, factsP, factsR, AV.facts, RW.facts, inK, and_true, Q.holds', E.i, E.s, E.n, D.nat, E.den, BO.den, UO.den, TO.den, D.toInt_int, D.toList_list, D.ints_ofInts, i64min, i64max, u8min, u8max, u16min, u16max, u32min, u32max, u64min, u64max, i32min, i32max, Om.sub, selI, ints_app, ints_cut, ints_upd, ints_rep, ints_splice, ints_seg, len_ints] at p15)
          have h16 : Q.val (om n0 n1 n2 n3) c_q18 = true := (Q.holds'_iff _ _ _).1 (by
            simp only [c_q18, om_0, om_10, om_20, om_30, om_f, F30, allTold', dutiesTold, factsA, factsC, factsP, factsR, AV.facts, RW.facts, inK, and_true, Q.holds', E.i, E.s, E.n, D.nat, E.den, BO.den, UO.den, TO.den, D.toInt_int, D.toList_list, D.ints_ofInts, i64min, i64max, u8min, u8max, u16min, u16max, u32min, u32max, u64min, u64max, i32min, i32max, Om.sub, selI, ints_app, ints_cut, ints_upd, ints_rep, ints_splice, ints_seg, len_ints]
            all_goals (first | omega | trivial))
          have p16 := (Q.holds'_iff _ _ _).2 h16
          try (
            simp only [c_q18, om_0, om_10, om_20, om_30, om_f, F30, allTold', dutiesTold, factsA, factsC, factsP, factsR, AV.facts, RW.facts, inK, and_true, Q.holds', E.i, E.s, E.n, D.nat, E.den, BO.den, UO.den, TO.den, D.toInt_int, D.toList_list, D.ints_ofInts, i64min, i64max, u8min, u8max, u16min, u16max, u32min, u32max, u64min, u64max, i32min, i32max, Om.sub, selI, ints_app, ints_cut, ints_upd, ints_rep, ints_splice, ints_seg, len_ints] at p16)
          exact calls_of_yesV sound tab_ok specs_ok overs_ok c_y17 rfl (tellA_ok (by (repeat refine told_cons (by assumption) ?_); exact told_nil)) r0 hargs
  · have p4 := (Q.holds'_iff _ _ _).2 h4
    simp only [c_q4, om_0, om_10, om_20, om_30, om_f, F30, allTold', dutiesTold, factsA, factsC, factsP, factsR, AV.facts, RW.facts, inK, and_true, Q.holds', E.i, E.s, E.n, D.nat, E.den, BO.den, UO.den, TO.den, D.toInt_int, D.toList_list, D.ints_ofInts, i64min, i64max, u8min, u8max, u16min, u16max, u32min, u32max, u64min, u64max, i32min, i32max, Om.sub, selI, ints_app, ints_cut, ints_upd, ints_rep, ints_splice, ints_seg, len_ints] at p4
    cases h5 : Q.val (om n0 n1 n2 n3) c_q5
    · have p5 := (Q.holds'_iff _ _ _).2 h5
      simp only [c_q5, om_0, om_10, om_20, om_30, om_f, F30, allTold', dutiesTold, factsA, factsC, factsP, factsR, AV.facts, RW.facts, inK, and_true, Q.holds', E.i, E.s, E.n, D.nat, E.den, BO.den, UO.den, TO.den, D.toInt_int, D.toList_list, D.ints_ofInts, i64min, i64max, u8min, u8max, u16min, u16max, u32min, u32max, u64min, u64max, i32min, i32max, Om.sub, selI, ints_app, ints_cut, ints_upd, ints_rep, ints_splice, ints_seg, len_ints] at p5
      have h6 : Q.val (om n0 n1 n2 n3) c_q7 = true := (Q.holds'_iff _ _ _).1 (by
        simp only [c_q7, om_0, om_10, om_20, om_30, om_f, F30, allTold', dutiesTold, factsA, factsC, factsP, factsR, AV.facts, RW.facts, inK, and_true, Q.holds', E.i, E.s, E.n, D.nat, E.den, BO.den, UO.den, TO.den, D.toInt_int, D.toList_list, D.ints_ofInts, i64min, i64max, u8min, u8max, u16min, u16max, u32min, u32max, u64min, u64max, i32min, i32max, Om.sub, selI, ints_app, ints_cut, ints_upd, ints_rep, ints_splice, ints_seg, len_ints]
        all_goals (first | omega | trivial))
      have p6 := (Q.holds'_iff _ _ _).2 h6
      try (
        simp only [c_q7, om_0, om_10, om_20, om_30, om_f, F30, allTold', dutiesTold, factsA, factsC, factsP, factsR, AV.facts, RW.facts, inK, and_true, Q.holds', E.i, E.s, E.n, D.nat, E.den, BO.den, UO.den, TO.den, D.toInt_int, D.toList_list, D.ints_ofInts, i64min, i64max, u8min, u8max, u16min, u16max, u32min, u32max, u64min, u64max, i32min, i32max, Om.sub, selI, ints_app, ints_cut, ints_upd, ints_rep, ints_splice, ints_seg, len_ints] at p6)
      have h7 : Q.val (om n0 n1 n2 n3) c_q8 = false := (Q.holds'_iff _ _ _).1 (by
        simp only [c_q8, om_0, om_10, om_20, om_30, om_f, F30, allTold', dutiesTold, factsA, factsC, factsP, factsR, AV.facts, RW.facts, inK, and_true, Q.holds', E.i, E.s, E.n, D.nat, E.den, BO.den, UO.den, TO.den, D.toInt_int, D.toList_list, D.ints_ofInts, i64min, i64max, u8min, u8max, u16min, u16max, u32min, u32max, u64min, u64max, i32min, i32max, Om.sub, selI, ints_app, ints_cut, ints_upd, ints_rep, ints_splice, ints_seg, len_ints]
        all_goals (first | omega | trivial))
      have p7 := (Q.holds'_iff _ _ _).2 h7
      try (
        simp only [c_q8, om_0, om_10, om_20, om_30, om_f, F30, allTold', dutiesTold, factsA, factsC, factsP, factsR, AV.facts, RW.facts, inK, and_true, Q.holds', E.i, E.s, E.n, D.nat, E.den, BO.den, UO.den, TO.den, D.toInt_int, D.toList_list, D.ints_ofInts, i64min, i64max, u8min, u8max, u16min, u16max, u32min, u32max, u64min, u64max, i32min, i32max, Om.sub, selI, ints_app, ints_cut, ints_upd, ints_rep, ints_splice, ints_seg, len_ints] at p7)
      have h8 : Q.val (om n0 n1 n2 n3) c_q9 = true := (Q.holds'_iff _ _ _).1 (by
        simp only [c_q9, om_0, om_10, om_20, om_30, om_f, F30, allTold', dutiesTold, factsA, factsC, factsP, factsR, AV.facts, RW.facts, inK, and_true, Q.holds', E.i, E.s, E.n, D.nat, E.den, BO.den, UO.den, TO.den, D.toInt_int, D.toList_list, D.ints_ofInts, i64min, i64max, u8min, u8max, u16min, u16max, u32min, u32max, u64min, u64max, i32min, i32max, Om.sub, selI, ints_app, ints_cut, ints_upd, ints_rep, ints_splice, ints_seg, len_ints]
        all_goals (first | omega | trivial))
      have p8 := (Q.holds'_iff _ _ _).2 h8
      try (
        simp only [c_q9, om_0, om_10, om_20, om_30, om_f, F30, allTold', dutiesTold, factsA, factsC, factsP, factsR, AV.facts, RW.facts, inK, and_true, Q.holds', E.i, E.s, E.n, D.nat, E.den, BO.den, UO.den, TO.den, D.toInt_int, D.toList_list, D.ints_ofInts, i64min, i64max, u8min, u8max, u16min, u16max, u32min, u32max, u64min, u64max, i32min, i32max, Om.sub, selI, ints_app, ints_cut, ints_upd, ints_rep, ints_splice, ints_seg, len_ints] at p8)
      have h9 : Q.val (om n0 n1 n2 n3) c_q10 = false := (Q.holds'_iff _ _ _).1 (by
        simp only [c_q10, om_0, om_10, om_20, om_30, om_f, F30, allTold', dutiesTold, factsA, factsC, factsP, factsR, AV.facts, RW.facts, inK, and_true, Q.holds', E.i, E.s, E.n, D.nat, E.den, BO.den, UO.den, TO.den, D.toInt_int, D.toList_list, D.ints_ofInts, i64min, i64max, u8min, u8max, u16min, u16max, u32min, u32max, u64min, u64max, i32min, i32max, Om.sub, selI, ints_app, ints_cut, ints_upd, ints_rep, ints_splice, ints_seg, len_ints]
        all_goals (first | omega | trivial))
      have p9 := (Q.holds'_iff _ _ _).2 h9
      try (
        simp only [c_q10, om_0, om_10, om_20, om_30, om_f, F30, allTold', dutiesTold, factsA, factsC, factsP, factsR, AV.facts, RW.facts, inK, and_true, Q.holds', E.i, E.s, E.n, D.nat, E.den, BO.den, UO.den, TO.den, D.toInt_int, D.toList_list, D.ints_ofInts, i64min, i64max, u8min, u8max, u16min, u16max, u32min, u32max, u64min, u64max, i32min, i32max, Om.sub, selI, ints_app, ints_cut, ints_upd, ints_rep, ints_splice, ints_seg, len_ints] at p9)
      cases h10 : Q.val (om n0 n1 n2 n3) c_q11
      · have p10 := (Q.holds'_iff _ _ _).2 h10
        simp only [c_q11, om_0, om_10, om_20, om_30, om_f, F30, allTold', dutiesTold, factsA, factsC, factsP, factsR, AV.facts, RW.facts, inK, and_true, Q.holds', E.i, E.s, E.n, D.nat, E.den, BO.den, UO.den, TO.den, D.toInt_int, D.toList_list, D.ints_ofInts, i64min, i64max, u8min, u8max, u16min, u16max, u32min, u32max, u64min, u64max, i32min, i32max, Om.sub, selI, ints_app, ints_cut, ints_upd, ints_rep, ints_splice, ints_seg, len_ints] at p10
        have h11 : Q.val (om n0 n1 n2 n3) c_q12 = true := (Q.holds'_iff _ _ _).1 (by
          simp only [c_q12, om_0, om_10, om_20, om_30, om_f, F30, allTold', dutiesTold, factsA, factsC, factsP, factsR, AV.facts, RW.facts, inK, and_true, Q.holds', E.i, E.s, E.n, D.nat, E.den, BO.den, UO.den, TO.den, D.toInt_int, D.toList_list, D.ints_ofInts, i64min, i64max, u8min, u8max, u16min, u16max, u32min, u32max, u64min, u64max, i32min, i32max, Om.sub, selI, ints_app, ints_cut, ints_upd, ints_rep, ints_splice, ints_seg, len_ints]
          all_goals (first | omega | trivial))
        have p11 := (Q.holds'_iff _ _ _).2 h11
        try (
          simp only [c_q12, om_0, om_10, om_20, om_30, om_f, F30, allTold', dutiesTold, factsA, factsC, factsP, factsR, AV.facts, RW.facts, inK, and_true, Q.holds', E.i, E.s, E.n, D.nat, E.den, BO.den, UO.den, TO.den, D.toInt_int, D.toList_list, D.ints_ofInts, i64min, i64max, u8min, u8max, u16min, u16max, u32min, u32max, u64min, u64max, i32min, i32max, Om.sub, selI, ints_app, ints_cut, ints_upd, ints_rep, ints_splice, ints_seg, len_ints] at p11)
        cases h12 : Q.val (om n0 n1 n2 n3) c_q16
        · have p12 := (Q.holds'_iff _ _ _).2 h12
          simp only [c_q16, om_0, om_10, om_20, om_30, om_f, F30, allTold', dutiesTold, factsA, factsC, factsP, factsR, AV.facts, RW.facts, inK, and_true, Q.holds', E.i, E.s, E.n, D.nat, E.den, BO.den, UO.den, TO.den, D.toInt_int, D.toList_list, D.ints_ofInts, i64min, i64max, u8min, u8max, u16min, u16max, u32min, u32max, u64min, u64max, i32min, i32max, Om.sub, selI, ints_app, ints_cut, ints_upd, ints_rep, ints_splice, ints_seg, len_ints] at p12
          cases h13 : Q.val (om n0 n1 n2 n3) c_q14
          · have p13 := (Q.holds'_iff _ _ _).2 h13
            simp only [c_q14, om_0, om_10, om_20, om_30, om_f, F30, allTold', dutiesTold, factsA, factsC, factsP, factsR, AV.facts, RW.facts, inK, and_true, Q.holds', E.i, E.s, E.n, D.nat, E.den, BO.den, UO.den, TO.den, D.toInt_int, D.toList_list, D.ints_ofInts, i64min, i64max, u8min, u8max, u16min, u16max, u32min, u32max, u64min, u64max, i32min, i32max, Om.sub, selI, ints_app, ints_cut, ints_upd, ints_rep, ints_splice, ints_seg, len_ints] at p13
            have h14 : Q.val (om n0 n1 n2 n3) c_q17 = false := (Q.holds'_iff _ _ _).1 (by
              simp only [c_q17, om_0, om_10, om_20, om_30, om_f, F30, allTold', dutiesTold, factsA, factsC, factsP, factsR, AV.facts, RW.facts, inK, and_true, Q.holds', E.i, E.s, E.n, D.nat, E.den, BO.den, UO.den, TO.den, D.toInt_int, D.toList_list, D.ints_ofInts, i64min, i64max, u8min, u8max, u16min, u16max, u32min, u32max, u64min, u64max, i32min, i32max, Om.sub, selI, ints_app, ints_cut, ints_upd, ints_rep, ints_splice, ints_seg, len_ints]
              all_goals (first | omega | trivial))
            have p14 := (Q.holds'_iff _ _ _).2 h14
            try (
              simp only [c_q17, om_0, om_10, om_20, om_30, om_f, F30, allTold', dutiesTold, factsA, factsC, factsP, factsR, AV.facts, RW.facts, inK, and_true, Q.holds', E.i, E.s, E.n, D.nat, E.den, BO.den, UO.den, TO.den, D.toInt_int, D.toList_list, D.ints_ofInts, i64min, i64max, u8min, u8max, u16min, u16max, u32min, u32max, u64min, u64max, i32min, i32max, Om.sub, selI, ints_app, ints_cut, ints_upd, ints_rep, ints_splice, ints_seg, len_ints] at p14)
            cases h15 : Q.val (om n0 n1 n2 n3) c_q18
            · have p15 := (Q.holds'_iff _ _ _).2 h15
              simp only [c_q18, om_0, om_10, om_20, om_30, om_f, F30, allTold', dutiesTold, factsA, factsC, factsP, factsR, AV.facts, RW.facts, inK, and_true, Q.holds', E.i, E.s, E.n, D.nat, E.den, BO.den, UO.den, TO.den, D.toInt_int, D.toList_list, D.ints_ofInts, i64min, i64max, u8min, u8max, u16min, u16max, u32min, u32max, u64min, u64max, i32min, i32max, Om.sub, selI, ints_app, ints_cut, ints_upd, ints_rep, ints_splice, ints_seg, len_ints] at p15
              exact calls_of_yesV sound tab_ok specs_ok overs_ok c_y15 rfl (tellA_ok (by (repeat refine told_cons (by assumption) ?_); exact told_nil)) r0 hargs
            · have p15 := (Q.holds'_iff _ _ _).2 h15
              simp only [c_q18, om_0, om_10, om_20, om_30, om_f, F30, allTold', dutiesTold, factsA, factsC, factsP, factsR, AV.facts, RW.facts, inK, and_true, Q.holds', E.i, E.s, E.n, D.nat, E.den, BO.den, UO.den, TO.den, D.toInt_int, D.toList_list, D.ints_ofInts, i64min, i64max, u8min, u8max, u16min, u16max, u32min, u32max, u64min, u64max, i32min, i32max, Om.sub, selI, ints_app, ints_cut, ints_upd, ints_rep, ints_splice, ints_seg, len_ints] at p15
              exact calls_of_yesV sound tab_ok specs_ok overs_ok c_y13 rfl (tellA_ok (by (repeat refine told_cons (by assumption) ?_); exact told_nil)) r0 hargs
          · have p13 := (Q.holds'_iff _ _ _).2 h13
            simp only [c_q14, om_0, om_10, om_20, om_30, om_f, F30, allTold', dutiesTold, factsA, factsC, factsP, factsR, AV.facts, RW.facts, inK, and_true, Q.holds', E.i, E.s, E.n, D.nat, E.den, BO.den, UO.den, TO.den, D.toInt_int, D.toList_list, D.ints_ofInts, i64min, i64max, u8min, u8max, u16min, u16max, u32min, u32max, u64min, u64max, i32min, i32max, Om.sub, selI, ints_app, ints_cut, ints_upd, ints_rep, ints_splice, ints_seg, len_ints] at p13
            have h14 : Q.val (om n0 n1 n2 n3) c_q15 = false := (Q.holds'_iff _ _ _).1 (by
              simp only [c_q15, om_0, om_10, om_20, om_30, om_f, F30, allTold', dutiesTold, factsA, factsC, factsP, factsR, AV.facts, RW.facts, inK, and_true, Q.holds', E.i, E.s, E.n, D.nat, E.den, BO.den, UO.den, TO.den, D.toInt_int, D.toList_list, D.ints_ofInts, i64min, i64max, u8min, u8max, u16min, u16max, u32min, u32max, u64min, u64max, i32min, i32max, Om.sub, selI, ints_app, ints_cut, ints_upd, ints_rep, ints_splice, ints_seg, len_ints]
              all_goals (first | omega | trivial))
            have p14 := (Q.holds'_iff _ _ _).2 h14
            try (
              simp only [c_q15, om_0, om_10, om_20, om_30, om_f, F30, allTold', dutiesTold, factsA, factsC, factsP, factsR, AV.facts, RW.facts, inK, and_true, Q.holds', E.i, E.s, E.n, D.nat, E.den, BO.den, UO.den, TO.den, D.toInt_int, D.toList_list, D.ints_ofInts, i64min, i64max, u8min, u8max, u16min, u16max, u32min, u32max, u64min, u64max, i32min, i32max, Om.sub, selI, ints_app, ints_cut, ints_upd, ints_rep, ints_splice, ints_seg, len_ints] at p14)
            have h15 : Q.val (om n0 n1 n2 n3) c_q17 = false := (Q.holds'_iff _ _ _).1 (by
              simp only [c_q17, om_0, om_10, om_20, om_30, om_f, F30, allTold', dutiesTold, factsA, factsC, factsP, factsR, AV.facts, RW.facts, inK, and_true, Q.holds', E.i, E.s, E.n, D.nat, E.den, BO.den, UO.den, TO.den, D.toInt_int, D.toList_list, D.ints_ofInts, i64min, i64max, u8min, u8max, u16min, u16max, u32min, u32max, u64min, u64max, i32min, i32max, Om.sub, selI, ints_app, ints_cut, ints_upd, ints_rep, ints_splice, ints_seg, len_ints]
              all_goals (first | omega | trivial))
            have p15 := (Q.holds'_iff _ _ _).2 h15
            try (
              simp only [c_q17, om_0, om_10, om_20, om_30, om_f, F30, allTold', dutiesTold, factsA, factsC, factsP, factsR, AV.facts, RW.facts, inK, and_true, Q.holds', E.i, E.s, E.n, D.nat, E.den, BO.den, UO.den, TO.den, D.toInt_int, D.toList_list, D.ints_ofInts, i64min, i64max, u8min, u8max, u16min, u16max, u32min, u32max, u64min, u64max, i32min, i32max, Om.sub, selI, ints_app, ints_cut, ints_upd, ints_rep, ints_splice, ints_seg, len_ints] at p15)
            have h16 : Q.val (om n0 n1 n2 n3) c_q18 = false := (Q.holds'_iff _ _ _).1 (by
              simp only [c_q18, om_0, om_10, om_20, om_30, om_f, F30, allTold', dutiesTold, factsA, factsC, factsP, factsR, AV.facts, RW.facts, inK, and_true, Q.holds', E.i, E.s, E.n, D.nat, E.den, BO.den, UO.den, TO.den, D.toInt_int, D.toList_list, D.ints_ofInts, i64min, i64max, u8min, u8max, u16min, u16max, u32min, u32max, u64min, u64max, i32min, i32max, Om.sub, selI, ints_app, ints_cut, ints_upd, ints_rep, ints_splice, ints_seg, len_ints]
              all_goals (first | omega | trivial))
            have p16 := (Q.holds'_iff _ _ _).2 h16
            try (
              simp only [c_q18, om_0, om_10, om_20, om_30, om_f, F30, allTold', dutiesTold, factsA, factsC, factsP, factsR, AV.facts, RW.facts, inK, and_true, Q.holds', E.i, E.s, E.n, D.nat, E.den, BO.den, UO.den, TO.den, D.toInt_int, D.toList_list, D.ints_ofInts, i64min, i64max, u8min, u8max, u16min, u16max, u32min, u32max, u64min, u64max, i32min, i32max, Om.sub, selI, ints_app, ints_cut, ints_upd, ints_rep, ints_splice, ints_seg, len_ints] at p16)
            exact calls_of_yesV sound tab_ok specs_ok overs_ok c_y31 rfl (tellA_ok (by (repeat refine told_cons (by assumption) ?_); exact told_nil)) r0 hargs
        · have p12 := (Q.holds'_iff _ _ _).2 h12
          simp only [c_q16, om_0, om_10, om_20, om_30, om_f, F30, allTold', dutiesTold, factsA, factsC, factsP, factsR, AV.facts, RW.facts, inK, and_true, Q.holds', E.i, E.s, E.n, D.nat, E.den, BO.den, UO.den, TO.den, D.toInt_int, D.toList_list, D.ints_ofInts, i64min, i64max, u8min, u8max, u16min, u16max, u32min, u32max, u64min, u64max, i32min, i32max, Om.sub, selI, ints_app, ints_cut, ints_upd, ints_rep, ints_splice, ints_seg, len_ints] at p12
          cases h13 : Q.val (om n0 n1 n2 n3) c_q20
          · have p13 := (Q.holds'_iff _ _ _).2 h13
            simp only [c_q20, om_0, om_10, om_20, om_30, om_f, F30, allTold', dutiesTold, factsA, factsC, factsP, factsR, AV.facts, RW.facts, inK, and_true, Q.holds', E.i, E.s, E.n, D.nat, E.den, BO.den, UO.den, TO.den, D.toInt_int, D.toList_list, D.ints_ofInts, i64min, i64max, u8min, u8max, u16min, u16max, u32min, u32max, u64min, u64max, i32min, i32max, Om.sub, selI, ints_app, ints_cut, ints_upd, ints_rep, ints_splice, ints_seg, len_ints] at p13
            have h14 : Q.val (om n0 n1 n2 n3) c_q14 = false := (Q.holds'_iff _ _ _).1 (by
              simp only [c_q14, om_0, om_10, om_20, om_30, om_f, F30, allTold', dutiesTold, factsA, factsC, factsP, factsR, AV.facts, RW.facts, inK, and_true, Q.holds', E.i, E.s, E.n, D.nat, E.den, BO.den, UO.den, TO.den, D.toInt_int, D.toList_list, D.ints_ofInts, i64min, i64max, u8min, u8max, u16min, u16max, u32min, u32max, u64min, u64max, i32min, i32max, Om.sub, selI, ints_app, ints_cut, ints_upd, ints_rep, ints_splice, ints_seg, len_ints]
              all_goals (first | omega | trivial))
            have p14 := (Q.holds'_iff _ _ _).2 h14
            try (
              simp only [c_q14, om_0, om_10, om_20, om_30, om_f, F30, allTold', dutiesTold, factsA, factsC, factsP, factsR, AV.facts, RW.facts, inK, and_true, Q.holds', E.i, E.s, E.n, D.nat, E.den, BO.den, UO.den, TO.den, D.toInt_int, D.toList_list, D.ints_ofInts, i64min, i64max, u8min, u8max, u16min, u16max, u32min, u32max, u64min, u64max, i32min, i32max, Om.sub, selI, ints_app, ints_cut, ints_upd, ints_rep, ints_splice, ints_seg, len_ints] at p14)
            have h15 : Q.val (om n0 n1 n2 n3) c_q17 = true := (Q.holds'_iff _ _ _).1 (by
              simp only [c_q17, om_0, om_10, om_20, om_30, om_f, F30, allTold', dutiesTold, factsA, factsC, factsP, factsR, AV.facts, RW.facts, inK, and_true, Q.holds', E.i, E.s, E.n, D.nat, E.den, BO.den, UO.den, TO.den, D.toInt_int, D.toList_list, D.ints_ofInts, i64min, i64max, u8min, u8max, u16min, u16max, u32min, u32max, u64min, u64max, i32min, i32max, Om.sub, selI, ints_app, ints_cut, ints_upd, ints_rep, ints_splice, ints_seg, len_ints]
              all_goals (first | omega | trivial))
            have p15 := (Q.holds'_iff _ _ _).2 h15
            try (
              simp only [c_q17, om_0, om_10, om_20, om_30, om_f, F30, allTold', dutiesTold, factsA, factsC, factsP, factsR, AV.facts, RW.facts, inK, and_true, Q.holds', E.i, E.s, E.n, D.nat, E.den, BO.den, UO.den, TO.den, D.toInt_int, D.toList_list, D.ints_ofInts, i64min, i64max, u8min, u8max, u16min, u16max, u32min, u32max, u64min, u64max, i32min, i32max, Om.sub, selI, ints_app, ints_cut, ints_upd, ints_rep, ints_splice, ints_seg, len_ints] at p15)
            have h16 : Q.val (om n0 n1 n2 n3) c_q19 = false := (Q.holds'_iff _ _ _).1 (by
              simp only [c_q19, om_0, om_10, om_20, om_30, om_f, F30, allTold', dutiesTold, factsA, factsC, factsP, factsR, AV.facts, RW.facts, inK, and_true, Q.holds', E.i, E.s, E.n, D.nat, E.den, BO.den, UO.den, TO.den, D.toInt_int, D.toList_list, D.ints_ofInts, i64min, i64max, u8min, u8max, u16min, u16max, u32min, u32max, u64min, u64max, i32min, i32max, Om.sub, selI, ints_app, ints_cut, ints_upd, ints_rep, ints_splice, ints_seg, len_ints]
              all_goals (first | omega | trivial))
            have p16 := (Q.holds'_iff _ _ _).2 h16
            try (
              simp only [c_q19, om_0, om_10, om_20, om_30, om_f, F30, allTold', dutiesTold, factsA, factsC, factsP, factsR, AV.facts, RW.facts, inK, and_true, Q.holds', E.i, E.s, E.n, D.nat, E.den, BO.den, UO.den, TO.den, D.toInt_int, D.toList_list, D.ints_ofInts, i64min, i64max, u8min, u8max, u16min, u16max, u32min, u32max, u64min, u64max, i32min, i32max, Om.sub, selI, ints_app, ints_cut, ints_upd, ints_rep, ints_splice, ints_seg, len_ints] at p16)
            have h17 : Q.val (om n0 n1 n2 n3) c_q18 = false := (Q.holds'_iff _ _ _).1 (by
              simp only [c_q18, om_0, om_10, om_20, om_30, om_f, F30, allTold', dutiesTold, factsA, factsC, factsP, factsR, AV.facts, RW.facts, inK, and_true, Q.holds', E.i, E.s, E.n, D.nat, E.den, BO.den, UO.den, TO.den, D.toInt_int, D.toList_list, D.ints_ofInts, i64min, i64max, u8min, u8max, u16min, u16max, u32min, u32max, u64min, u64max, i32min, i32max, Om.sub, selI, ints_app, ints_cut, ints_upd, ints_rep, ints_splice, ints_seg, len_ints]
              all_goals (first | omega | trivial))
            have p17 := (Q.holds'_iff _ _ _).2 h17
            try (
              simp only [c_q18, om_0, om_10, om_20, om_30, om_f, F30, allTold', dutiesTold, factsA, factsC, factsP, factsR, AV.facts, RW.facts, inK, and_true, Q.holds', E.i, E.s, E.n, D.nat, E.den, BO.den, UO.den, TO.den, D.toInt_int, D.toList_list, D.ints_ofInts, i64min, i64max, u8min, u8max, u16min, u16max, u32min, u32max, u64min, u64max, i32min, i32max, Om.sub, selI, ints_app, ints_cut, ints_upd, ints_rep, ints_splice, ints_seg, len_ints] at p17)
            exact calls_of_yesV sound tab_ok specs_ok overs_ok c_y12 rfl (tellA_ok (by (repeat refine told_cons (by assumption) ?_); exact told_nil)) r0 hargs
          · have p13 := (Q.holds'_iff _ _ _).2 h13
            simp only [c_q20, om_0, om_10, om_20, om_30, om_f, F30, allTold', dutiesTold, factsA, factsC, factsP, factsR, AV.facts, RW.facts, inK, and_true, Q.holds', E.i, E.s, E.n, D.nat, E.den, BO.den, UO.den, TO.den, D.toInt_int, D.toList_list, D.ints_ofInts, i64min, i64max, u8min, u8max, u16min, u16max, u32min, u32max, u64min, u64max, i32min, i32max, Om.sub, selI, ints_app, ints_cut, ints_upd, ints_rep, ints_splice, ints_seg, len_ints] at p13
            have h14 : Q.val (om n0 n1 n2 n3) c_q14 = false := (Q.holds'_iff _ _ _).1 (by
              simp only [c_q14, om_0, om_10, om_20, om_30, om_f, F30, allTold', dutiesTold, factsA, factsC, factsP, factsR, AV.facts, RW.facts, inK, and_true, Q.holds', E.i, E.s, E.n, D.nat, E.den, BO.den, UO.den, TO.den, D.toInt_int, D.toList_list, D.ints_ofInts, i64min, i64max, u8min, u8max, u16min, u16max, u32min, u32max, u64min, u64max, i32min, i32max, Om.sub, selI, ints_app, ints_cut, ints_upd, ints_rep, ints_splice, ints_seg, len_ints]
              all_goals (first | omega | trivial))
            have p14 := (Q.holds'_iff _ _ _).2 h14
            try (
              simp only [c_q14, om_0, om_10, om_20, om_30, om_f, F30, allTold', dutiesTold, factsA, factsC, factsP, factsR, AV.facts, RW.facts, inK, and_true, Q.holds', E.i, E.s, E.n, D.nat, E.den, BO.den, UO.den, TO.den, D.toInt_int, D.toList_list, D.ints_ofInts, i64min, i64max, u8min, u8max, u16min, u16max, u32min, u32max, u64min, u64max, i32min, i32max, Om.sub, selI, ints_app, ints_cut, ints_upd, ints_rep, ints_splice, ints_seg, len_ints] at p14)
            have h15 : Q.val (om n0 n1 n2 n3) c_q17 = true := (Q.holds'_iff _ _ _).1 (by
              simp only [c_q17, om_0, om_10, om_20, om_30, om_f, F30, allTold', dutiesTold, factsA, factsC, factsP, factsR, AV.facts, RW.facts, inK, and_true, Q.holds', E.i, E.s, E.n, D.nat, E.den, BO.den, UO.den, TO.den, D.toInt_int, D.toList_list, D.ints_ofInts, i64min, i64max, u8min, u8max, u16min, u16max, u32min, u32max, u64min, u64max, i32min, i32max, Om.sub, selI, ints_app, ints_cut, ints_upd, ints_rep, ints_splice, ints_seg, len_ints]
              all_goals (first | omega | trivial))
            have p15 := (Q.holds'_iff _ _ _).2 h15
            try (
              simp only [c_q17, om_0, om_10, om_20, om_30, om_f, F30, allTold', dutiesTold, factsA, factsC, factsP, factsR, AV.facts, RW.facts, inK, and_true, Q.holds', E.i, E.s, E.n, D.nat, E.den, BO.den, UO.den, TO.den, D.toInt_int, D.toList_list, D.ints_ofInts, i64min, i64max, u8min, u8max, u16min, u16max, u32min, u32max, u64min, u64max, i32min, i32max, Om.sub, selI, ints_app, ints_cut, ints_upd, ints_rep, ints_splice, ints_seg, len_ints] at p15)
            have h16 : Q.val (om n0 n1 n2 n3) c_q19 = true := (Q.holds'_iff _ _ _).1 (by
              simp only [c_q19, om_0, om_10, om_20, om_30, om_f, F30, allTold', dutiesTold, factsA, factsC, factsP, factsR, AV.facts, RW.facts, inK, and_true, Q.holds', E.i, E.s, E.n, D.nat, E.den, BO.den, UO.den, TO.den, D.toInt_int, D.toList_list, D.ints_ofInts, i64min, i64max, u8min, u8max, u16min, u16max, u32min, u32max, u64min, u64max, i32min, i32max, Om.sub, selI, ints_app, ints_cut, ints_upd, ints_rep, ints_splice, ints_seg, len_ints]
              all_goals (first | omega | trivial))
            have p16 := (Q.holds'_iff _ _ _).2 h16
            try (
              simp only [c_q19, om_0, om_10, om_20, om_30, om_f, F30, allTold', dutiesTold, factsA, factsC, factsP, factsR, AV.facts, RW.facts, inK, and_true, Q.holds', E.i, E.s, E.n, D.nat, E.den, BO.den, UO.den, TO.den, D.toInt_int, D.toList_list, D.ints_ofInts, i64min, i64max, u8min, u8max, u16min, u16max, u32min, u32max, u64min, u64max, i32min, i32max, Om.sub, selI, ints_app, ints_cut, ints_upd, ints_rep, ints_splice, ints_seg, len_ints] at p16)
            exact calls_of_yesV sound tab_ok specs_ok overs_ok c_y9 rfl (tellA_ok (by (repeat refine told_cons (by assumption) ?_); exact told_nil)) r0 hargs
      · have p10 := (Q.holds'_iff _ _ _).2 h10
        simp only [c_q11, om_0, om_10, om_20, om_30, om_f, F30, allTold', dutiesTold, factsA, factsC, factsP, factsR, AV.facts, RW.facts, inK, and_true, Q.holds', E.i, E.s, E.n, D.nat, E.den, BO.den, UO.den, TO.den, D.toInt_int, D.toList_list, D.ints_ofInts, i64min, i64max, u8min, u8max, u16min, u16max, u32min, u32max, u64min, u64max, i32min, i32max, Om.sub, selI, ints_app, ints_cut, ints_upd, ints_rep, ints_splice, ints_seg, len_ints] at p10
        cases h11 : Q.val (om n0 n1 n2 n3) c_q12
        · have p11 := (Q.holds'_iff _ _ _).2 h11
          simp only [c_q12, om_0, om_10, om_20, om_30, om_f, F30, allTold', dutiesTold, factsA, factsC, factsP, factsR, AV.facts, RW.facts, inK, and_true, Q.holds', E.i, E.s, E.n, D.nat, E.den, BO.den, UO.den, TO.den, D.toInt_int, D.toList_list, D.ints_ofInts, i64min, i64max, u8min, u8max, u16min, u16max, u32min, u32max, u64min, u64max, i32min, i32max, Om.sub, selI, ints_app, ints_cut, ints_upd, ints_rep, ints_splice, ints_seg, len_ints] at p11
          cases h12 : Q.val (om n0 n1 n2 n3) c_q13
          · have p12 := (Q.holds'_iff _ _ _).2 h12
            simp only [c_q13, om_0, om_10, om_20, om_30, om_f, F30, allTold', dutiesTold, factsA, factsC, factsP, factsR, AV.facts, RW.facts, inK, and_true, Q.holds', E.i, E.s, E.n, D.nat, E.den, BO.den, UO.den, TO.den, D.toInt_int, D.toList_list, D.ints_ofInts, i64min, i64max, u8min, u8max, u16min, u16max, u32min, u32max, u64min, u64max, i32min, i32max, Om.sub, selI, ints_app, ints_cut, ints_upd, ints_rep, ints_splice, ints_seg, len_ints] at p12
            have h13 : Q.val (om n0 n1 n2 n3) c_q14 = false := (Q.holds'_iff _ _ _).1 (by
              simp only [c_q14, om_0, om_10, om_20, om_30, om_f, F30, allTold', dutiesTold, factsA, factsC, factsP, factsR, AV.facts, RW.facts, inK, and_true, Q.holds', E.i, E.s, E.n, D.nat, E.den, BO.den, UO.den, TO.den, D.toInt_int, D.toList_list, D.ints_ofInts, i64min, i64max, u8min, u8max, u16min, u16max, u32min, u32max, u64min, u64max, i32min, i32max, Om.sub, selI, ints_app, ints_cut, ints_upd, ints_rep, ints_splice, ints_seg, len_ints]
              all_goals (first | omega | trivial))
            have p13 := (Q.holds'_iff _ _ _).2 h13
            try (
              simp only [c_q14, om_0, om_10, om_20, om_30, om_f, F30, allTold', dutiesTold, factsA, factsC, factsP, factsR, AV.facts, RW.facts, inK, and_true, Q.holds', E.i, E.s, E.n, D.nat, E.den, BO.den, UO.den, TO.den, D.toInt_int, D.toList_list, D.ints_ofInts, i64min, i64max, u8min, u8max, u16min, u16max, u32min, u32max, u64min, u64max, i32min, i32max, Om.sub, selI, ints_app, ints_cut, ints_upd, ints_rep, ints_splice, ints_seg, len_ints] at p13)
            cases h14 : Q.val (om n0 n1 n2 n3) c_q17
            · have p14 := (Q.holds'_iff _ _ _).2 h14
              simp only [c_q17, om_0, om_10, om_20, om_30, om_f, F30, allTold', dutiesTold, factsA, factsC, factsP, factsR, AV.facts, RW.facts, inK, and_true, Q.holds', E.i, E.s, E.n, D.nat, E.den, BO.den, UO.den, TO.den, D.toInt_int, D.toList_list, D.ints_ofInts, i64min, i64max, u8min, u8max, u16min, u16max, u32min, u32max, u64min, u64max, i32min, i32max, Om.sub, selI, ints_app, ints_cut, ints_upd, ints_rep, ints_splice, ints_seg, len_ints] at p14
              cases h15 : Q.val (om n0 n1 n2 n3) c_q18
              · have p15 := (Q.holds'_iff _ _ _).2 h15
                simp only [c_q18, om_0, om_10, om_20, om_30, om_f, F30, allTold', dutiesTold, factsA, factsC, factsP, factsR, AV.facts, RW.facts, inK, and_true, Q.holds', E.i, E.s, E.n, D.nat, E.den, BO.den, UO.den, TO.den, D.toInt_int, D.toList_list, D.ints_ofInts, i64min, i64max, u8min, u8max, u16min, u16max, u32min, u32max, u64min, u64max, i32min, i32max, Om.sub, selI, ints_app, ints_cut, ints_upd, ints_rep, ints_splice, ints_seg, len_ints] at p15
                exact calls_of_yesV sound tab_ok specs_ok overs_ok c_y11 rfl (tellA_ok (by (repeat refine told_cons (by assumption) ?_); exact told_nil)) r0 hargs
              · have p15 := (Q.holds'_iff _ _ _).2 h15
                simp only [c_q18, om_0, om_10, om_20, om_30, om_f, F30, allTold', dutiesTold, factsA, factsC, factsP, factsR, AV.facts, RW.facts, inK, and_true, Q.holds', E.i, E.s, E.n, D.nat, E.den, BO.den, UO.den, TO.den, D.toInt_int, D.toList_list, D.ints_ofInts, i64min, i64max, u8min, u8max, u16min, u16max, u32min, u32max, u64min, u64max, i32min, i32max, Om.sub, selI, ints_app, ints_cut, ints_upd, ints_rep, ints_splice, ints_seg, len_ints] at p15
                exact calls_of_yesV sound tab_ok specs_ok overs_ok c_y16 rfl (tellA_ok (by (repeat refine told_cons (by assumption) ?_); exact told_nil)) r0 hargs
            · have p14 := (Q.holds'_iff _ _ _).2 h14
              simp only [c_q17, om_0, om_10, om_20, om_30, om_f, F30, allTold', dutiesTold, factsA, factsC, factsP, factsR, AV.facts, RW.facts, inK, and_true, Q.holds', E.i, E.s, E.n, D.nat, E.den, BO.den, UO.den, TO.den, D.toInt_int, D.toList_list, D.ints_ofInts, i64min, i64max, u8min, u8max, u16min, u16max, u32min, u32max, u64min, u64max, i32min, i32max, Om.sub, selI, ints_app, ints_cut, ints_upd, ints_rep, ints_splice, ints_seg, len_ints] at p14
              have h15 : Q.val (om n0 n1 n2 n3) c_q19 = false := (Q.holds'_iff _ _ _).1 (by
                simp only [c_q19, om_0, om_10, om_20, om_30, om_f, F30, allTold', dutiesTold, factsA, factsC, factsP, factsR, AV.facts, RW.facts, inK, and_true, Q.holds', E.i, E.s, E.n, D.nat, E.den, BO.den, UO.den, TO.den, D.toInt_int, D.toList_list, D.ints_ofInts, i64min, i64max, u8min, u8max, u16min, u16max, u32min, u32max, u64min, u64max, i32min, i32max, Om.sub, selI, ints_app, ints_cut, ints_upd, ints_rep, ints_splice, ints_seg, len_ints]
                all_goals (first | omega | trivial))
              have p15 := (Q.holds'_iff _ _ _).2 h15
              try (
                simp only [c_q19, om_0, om_10, om_20, om_30, om_f, F30, allTold', dutiesTold, factsA, factsC, factsP, factsR, AV.facts, RW.facts, inK, and_true, Q.holds', E.i, E.s, E.n, D.nat, E.den, BO.den, UO.den, TO.den, D.toInt_int, D.toList_list, D.ints_ofInts, i64min, i64max, u8min, u8max, u16min, u16max, u32min, u32max, u64min, u64max, i32min, i32max, Om.sub, selI, ints_app, ints_cut, ints_upd, ints_rep, ints_splice, ints_seg, len_ints] at p15)
              have h16 : Q.val (om n0 n1 n2 n3) c_q18 = false := (Q.holds'_iff _ _ _).1 (by
                simp only [c_q18, om_0, om_10, om_20, om_30, om_f, F30, allTold', dutiesTold, factsA, factsC, factsP, factsR, AV.facts, RW.facts, inK, and_true, Q.holds', E.i, E.s, E.n, D.nat, E.den, BO.den, UO.den, TO.den, D.toInt_int, D.toList_list, D.ints_ofInts, i64min, i64max, u8min, u8max, u16min, u16max, u32min, u32max, u64min, u64max, i32min, i32max, Om.sub, selI, ints_app, ints_cut, ints_upd, ints_rep, ints_splice, ints_seg, len_ints]
                all_goals (first | omega | trivial))
              have p16 := (Q.holds'_iff _ _ _).2 h16
              try (
                simp only [c_q18, om_0, om_10, om_20, om_30, om_f, F30, allTold', dutiesTold, factsA, factsC, factsP, factsR, AV.facts, RW.facts, inK, and_true, Q.holds', E.i, E.s, E.n, D.nat, E.den, BO.den, UO.den, TO.den, D.toInt_int, D.toList_list, D.ints_ofInts, i64min, i64max, u8min, u8max, u16min, u16max, u32min, u32max, u64min, u64max, i32min, i32max, Om.sub, selI, ints_app, ints_cut, ints_upd, ints_rep, ints_splice, ints_seg, len_ints] at p16)
              exact calls_of_yesV sound tab_ok specs_ok overs_ok c_y30 rfl (tellA_ok (by (repeat refine told_cons (by assumption) ?_); exact told_nil)) r0 hargs
          · have p12 := (Q.holds'_iff _ _ _).2 h12
            simp only [c_q13, om_0, om_10, om_20, om_30, om_f, F30, allTold', dutiesTold, factsA, factsC, factsP, factsR, AV.facts, RW.facts, inK, and_true, Q.holds', E.i, E.s, E.n, D.nat, E.den, BO.den, UO.den, TO.den, D.toInt_int, D.toList_list, D.ints_ofInts, i64min, i64max, u8min, u8max, u16min, u16max, u32min, u32max, u64min, u64max, i32min, i32max, Om.sub, selI, ints_app, ints_cut, ints_upd, ints_rep, ints_splice, ints_seg, len_ints] at p12
            cases h13 : Q.val (om n0 n1 n2 n3) c_q18
            · have p13 := (Q.holds'_iff _ _ _).2 h13
              simp only [c_q18, om_0, om_10, om_20, om_30, om_f, F30, allTold', dutiesTold, factsA, factsC, factsP, factsR, AV.facts, RW.facts, inK, and_true, Q.holds', E.i, E.s, E.n, D.nat, E.den, BO.den, UO.den, TO.den, D.toInt_int, D.toList_list, D.ints_ofInts, i64min, i64max, u8min, u8max, u16min, u16max, u32min, u32max, u64min, u64max, i32min, i32max, Om.sub, selI, ints_app, ints_cut, ints_upd, ints_rep, ints_splice, ints_seg, len_ints] at p13
              have h14 : Q.val (om n0 n1 n2 n3) c_q14 = true := (Q.holds'_iff _ _ _).1 (by
                simp only [c_q14, om_0, om_10, om_20, om_30, om_f, F30, allTold', dutiesTold, factsA, factsC, factsP, factsR, AV.facts, RW.facts, inK, and_true, Q.holds', E.i, E.s, E.n, D.nat, E.den, BO.den, UO.den, TO.den, D.toInt_int, D.toList_list, D.ints_ofInts, i64min, i64max, u8min, u8max, u16min, u16max, u32min, u32max, u64min, u64max, i32min, i32max, Om.sub, selI, ints_app, ints_cut, ints_upd, ints_rep, ints_splice, ints_seg, len_ints]
                all_goals (first | omega | trivial))
              have p14 := (Q.holds'_iff _ _ _).2 h14
              try (
                simp only [c_q14, om_0, om_10, om_20, om_30, om_f, F30, allTold', dutiesTold, factsA, factsC, factsP, factsR, AV.facts, RW.facts, inK, and_true, Q.holds', E.i, E.s, E.n, D.nat, E.den, BO.den, UO.den, TO.den, D.toInt_int, D.toList_list, D.ints_ofInts, i64min, i64max, u8min, u8max, u16min, u16max, u32min, u32max, u64min, u64max, i32min, i32max, Om.sub, selI, ints_app, ints_cut, ints_upd, ints_rep, ints_splice, ints_seg, len_ints] at p14)
              have h15 : Q.val (om n0 n1 n2 n3) c_q15 = false := (Q.holds'_iff _ _ _).1 (by
                simp only [c_q15, om_0, om_10, om_20, om_30, om_f, F30, allTold', dutiesTold, factsA, factsC, factsP, factsR, AV.facts, RW.facts, inK, and_true, Q.holds', E.i, E.s, E.n, D.nat, E.den, BO.den, UO.den, TO.den, D.toInt_int, D.toList_list, D.ints_ofInts, i64min, i64max, u8min, u8max, u16min, u16max, u32min, u32max, u64min, u64max, i32min, i32max, Om.sub, selI, ints_app, ints_cut, ints_upd, ints_rep, ints_splice, ints_seg, len_ints]
                all_goals (first | omega | trivial))
              have p15 := (Q.holds'_iff _ _ _).2 h15
              try (
                simp only [c_q15, om_0, om_10, om_20, om_30, om_f, F30, allTold', dutiesTold, factsA, factsC, factsP, factsR, AV.facts, RW.facts, inK, and_true, Q.holds', E.i, E.s, E.n, D.nat, E.den, BO.den, UO.den, TO.den, D.toInt_int, D.toList_list, D.ints_ofInts, i64min, i64max, u8min, u8max, u16min, u16max, u32min, u32max, u64min, u64max, i32min, i32max, Om.sub, selI, ints_app, ints_cut, ints_upd, ints_rep, ints_splice, ints_seg, len_ints] at p15)
              have h16 : Q.val (om n0 n1 n2 n3) c_q17 = false := (Q.holds'_iff _ _ _).1 (by
                simp only [c_q17, om_0, om_10, om_20, om_30, om_f, F30, allTold', dutiesTold, factsA, factsC, factsP, factsR, AV.facts, RW.facts, inK, and_true, Q.holds', E.i, E.s, E.n, D.nat, E.den, BO.den, UO.den, TO.den, D.toInt_int, D.toList_list, D.ints_ofInts, i64min, i64max, u8min, u8max, u16min, u16max, u32min, u32max, u64min, u64max, i32min, i32max, Om.sub, selI, ints_app, ints_cut, ints_upd, ints_rep, ints_splice, ints_seg, len_ints]
                all_goals (first | omega | trivial))
              have p16 := (Q.holds'_iff _ _ _).2 h16
              try (
                simp only [c_q17, om_0, om_10, om_20, om_30, om_f, F30, allTold', dutiesTold, factsA, factsC, factsP, factsR, AV.facts, RW.facts, inK, and_true, Q.holds', E.i, E.s, E.n, D.nat, E.den, BO.den, UO.den, TO.den, D.toInt_int, D.toList_list, D.ints_ofInts, i64min, i64max, u8min, u8max, u16min, u16max, u32min, u32max, u64min, u64max, i32min, i32max, Om.sub, selI, ints_app, ints_cut, ints_upd, ints_rep, ints_splice, ints_seg, len_ints] at p16)
              exact calls_of_yesV sound tab_ok specs_ok overs_ok c_y8 rfl (tellA_ok (by (repeat refine told_cons (by assumption) ?_); exact told_nil)) r0 hargs
            · have p13 := (Q.holds'_iff _ _ _).2 h13
              simp only [c_q18, om_0, om_10, om_20, om_30, om_f, F30, allTold', dutiesTold, factsA, factsC, factsP, factsR, AV.facts, RW.facts, inK, and_true, Q.holds', E.i, E.s, E.n, D.nat, E.den, BO.den, UO.den, TO.den, D.toInt_int, D.toList_list, D.ints_ofInts, i64min, i64max, u8min, u8max, u16min, u16max, u32min, u32max, u64min, u64max, i32min, i32max, Om.sub, selI, ints_app, ints_cut, ints_upd, ints_rep, ints_splice, ints_seg, len_ints] at p13
              have h14 : Q.val (om n0 n1 n2 n3) c_q14 = true := (Q.holds'_iff _ _ _).1 (by
                simp only [c_q14, om_0, om_10, om_20, om_30, om_f, F30, allTold', dutiesTold, factsA, factsC, factsP, factsR, AV.facts, RW.facts, inK, and_true, Q.holds', E.i, E.s, E.n, D.nat, E.den, BO.den, UO.den, TO.den, D.toInt_int, D.toList_list, D.ints_ofInts, i64min, i64max, u8min, u8max, u16min, u16max, u32min, u32max, u64min, u64max, i32min, i32max, Om.sub, selI, ints_app, ints_cut, ints_upd, ints_rep, ints_splice, ints_seg, len_ints]
                all_goals (first | omega | trivial))
              have p14 := (Q.holds'_iff _ _ _).2 h14
              try (
                simp only [c_q14, om_0, om_10, om_20, om_30, om_f, F30, allTold', dutiesTold, factsA, factsC, factsP, factsR, AV.facts, RW.facts, inK, and_true, Q.holds', E.i, E.s, E.n, D.nat, E.den, BO.den, UO.den, TO.den, D.toInt_int, D.toList_list, D.ints_ofInts, i64min, i64max, u8min, u8max, u16min, u16max, u32min, u32max, u64min, u64max, i32min, i32max, Om.sub, selI, ints_app, ints_cut, ints_upd, ints_rep, ints_splice, ints_seg, len_ints] at p14)
              have h15 : Q.val (om n0 n1 n2 n3) c_q15 = true := (Q.holds'_iff _ _ _).1 (by
                simp only [c_q15, om_0, om_10, om_20, om_30, om_f, F30, allTold', dutiesTold, factsA, factsC, factsP, factsR, AV.facts, RW.facts, inK, and_true, Q.holds', E.i, E.s, E.n, D.nat, E.den, BO.den, UO.den, TO.den, D.toInt_int, D.toList_list, D.ints_ofInts, i64min, i64max, u8min, u8max, u16min, u16max, u32min, u32max, u64min, u64max, i32min, i32max, Om.sub, selI, ints_app, ints_cut, ints_upd, ints_rep, ints_splice, ints_seg, len_ints]
                all_goals (first | omega | trivial))
              have p15 := (Q.holds'_iff _ _ _).2 h15
              try (
                simp only [c_q15, om_0, om_10, om_20, om_30, om_f, F30, allTold', dutiesTold, factsA, factsC, factsP, factsR, AV.facts, RW.facts, inK, and_true, Q.holds', E.i, E.s, E.n, D.nat, E.den, BO.den, UO.den, TO.den, D.toInt_int, D.toList_list, D.ints_ofInts, i64min, i64max, u8min, u8max, u16min, u16max, u32min, u32max, u64min, u64max, i32min, i32max, Om.sub, selI, ints_app, ints_cut, ints_upd, ints_rep, ints_splice, ints_seg, len_ints] at p15)
              exact calls_of_yesV sound tab_ok specs_ok overs_ok c_y7 rfl (tellA_ok (by (repeat refine told_cons (by assumption) ?_); exact told_nil)) r0 hargs
        · have p11 := (Q.holds'_iff _ _ _).2 h11
          simp only [c_q12, om_0, om_10, om_20, om_30, om_f, F30, allTold', dutiesTold, factsA, factsC, factsP, factsR, AV.facts, RW.facts, inK, and_true, Q.holds', E.i, E.s, E.n, D.nat, E.den, BO.den, UO.den, TO.den, D.toInt_int, D.toList_list, D.ints_ofInts, i64min, i64max, u8min, u8max, u16min, u16max, u32min, u32max, u64min, u64max, i32min, i32max, Om.sub, selI, ints_app, ints_cut, ints_upd, ints_rep, ints_splice, ints_seg, len_ints] at p11
          cases h12 : Q.val (om n0 n1 n2 n3) c_q13
          · have p12 := (Q.holds'_iff _ _ _).2 h12
            simp only [c_q13, om_0, om_10, om_20, om_30, om_f, F30, allTold', dutiesTold, factsA, factsC, factsP, factsR, AV.facts, RW.facts, inK, and_true, Q.holds', E.i, E.s, E.n, D.nat, E.den, BO.den, UO.den, TO.den, D.toInt_int, D.toList_list, D.ints_ofInts, i64min, i64max, u8min, u8max, u16min, u16max, u32min, u32max, u64min, u64max, i32min, i32max, Om.sub, selI, ints_app, ints_cut, ints_upd, ints_rep, ints_splice, ints_seg, len_ints] at p12
            have h13 : Q.val (om n0 n1 n2 n3) c_q14 = false := (Q.holds'_iff _ _ _).1 (by
              simp only [c_q14, om_0, om_10, om_20, om_30, om_f, F30, allTold', dutiesTold, factsA, factsC, factsP, factsR, AV.facts, RW.facts, inK, and_true, Q.holds', E.i, E.s, E.n, D.nat, E.den, BO.den, UO.den, TO.den, D.toInt_int, D.toList_list, D.ints_ofInts, i64min, i64max, u8min, u8max, u16min, u16max, u32min, u32max, u64min, u64max, i32min, i32max, Om.sub, selI, ints_app, ints_cut, ints_upd, ints_rep, ints_splice, ints_seg, len_ints]
              all_goals (first | omega | trivial))
            have p13 := (Q.holds'_iff _ _ _).2 h13
            try (
              simp only [c_q14, om_0, om_10, om_20, om_30, om_f, F30, allTold', dutiesTold, factsA, factsC, factsP, factsR, AV.facts, RW.facts, inK, and_true, Q.holds', E.i, E.s, E.n, D.nat, E.den, BO.den, UO.den, TO.den, D.toInt_int, D.toList_list, D.ints_ofInts, i64min, i64max, u8min, u8max, u16min, u16max, u32min, u32max, u64min, u64max, i32min, i32max, Om.sub, selI, ints_app, ints_cut, ints_upd, ints_rep, ints_splice, ints_seg, len_ints] at p13)
            have h14 : Q.val (om n0 n1 n2 n3) c_q17 = false := (Q.holds'_iff _ _ _).1 (by
              simp only [c_q17, om_0, om_10, om_20, om_30, om_f, F30, allTold', dutiesTold, factsA, factsC, factsP, factsR, AV.facts, RW.facts, inK, and_true, Q.holds', E.i, E.s, E.n, D.nat, E.den, BO.den, UO.den, TO.den, D.toInt_int, D.toList_list, D.ints_ofInts, i64min, i64max, u8min, u8max, u16min, u16max, u32min, u32max, u64min, u64max, i32min, i32max, Om.sub, selI, ints_app, ints_cut, ints_upd, ints_rep, ints_splice, ints_seg, len_ints]
              all_goals (first | omega | trivial))
            have p14 := (Q.holds'_iff _ _ _).2 h14
            try (
              simp only [c_q17, om_0, om_10, om_20, om_30, om_f, F30, allTold', dutiesTold, factsA, factsC, factsP, factsR, AV.facts, RW.facts, inK, and_true, Q.holds', E.i, E.s, E.n, D.nat, E.den, BO.den, UO.den, TO.den, D.toInt_int, D.toList_list, D.ints_ofInts, i64min, i64max, u8min, u8max, u16min, u16max, u32min, u32max, u64min, u64max, i32min, i32max, Om.sub, selI, ints_app, ints_cut, ints_upd, ints_rep, ints_splice, ints_seg, len_ints] at p14)
            cases h15 : Q.val (om n0 n1 n2 n3) c_q18
            · have p15 := (Q.holds'_iff _ _ _).2 h15
              simp only [c_q18, om_0, om_10, om_20, om_30, om_f, F30, allTold', dutiesTold, factsA, factsC, factsP, factsR, AV.facts, RW.facts, inK, and_true, Q.holds', E.i, E.s, E.n, D.nat, E.den, BO.den, UO.den, TO.den, D.toInt_int, D.toList_list, D.ints_ofInts, i64min, i64max, u8min, u8max, u16min, u16max, u32min, u32max, u64min, u64max, i32min, i32max, Om.sub, selI, ints_app, ints_cut, ints_upd, ints_rep, ints_splice, ints_seg, len_ints] at p15
              exact calls_of_yesV sound tab_ok specs_ok overs_ok c_y14 rfl (tellA_ok (by (repeat refine told_cons (by assumption) ?_); exact told_nil)) r0 hargs
            · have p15 := (Q.holds'_iff _ _ _).2 h15
              simp only [c_q18, om_0, om_10, om_20, om_30, om_f, F30, allTold', dutiesTold, factsA, factsC, factsP, factsR, AV.facts, RW.facts, inK, and_true, Q.holds', E.i, E.s, E.n, D.nat, E.den, BO.den, UO.den, TO.den, D.toInt_int, D.toList_list, D.ints_ofInts, i64min, i64max, u8min, u8max, u16min, u16max, u32min, u32max, u64min, u64max, i32min, i32max, Om.sub, selI, ints_app, ints_cut, ints_upd, ints_rep, ints_splice, ints_seg, len_ints] at p15
              exact calls_of_yesV sound tab_ok specs_ok overs_ok c_y10 rfl (tellA_ok (by (repeat refine told_cons (by assumption) ?_); exact told_nil)) r0 hargs
          · have p12 := (Q.holds'_iff _ _ _).2 h12
            simp only [c_q13, om_0, om_10, om_20, om_30, om_f, F30, allTold', dutiesTold, factsA, factsC, factsP, factsR, AV.facts, RW.facts, inK, and_true, Q.holds', E.i, E.s, E.n, D.nat, E.den, BO.den, UO.den, TO.den, D.toInt_int, D.toList_list, D.ints_ofInts, i64min, i64max, u8min, u8max, u16min, u16max, u32min, u32max, u64min, u64max, i32min, i32max, Om.sub, selI, ints_app, ints_cut, ints_upd, ints_rep, ints_splice, ints_seg, len_ints] at p12
            have h13 : Q.val (om n0 n1 n2 n3) c_q20 = false := (Q.holds'_iff _ _ _).1 (by
              simp only [c_q20, om_0, om_10, om_20, om_30, om_f, F30, allTold', dutiesTold, factsA, factsC, factsP, factsR, AV.facts, RW.facts, inK, and_true, Q.holds', E.i, E.s, E.n, D.nat, E.den, BO.den, UO.den, TO.den, D.toInt_int, D.toList_list, D.ints_ofInts, i64min, i64max, u8min, u8max, u16min, u16max, u32min, u32max, u64min, u64max, i32min, i32max, Om.sub, selI, ints_app, ints_cut, ints_upd, ints_rep, ints_splice, ints_seg, len_ints]
              all_goals (first | omega | trivial))
            have p13 := (Q.holds'_iff _ _ _).2 h13
            try (
              simp only [c_q20, om_0, om_10, om_20, om_30, om_f, F30, allTold', dutiesTold, factsA, factsC, factsP, factsR, AV.facts, RW.facts, inK, and_true, Q.holds', E.i, E.s, E.n, D.nat, E.den, BO.den, UO.den, TO.den, D.toInt_int, D.toList_list, D.ints_ofInts, i64min, i64max, u8min, u8max, u16min, u16max, u32min, u32max, u64min, u64max, i32min, i32max, Om.sub, selI, ints_app, ints_cut, ints_upd, ints_rep, ints_splice, ints_seg, len_ints] at p13)
            have h14 : Q.val (om n0 n1 n2 n3) c_q14 = true := (Q.holds'_iff _ _ _).1 (by
              simp only [c_q14, om_0, om_10, om_20, om_30, om_f, F30, allTold', dutiesTold, factsA, factsC, factsP, factsR, AV.facts, RW.facts, inK, and_true, Q.holds', E.i, E.s, E.n, D.nat, E.den, BO.den, UO.den, TO.den, D.toInt_int, D.toList_list, D.ints_ofInts, i64min, i64max, u8min, u8max, u16min, u16max, u32min, u32max, u64min, u64max, i32min, i32max, Om.sub, selI, ints_app, ints_cut, ints_upd, ints_rep, ints_splice, ints_seg, len_ints]
              all_goals (first | omega | trivial))
            have p14 := (Q.holds'_iff _ _ _).2 h14
            try (
              simp only [c_q14, om_0, om_10, om_20, om_30, om_f, F30, allTold', dutiesTold, factsA, factsC, factsP, factsR, AV.facts, RW.facts, inK, and_true, Q.holds', E.i, E.s, E.n, D.nat, E.den, BO.den, UO.den, TO.den, D.toInt_int, D.toList_list, D.ints_ofInts, i64min, i64max, u8min, u8max, u16min, u16max, u32min, u32max, u64min, u64max, i32min, i32max, Om.sub, selI, ints_app, ints_cut, ints_upd, ints_rep, ints_splice, ints_seg, len_ints] at p14)
            have h15 : Q.val (om n0 n1 n2 n3) c_q15 = false := (Q.holds'_iff _ _ _).1 (by
              simp only [c_q15, om_0, om_10, om_20, om_30, om_f, F30, allTold', dutiesTold, factsA, factsC, factsP, factsR, AV.facts, RW.facts, inK, and_true, Q.holds', E.i, E.s, E.n, D.nat, E.den, BO.den, UO.den, TO.den, D.toInt_int, D.toList_list, D.ints_ofInts, i64min, i64max, u8min, u8max, u16min, u16max, u32min, u32max, u64min, u64max, i32min, i32max, Om.sub, selI, ints_app, ints_cut, ints_upd, ints_rep, ints_splice, ints_seg, len_ints]
              all_goals (first | omega | trivial))
            have p15 := (Q.holds'_iff _ _ _).2 h15
            try (
              simp only [c_q15, om_0, om_10, om_20, om_30, om_f, F30, allTold', dutiesTold, factsA, factsC, factsP, factsR, AV.facts, RW.facts, inK, and_true, Q.holds', E.i, E.s, E.n, D.nat, E.den, BO.den, UO.den, TO.den, D.toInt_int, D.toList_list, D.ints_ofInts, i64min, i64max, u8min, u8max, u16min, u16max, u32min, u32max, u64min, u64max, i32min, i32max, Om.sub, selI, ints_app, ints_cut, ints_upd, ints_rep, ints_splice, ints_seg, len_ints] at p15)
            have h16 : Q.val (om n0 n1 n2 n3) c_q17 = true := (Q.holds'_iff _ _ _).1 (by
              simp only [c_q17, om_0, om_10, om_20, om_30, om_f, F30, allTold', dutiesTold, factsA, factsC, factsP, factsR, AV.facts, RW.facts, inK, and_true, Q.holds', E.i, E.s, E.n, D.nat, E.den, BO.den, UO.den, TO.den, D.toInt_int, D.toList_list, D.ints_ofInts, i64min, i64max, u8min, u8max, u16min, u16max, u32min, u32max, u64min, u64max, i32min, i32max, Om.sub, selI, ints_app, ints_cut, ints_upd, ints_rep, ints_splice, ints_seg, len_ints]
              all_goals (first | omega | trivial))
            have p16 := (Q.holds'_iff _ _ _).2 h16
            try (
              simp only [c_q17, om_0, om_10, om_20, om_30, om_f, F30, allTold', dutiesTold, factsA, factsC, factsP, factsR, AV.facts, RW.facts, inK, and_true, Q.holds', E.i, E.s, E.n, D.nat, E.den, BO.den, UO.den, TO.den, D.toInt_int, D.toList_list, D.ints_ofInts, i64min, i64max, u8min, u8max, u16min, u16max, u32min, u32max, u64min, u64max, i32min, i32max, Om.sub, selI, ints_app, ints_cut, ints_upd, ints_rep, ints_splice, ints_seg, len_ints] at p16)
            have h17 : Q.val (om n0 n1 n2 n3) c_q19 = false := (Q.holds'_iff _ _ _).1 (by
              simp only [c_q19, om_0, om_10, om_20, om_30, om_f, F30, allTold', dutiesTold, factsA, factsC, factsP, factsR, AV.facts, RW.facts, inK, and_true, Q.holds', E.i, E.s, E.n, D.nat, E.den, BO.den, UO.den, TO.den, D.toInt_int, D.toList_list, D.ints_ofInts, i64min, i64max, u8min, u8max, u16min, u16max, u32min, u32max, u64min, u64max, i32min, i32max, Om.sub, selI, ints_app, ints_cut, ints_upd, ints_rep, ints_splice, ints_seg, len_ints]
              all_goals (first | omega | trivial))
            have p17 := (Q.holds'_iff _ _ _).2 h17
            try (
              simp only [c_q19, om_0, om_10, om_20, om_30, om_f, F30, allTold', dutiesTold, factsA, factsC, factsP, factsR, AV.facts, RW.facts, inK, and_true, Q.holds', E.i, E.s, E.n, D.nat, E.den, BO.den, UO.den, TO.den, D.toInt_int, D.toList_list, D.ints_ofInts, i64min, i64max, u8min, u8max, u16min, u16max, u32min, u32max, u64min, u64max, i32min, i32max, Om.sub, selI, ints_app, ints_cut, ints_upd, ints_rep, ints_splice, ints_seg, len_ints] at p17)
            have h18 : Q.val (om n0 n1 n2 n3) c_q18 = false := (Q.holds'_iff _ _ _).1 (by
              simp only [c_q18, om_0, om_10, om_20, om_30, om_f, F30, allTold', dutiesTold, factsA, factsC, factsP, factsR, AV.facts, RW.facts, inK, and_true, Q.holds', E.i, E.s, E.n, D.nat, E.den, BO.den, UO.den, TO.den, D.toInt_int, D.toList_list, D.ints_ofInts, i64min, i64max, u8min, u8max, u16min, u16max, u32min, u32max, u64min, u64max, i32min, i32max, Om.sub, selI, ints_app, ints_cut, ints_upd, ints_rep, ints_splice, ints_seg, len_ints]
              all_goals (first | omega | trivial))
            have p18 := (Q.holds'_iff _ _ _).2 h18
            try (
              simp only [c_q18, om_0, om_10, om_20, om_30, om_f, F30, allTold', dutiesTold, factsA, factsC, factsP, factsR, AV.facts, RW.facts, inK, and_true, Q.holds', E.i, E.s, E.n, D.nat, E.den, BO.den, UO.den, TO.den, D.toInt_int, D.toList_list, D.ints_ofInts, i64min, i64max, u8min, u8max, u16min, u16max, u32min, u32max, u64min, u64max, i32min, i32max, Om.sub, selI, ints_app, ints_cut, ints_upd, ints_rep, ints_splice, ints_seg, len_ints] at p18)
            exact calls_of_yesV sound tab_ok specs_ok overs_ok c_y6 rfl (tellA_ok (by (repeat refine told_cons (by assumption) ?_); exact told_nil)) r0 hargs
    · have p5 := (Q.holds'_iff _ _ _).2 h5
      simp only [c_q5, om_0, om_10, om_20, om_30, om_f, F30, allTold', dutiesTold, factsA, factsC, factsP, factsR, AV.facts, RW.facts, inK, and_true, Q.holds', E.i, E.s, E.n, D.nat, E.den, BO.den, UO.den, TO.den, D.toInt_int, D.toList_list, D.ints_ofInts, i64min, i64max, u8min, u8max, u16min, u16max, u32min, u32max, u64min, u64max, i32min, i32max, Om.sub, selI, ints_app, ints_cut, ints_upd, ints_rep, ints_splice, ints_seg, len_ints] at p5
      have h6 : Q.val (om n0 n1 n2 n3) c_q6 = true := (Q.holds'_iff _ _ _).1 (by
        simp only [c_q6, om_0, om_10, om_20, om_30, om_f, F30, allTold', dutiesTold, factsA, factsC, factsP, factsR, AV.facts, RW.facts, inK, and_true, Q.holds', E.i, E.s, E.n, D.nat, E.den, BO.den, UO.den, TO.den, D.toInt_int, D.toList_list, D.ints_ofInts, i64min, i64max, u8min, u8max, u16min, u16max, u32min, u32max, u64min, u64max, i32min, i32max, Om.sub, selI, ints_app, ints_cut, ints_upd, ints_rep, ints_splice, ints_seg, len_ints]
        all_goals (first | omega | trivial))
      have p6 := (Q.holds'_iff _ _ _).2 h6
      try (
        simp only [c_q6, om_0, om_10, om_20, om_30, om_f, F30, allTold', dutiesTold, factsA, factsC, factsP, factsR, AV.facts, RW.facts, inK, and_true, Q.holds', E.i, E.s, E.n, D.nat, E.den, BO.den, UO.den, TO.den, D.toInt_int, D.toList_list, D.ints_ofInts, i64min, i64max, u8min, u8max, u16min, u16max, u32min, u32max, u64min, u64max, i32min, i32max, Om.sub, selI, ints_app, ints_cut, ints_upd, ints_rep, ints_splice, ints_seg, len_ints] at p6)
      have h7 : Q.val (om n0 n1 n2 n3) c_q7 = true := (Q.holds'_iff _ _ _).1 (by
        simp only [c_q7, om_0, om_10, om_20, om_30, om_f, F30, allTold', dutiesTold, factsA, factsC, factsP, factsR, AV.facts, RW.facts, inK, and_true, Q.holds', E.i, E.s, E.n, D.nat, E.den, BO.den, UO.den, TO.den, D.toInt_int, D.toList_list, D.ints_ofInts, i64min, i64max, u8min, u8max, u16min, u16max, u32min, u32max, u64min, u64max, i32min, i32max, Om.sub, selI, ints_app, ints_cut, ints_upd, ints_rep, ints_splice, ints_seg, len_ints]
        all_goals (first | omega | trivial))
      have p7 := (Q.holds'_iff _ _ _).2 h7
      try (
        simp only [c_q7, om_0, om_10, om_20, om_30, om_f, F30, allTold', dutiesTold, factsA, factsC, factsP, factsR, AV.facts, RW.facts, inK, and_true, Q.holds', E.i, E.s, E.n, D.nat, E.den, BO.den, UO.den, TO.den, D.toInt_int, D.toList_list, D.ints_ofInts, i64min, i64max, u8min, u8max, u16min, u16max, u32min, u32max, u64min, u64max, i32min, i32max, Om.sub, selI, ints_app, ints_cut, ints_upd, ints_rep, ints_splice, ints_seg, len_ints] at p7)
      have h8 : Q.val (om n0 n1 n2 n3) c_q8 = false := (Q.holds'_iff _ _ _).1 (by
        simp only [c_q8, om_0, om_10, om_20, om_30, om_f, F30, allTold', dutiesTold, factsA, factsC, factsP, factsR, AV.facts, RW.facts, inK, and_true, Q.holds', E.i, E.s, E.n, D.nat, E.den, BO.den, UO.den, TO.den, D.toInt_int, D.toList_list, D.ints_ofInts, i64min, i64max, u8min, u8max, u16min, u16max, u32min, u32max, u64min, u64max, i32min, i32max, Om.sub, selI, ints_app, ints_cut, ints_upd, ints_rep, ints_splice, ints_seg, len_ints]
        all_goals (first | omega | trivial))
      have p8 := (Q.holds'_iff _ _ _).2 h8
      try (
        simp only [c_q8, om_0, om_10, om_20, om_30, om_f, F30, allTold', dutiesTold, factsA, factsC, factsP, factsR, AV.facts, RW.facts, inK, and_true, Q.holds', E.i, E.s, E.n, D.nat, E.den, BO.den, UO.den, TO.den, D.toInt_int, D.toList_list, D.ints_ofInts, i64min, i64max, u8min, u8max, u16min, u16max, u32min, u32max, u64min, u64max, i32min, i32max, Om.sub, selI, ints_app, ints_cut, ints_upd, ints_rep, ints_splice, ints_seg, len_ints] at p8)
      have h9 : Q.val (om n0 n1 n2 n3) c_q9 = true := (Q.holds'_iff _ _ _).1 (by
        simp only [c_q9, om_0, om_10, om_20, om_30, om_f, F30, allTold', dutiesTold, factsA, factsC, factsP, factsR, AV.facts, RW.facts, inK, and_true, Q.holds', E.i, E.s, E.n, D.nat, E.den, BO.den, UO.den, TO.den, D.toInt_int, D.toList_list, D.ints_ofInts, i64min, i64max, u8min, u8max, u16min, u16max, u32min, u32max, u64min, u64max, i32min, i32max, Om.sub, selI, ints_app, ints_cut, ints_upd, ints_rep, ints_splice, ints_seg, len_ints]
        all_goals (first | omega | trivial))
      have p9 := (Q.holds'_iff _ _ _).2 h9
      try (
        simp only [c_q9, om_0, om_10, om_20, om_30, om_f, F30, allTold', dutiesTold, factsA, factsC, factsP, factsR, AV.facts, RW.facts, inK, and_true, Q.holds', E.i, E.s, E.n, D.nat, E.den, BO.den, UO.den, TO.den, D.toInt_int, D.toList_list, D.ints_ofInts, i64min, i64max, u8min, u8max, u16min, u16max, u32min, u32max, u64min, u64max, i32min, i32max, Om.sub, selI, ints_app, ints_cut, ints_upd, ints_rep, ints_splice, ints_seg, len_ints] at p9)
      have h10 : Q.val (om n0 n1 n2 n3) c_q10 = false := (Q.holds'_iff _ _ _).1 (by
        simp only [c_q10, om_0, om_10, om_20, om_30, om_f, F30, allTold', dutiesTold, factsA, factsC, factsP, factsR, AV.facts, RW.facts, inK, and_true, Q.holds', E.i, E.s, E.n, D.nat, E.den, BO.den, UO.den, TO.den, D.toInt_int, D.toList_list, D.ints_ofInts, i64min, i64max, u8min, u8max, u16min, u16max, u32min, u32max, u64min, u64max, i32min, i32max, Om.sub, selI, ints_app, ints_cut, ints_upd, ints_rep, ints_splice, ints_seg, len_ints]
        all_goals (first | omega | trivial))
      have p10 := (Q.holds'_iff _ _ _).2 h10
      try (
        simp only [c_q10, om_0, om_10, om_20, om_30, om_f, F30, allTold', dutiesTold, factsA, factsC, factsP, factsR, AV.facts, RW.facts, inK, and_true, Q.holds', E.i, E.s, E.n, D.nat, E.den, BO.den, UO.den, TO.den, D.toInt_int, D.toList_list, D.ints_ofInts, i64min, i64max, u8min, u8max, u16min, u16max, u32min, u32max, u64min, u64max, i32min, i32max, Om.sub, selI, ints_app, ints_cut, ints_upd, ints_rep, ints_splice, ints_seg, len_ints] at p10)
      cases h11 : Q.val (om n0 n1 n2 n3) c_q11
      · have p11 := (Q.holds'_iff _ _ _).2 h11
        simp only [c_q11, om_0, om_10, om_20, om_30, om_f, F30, allTold', dutiesTold, factsA, factsC, factsP, factsR, AV.facts, RW.facts, inK, and_true, Q.holds', E.i, E.s, E.n, D.nat, E.den, BO.den, UO.den, TO.den, D.toInt_int, D.toList_list, D.ints_ofInts, i64min, i64max, u8min, u8max, u16min, u16max, u32min, u32max, u64min, u64max, i32min, i32max, Om.sub, selI, ints_app, ints_cut, ints_upd, ints_rep, ints_splice, ints_seg, len_ints] at p11
        have h12 : Q.val (om n0 n1 n2 n3) c_q12 = true := (Q.holds'_iff _ _ _).1 (by
          simp only [c_q12, om_0, om_10, om_20, om_30, om_f, F30, allTold', dutiesTold, factsA, factsC, factsP, factsR, AV.facts, RW.facts, inK, and_true, Q.holds', E.i, E.s, E.n, D.nat, E.den, BO.den, UO.den, TO.den, D.toInt_int, D.toList_list, D.ints_ofInts, i64min, i64max, u8min, u8max, u16min, u16max, u32min, u32max, u64min, u64max, i32min, i32max, Om.sub, selI, ints_app, ints_cut, ints_upd, ints_rep, ints_splice, ints_seg, len_ints]
          all_goals (first | omega | trivial))
        have p12 := (Q.holds'_iff _ _ _).2 h12
        try (
          simp only [c_q12, om_0, om_10, om_20, om_30, om_f, F30, allTold', dutiesTold, factsA, factsC, factsP, factsR, AV.facts, RW.facts, inK, and_true, Q.holds', E.i, E.s, E.n, D.nat, E.den, BO.den, UO.den, TO.den, D.toInt_int, D.toList_list, D.ints_ofInts, i64min, i64max, u8min, u8max, u16min, u16max, u32min, u32max, u64min, u64max, i32min, i32max, Om.sub, selI, ints_app, ints_cut, ints_upd, ints_rep, ints_splice, ints_seg, len_ints] at p12)
        cases h13 : Q.val (om n0 n1 n2 n3) c_q16
        · have p13 := (Q.holds'_iff _ _ _).2 h13
          simp only [c_q16, om_0, om_10, om_20, om_30, om_f, F30, allTold', dutiesTold, factsA, factsC, factsP, factsR, AV.facts, RW.facts, inK, and_true, Q.holds', E.i, E.s, E.n, D.nat, E.den, BO.den, UO.den, TO.den, D.toInt_int, D.toList_list, D.ints_ofInts, i64min, i64max, u8min, u8max, u16min, u16max, u32min, u32max, u64min, u64max, i32min, i32max, Om.sub, selI, ints_app, ints_cut, ints_upd, ints_rep, ints_splice, ints_seg, len_ints] at p13
          cases h14 : Q.val (om n0 n1 n2 n3) c_q14
          · have p14 := (Q.holds'_iff _ _ _).2 h14
            simp only [c_q14, om_0, om_10, om_20, om_30, om_f, F30, allTold', dutiesTold, factsA, factsC, factsP, factsR, AV.facts, RW.facts, inK, and_true, Q.holds', E.i, E.s, E.n, D.nat, E.den, BO.den, UO.den, TO.den, D.toInt_int, D.toList_list, D.ints_ofInts, i64min, i64max, u8min, u8max, u16min, u16max, u32min, u32max, u64min, u64max, i32min, i32max, Om.sub, selI, ints_app, ints_cut, ints_upd, ints_rep, ints_splice, ints_seg, len_ints] at p14
            have h15 : Q.val (om n0 n1 n2 n3) c_q17 = false := (Q.holds'_iff _ _ _).1 (by
              simp only [c_q17, om_0, om_10, om_20, om_30, om_f, F30, allTold', dutiesTold, factsA, factsC, factsP, factsR, AV.facts, RW.facts, inK, and_true, Q.holds', E.i, E.s, E.n, D.nat, E.den, BO.den, UO.den, TO.den, D.toInt_int, D.toList_list, D.ints_ofInts, i64min, i64max, u8min, u8max, u16min, u16max, u32min, u32max, u64min, u64max, i32min, i32max, Om.sub, selI, ints_app, ints_cut, ints_upd, ints_rep, ints_splice, ints_seg, len_ints]
              all_goals (first | omega | trivial))
            have p15 := (Q.holds'_iff _ _ _).2 h15
            try (
              simp only [c_q17, om_0, om_10, om_20, om_30, om_f, F30, allTold', dutiesTold, factsA, factsC, factsP, factsR, AV.facts, RW.facts, inK, and_true, Q.holds', E.i, E.s, E.n, D.nat, E.den, BO.den, UO.den, TO.den, D.toInt_int, D.toList_list, D.ints_ofInts, i64min, i64max, u8min, u8max, u16min, u16max, u32min, u32max, u64min, u64max, i32min, i32max, Om.sub, selI, ints_app, ints_cut, ints_upd, ints_rep, ints_splice, ints_seg, len_ints] at p15)
            have h16 : Q.val (om n0 n1 n2 n3) c_q18 = false := (Q.holds'_iff _ _ _).1 (by
              simp only [c_q18, om_0, om_10, om_20, om_30, om_f, F30, allTold', dutiesTold, factsA, factsC, factsP, factsR, AV.facts, RW.facts, inK, and_true, Q.holds', E.i, E.s, E.n, D.nat, E.den, BO.den, UO.den, TO.den, D.toInt_int, D.toList_list, D.ints_ofInts, i64min, i64max, u8min, u8max, u16min, u16max, u32min, u32max, u64min, u64max, i32min, i32max, Om.sub, selI, ints_app, ints_cut, ints_upd, ints_rep, ints_splice, ints_seg, len_ints]
              all_goals (first | omega | trivial))
            have p16 := (Q.holds'_iff _ _ _).2 h16
            try (
              simp only [c_q18, om_0, om_10, om_20, om_30, om_f, F30, allTold', dutiesTold, factsA, factsC, factsP, factsR, AV.facts, RW.facts, inK, and_true, Q.holds', E.i, E.s, E.n, D.nat, E.den, BO.den, UO.den, TO.den, D.toInt_int, D.toList_list, D.ints_ofInts, i64min, i64max, u8min, u8max, u16min, u16max, u32min, u32max, u64min, u64max, i32min, i32max, Om.sub, selI, ints_app, ints_cut, ints_upd, ints_rep, ints_splice, ints_seg, len_ints] at p16)
            exact calls_of_yesV sound tab_ok specs_ok overs_ok c_y5 rfl (tellA_ok (by (repeat refine told_cons (by assumption) ?_); exact told_nil)) r0 hargs
          · have p14 := (Q.holds'_iff _ _ _).2 h14
            simp only [c_q14, om_0, om_10, om_20, om_30, om_f, F30, allTold', dutiesTold, factsA, factsC, factsP, factsR, AV.facts, RW.facts, inK, and_true, Q.holds', E.i, E.s, E.n, D.nat, E.den, BO.den, UO.den, TO.den, D.toInt_int, D.toList_list, D.ints_ofInts, i64min, i64max, u8min, u8max, u16min, u16max, u32min, u32max, u64min, u64max, i32min, i32max, Om.sub, selI, ints_app, ints_cut, ints_upd, ints_rep, ints_splice, ints_seg, len_ints] at p14
            have h15 : Q.val (om n0 n1 n2 n3) c_q15 = false := (Q.holds'_iff _ _ _).1 (by
              simp only [c_q15, om_0, om_10, om_20, om_30, om_f, F30, allTold', dutiesTold, factsA, factsC, factsP, factsR, AV.facts, RW.facts, inK, and_true, Q.holds', E.i, E.s, E.n, D.nat, E.den, BO.den, UO.den, TO.den, D.toInt_int, D.toList_list, D.ints_ofInts, i64min, i64max, u8min, u8max, u16min, u16max, u32min, u32max, u64min, u64max, i32min, i32max, Om.sub, selI, ints_app, ints_cut, ints_upd, ints_rep, ints_splice, ints_seg, len_ints]
              all_goals (first | omega | trivial))
            have p15 := (Q.holds'_iff _ _ _).2 h15
            try (
              simp only [c_q15, om_0, om_10, om_20, om_30, om_f, F30, allTold', dutiesTold, factsA, factsC, factsP, factsR, AV.facts, RW.facts, inK, and_true, Q.holds', E.i, E.s, E.n, D.nat, E.den, BO.den, UO.den, TO.den, D.toInt_int, D.toList_list, D.ints_ofInts, i64min, i64max, u8min, u8max, u16min, u16max, u32min, u32max, u64min, u64max, i32min, i32max, Om.sub, selI, ints_app, ints_cut, ints_upd, ints_rep, ints_splice, ints_seg, len_ints] at p15)
            have h16 : Q.val (om n0 n1 n2 n3) c_q17 = false := (Q.holds'_iff _ _ _).1 (by
              simp only [c_q17, om_0, om_10, om_20, om_30, om_f, F30, allTold', dutiesTold, factsA, factsC, factsP, factsR, AV.facts, RW.facts, inK, and_true, Q.holds', E.i, E.s, E.n, D.nat, E.den, BO.den, UO.den, TO.den, D.toInt_int, D.toList_list, D.ints_ofInts, i64min, i64max, u8min, u8max, u16min, u16max, u32min, u32max, u64min, u64max, i32min, i32max, Om.sub, selI, ints_app, ints_cut, ints_upd, ints_rep, ints_splice, ints_seg, len_ints]
              all_goals (first | omega | trivial))
            have p16 := (Q.holds'_iff _ _ _).2 h16
            try (
              simp only [c_q17, om_0, om_10, om_20, om_30, om_f, F30, allTold', dutiesTold, factsA, factsC, factsP, factsR, AV.facts, RW.facts, inK, and_true, Q.holds', E.i, E.s, E.n, D.nat, E.den, BO.den, UO.den, TO.den, D.toInt_int, D.toList_list, D.ints_ofInts, i64min, i64max, u8min, u8max, u16min, u16max, u32min, u32max, u64min, u64max, i32min, i32max, Om.sub, selI, ints_app, ints_cut, ints_upd, ints_rep, ints_splice, ints_seg, len_ints] at p16)
            have h17 : Q.val (om n0 n1 n2 n3) c_q18 = false := (Q.holds'_iff _ _ _).1 (by
              simp only [c_q18, om_0, om_10, om_20, om_30, om_f, F30, allTold', dutiesTold, factsA, factsC, factsP, factsR, AV.facts, RW.facts, inK, and_true, Q.holds', E.i, E.s, E.n, D.nat, E.den, BO.den, UO.den, TO.den, D.toInt_int, D.toList_list, D.ints_ofInts, i64min, i64max, u8min, u8max, u16min, u16max, u32min, u32max, u64min, u64max, i32min, i32max, Om.sub, selI, ints_app, ints_cut, ints_upd, ints_rep, ints_splice, ints_seg, len_ints]
              all_goals (first | omega | trivial))
            have p17 := (Q.holds'_iff _ _ _).2 h17
            try (
              simp only [c_q18, om_0, om_10, om_20, om_30, om_f, F30, allTold', dutiesTold, factsA, factsC, factsP, factsR, AV.facts, RW.facts, inK, and_true, Q.holds', E.i, E.s, E.n, D.nat, E.den, BO.den, UO.den, TO.den, D.toInt_int, D.toList_list, D.ints_ofInts, i64min, i64max, u8min, u8max, u16min, u16max, u32min, u32max, u64min, u64max, i32min, i32max, Om.sub, selI, ints_app, ints_cut, ints_upd, ints_rep, ints_splice, ints_seg, len_ints] at p17)
            exact calls_of_yesV sound tab_ok specs_ok overs_ok c_y29 rfl (tellA_ok (by (repeat refine told_cons (by assumption) ?_); exact told_nil)) r0 hargs
        · have p13 := (Q.holds'_iff _ _ _).2 h13
          simp only [c_q16, om_0, om_10, om_20, om_30, om_f, F30, allTold', dutiesTold, factsA, factsC, factsP, factsR, AV.facts, RW.facts, inK, and_true, Q.holds', E.i, E.s, E.n, D.nat, E.den, BO.den, UO.den, TO.den, D.toInt_int, D.toList_list, D.ints_ofInts, i64min, i64max, u8min, u8max, u16min, u16max, u32min, u32max, u64min, u64max, i32min, i32max, Om.sub, selI, ints_app, ints_cut, ints_upd, ints_rep, ints_splice, ints_seg, len_ints] at p13
          have h14 : Q.val (om n0 n1 n2 n3) c_q13 = false := (Q.holds'_iff _ _ _).1 (by
            simp only [c_q13, om_0, om_10, om_20, om_30, om_f, F30, allTold', dutiesTold, factsA, factsC, factsP, factsR, AV.facts, RW.facts, inK, and_true, Q.holds', E.i, E.s, E.n, D.nat, E.den, BO.den, UO.den, TO.den, D.toInt_int, D.toList_list, D.ints_ofInts, i64min, i64max, u8min, u8max, u16min, u16max, u32min, u32max, u64min, u64max, i32min, i32max, Om.sub, selI, ints_app, ints_cut, ints_upd, ints_rep, ints_splice, ints_seg, len_ints]
            all_goals (first | omega | trivial))
          have p14 := (Q.holds'_iff _ _ _).2 h14
          try (
            simp only [c_q13, om_0, om_10, om_20, om_30, om_f, F30, allTold', dutiesTold, factsA, factsC, factsP, factsR, AV.facts, RW.facts, inK, and_true, Q.holds', E.i, E.s, E.n, D.nat, E.den, BO.den, UO.den, TO.den, D.toInt_int, D.toList_list, D.ints_ofInts, i64min, i64max, u8min, u8max, u16min, u16max, u32min, u32max, u64min, u64max, i32min, i32max, Om.sub, selI, ints_app, ints_cut, ints_upd, ints_rep, ints_splice, ints_seg, len_ints] at p14)
          have h15 : Q.val (om n0 n1 n2 n3) c_q14 = false := (Q.holds'_iff _ _ _).1 (by
            simp only [c_q14, om_0, om_10, om_20, om_30, om_f, F30, allTold', dutiesTold, factsA, factsC, factsP, factsR, AV.facts, RW.facts, inK, and_true, Q.holds', E.i, E.s, E.n, D.nat, E.den, BO.den, UO.den, TO.den, D.toInt_int, D.toList_list, D.ints_ofInts, i64min, i64max, u8min, u8max, u16min, u16max, u32min, u32max, u64min, u64max, i32min, i32max, Om.sub, selI, ints_app, ints_cut, ints_upd, ints_rep, ints_splice, ints_seg, len_ints]
            all_goals (first | omega | trivial))
          have p15 := (Q.holds'_iff _ _ _).2 h15
          try (
            simp only [c_q14, om_0, om_10, om_20, om_30, om_f, F30, allTold', dutiesTold, factsA, factsC, factsP, factsR, AV.facts, RW.facts, inK, and_true, Q.holds', E.i, E.s, E.n, D.nat, E.den, BO.den, UO.den, TO.den, D.toInt_int, D.toList_list, D.ints_ofInts, i64min, i64max, u8min, u8max, u16min, u16max, u32min, u32max, u64min, u64max, i32min, i32max, Om.sub, selI, ints_app, ints_cut, ints_upd, ints_rep, ints_splice, ints_seg, len_ints] at p15)
          have h16 : Q.val (om n0 n1 n2 n3) c_q17 = true := (Q.holds'_iff _ _ _).1 (by
            simp only [c_q17, om_0, om_10, om_20, om_30, om_f, F30, allTold', dutiesTold, factsA, factsC, factsP, factsR, AV.facts, RW.facts, inK, and_true, Q.holds', E.i, E.s, E.n, D.nat, E.den, BO.den, UO.den, TO.den, D.toInt_int, D.toList_list, D.ints_ofInts, i64min, i64max, u8min, u8max, u16min, u16max, u32min, u32max, u64min, u64max, i32min, i32max, Om.sub, selI, ints_app, ints_cut, ints_upd, ints_rep, ints_splice, ints_seg, len_ints]
            all_goals (first | omega | trivial))
          have p16 := (Q.holds'_iff _ _ _).2 h16
          try (
            simp only [c_q17, om_0, om_10, om_20, om_30, om_f, F30, allTold', dutiesTold, factsA, factsC, factsP, factsR, AV.facts, RW.facts, inK, and_true, Q.holds', E.i, E.s, E.n, D.nat, E.den, BO.den, UO.den, TO.den, D.toInt_int, D.toList_list, D.ints_ofInts, i64min, i64max, u8min, u8max, u16min, u16max, u32min, u32max, u64min, u64max, i32min, i32max, Om.sub, selI, ints_app, ints_cut, ints_upd, ints_rep, ints_splice, ints_seg, len_ints] at p16)
          have h17 : Q.val (om n0 n1 n2 n3) c_q19 = false := (Q.holds'_iff _ _ _).1 (by
            simp only [c_q19, om_0, om_10, om_20, om_30, om_f, F30, allTold', dutiesTold, factsA, factsC, factsP, factsR, AV.facts, RW.facts, inK, and_true, Q.holds', E.i, E.s, E.n, D.nat, E.den, BO.den, UO.den, TO.den, D.toInt_int, D.toList_list, D.ints_ofInts, i64min, i64max, u8min, u8max, u16min, u16max, u32min, u32max, u64min, u64max, i32min, i32max, Om.sub, selI, ints_app, ints_cut, ints_upd, ints_rep, ints_splice, ints_seg, len_ints]
            all_goals (first | omega | trivial))
          have p17 := (Q.holds'_iff _ _ _).2 h17
          try (
            simp only [c_q19, om_0, om_10, om_20, om_30, om_f, F30, allTold', dutiesTold, factsA, factsC, factsP, factsR, AV.facts, RW.facts, inK, and_true, Q.holds', E.i, E.s, E.n, D.nat, E.den, BO.den, UO.den, TO.den, D.toInt_int, D.toList_list, D.ints_ofInts, i64min, i64max, u8min, u8max, u16min, u16max, u32min, u32max, u64min, u64max, i32min, i32max, Om.sub, selI, ints_app, ints_cut, ints_upd, ints_rep, ints_splice, ints_seg, len_ints] at p17)
          have h18 : Q.val (om n0 n1 n2 n3) c_q18 = true := (Q.holds'_iff _ _ _).1 (by
            simp only [c_q18, om_0, om_10, om_20, om_30, om_f, F30, allTold', dutiesTold, factsA, factsC, factsP, factsR, AV.facts, RW.facts, inK, and_true, Q.holds', E.i, E.s, E.n, D.nat, E.den, BO.den, UO.den, TO.den, D.toInt_int, D.toList_list, D.ints_ofInts, i64min, i64max, u8min, u8max, u16min, u16max, u32min, u32max, u64min, u64max, i32min, i32max, Om.sub, selI, ints_app, ints_cut, ints_upd, ints_rep, ints_splice, ints_seg, len_ints]
            all_goals (first | omega | trivial))
          have p18 := (Q.holds'_iff _ _ _).2 h18
          try (
            simp only [c_q18, om_0, om_10, om_20, om_30, om_f, F30, allTold', dutiesTold, factsA, factsC, factsP, factsR, AV.facts, RW.facts, inK, and_true, Q.holds', E.i, E.s, E.n, D.nat, E.den, BO.den, UO.den, TO.den, D.toInt_int, D.toList_list, D.ints_ofInts, i64min, i64max, u8min, u8max, u16min, u16max, u32min, u32max, u64min, u64max, i32min, i32max, Om.sub, selI, ints_app, ints_cut, ints_upd, ints_rep, ints_splice, ints_seg, len_ints] at p18)
          exact calls_of_yesV sound tab_ok specs_ok overs_ok c_y2 rfl (tellA_ok (by (repeat refine told_cons (by assumption) ?_); exact told_nil)) r0 hargs
      · have p11 := (Q.holds'_iff _ _ _).2 h11
        simp only [c_q11, om_0, om_10, om_20, om_30, om_f, F30, allTold', dutiesTold, factsA, factsC, factsP, factsR, AV.facts, RW.facts, inK, and_true, Q.holds', E.i, E.s, E.n, D.nat, E.den, BO.den, UO.den, TO.den, D.toInt_int, D.toList_list, D.ints_ofInts, i64min, i64max, u8min, u8max, u16min, u16max, u32min, u32max, u64min, u64max, i32min, i32max, Om.sub, selI, ints_app, ints_cut, ints_upd, ints_rep, ints_splice, ints_seg, len_ints] at p11
        cases h12 : Q.val (om n0 n1 n2 n3) c_q12
        · have p12 := (Q.holds'_iff _ _ _).2 h12
          simp only [c_q12, om_0, om_10, om_20, om_30, om_f, F30, allTold', dutiesTold, factsA, factsC, factsP, factsR, AV.facts, RW.facts, inK, and_true, Q.holds', E.i, E.s, E.n, D.nat, E.den, BO.den, UO.den, TO.den, D.toInt_int, D.toList_list, D.ints_ofInts, i64min, i64max, u8min, u8max, u16min, u16max, u32min, u32max, u64min, u64max, i32min, i32max, Om.sub, selI, ints_app, ints_cut, ints_upd, ints_rep, ints_splice, ints_seg, len_ints] at p12
          cases h13 : Q.val (om n0 n1 n2 n3) c_q13
          · have p13 := (Q.holds'_iff _ _ _).2 h13
            simp only [c_q13, om_0, om_10, om_20, om_30, om_f, F30, allTold', dutiesTold, factsA, factsC, factsP, factsR, AV.facts, RW.facts, inK, and_true, Q.holds', E.i, E.s, E.n, D.nat, E.den, BO.den, UO.den, TO.den, D.toInt_int, D.toList_list, D.ints_ofInts, i64min, i64max, u8min, u8max, u16min, u16max, u32min, u32max, u64min, u64max, i32min, i32max, Om.sub, selI, ints_app, ints_cut, ints_upd, ints_rep, ints_splice, ints_seg, len_ints] at p13
            have h14 : Q.val (om n0 n1 n2 n3) c_q14 = false := (Q.holds'_iff _ _ _).1 (by
              simp only [c_q14, om_0, om_10, om_20, om_30, om_f, F30, allTold', dutiesTold, factsA, factsC, factsP, factsR, AV.facts, RW.facts, inK, and_true, Q.holds', E.i, E.s, E.n, D.nat, E.den, BO.den, UO.den, TO.den, D.toInt_int, D.toList_list, D.ints_ofInts, i64min, i64max, u8min, u8max, u16min, u16max, u32min, u32max, u64min, u64max, i32min, i32max, Om.sub, selI, ints_app, ints_cut, ints_upd, ints_rep, ints_splice, ints_seg, len_ints]
              all_goals (first | omega | trivial))
            have p14 := (Q.holds'_iff _ _ _).2 h14
            try (
              simp only [c_q14, om_0, om_10, om_20, om_30, om_f, F30, allTold', dutiesTold, factsA, factsC, factsP, factsR, AV.facts, RW.facts, inK, and_true, Q.holds', E.i, E.s, E.n, D.nat, E.den, BO.den, UO.den, TO.den, D.toInt_int, D.toList_list, D.ints_ofInts, i64min, i64max, u8min, u8max, u16min, u16max, u32min, u32max, u64min, u64max, i32min, i32max, Om.sub, selI, ints_app, ints_cut, ints_upd, ints_rep, ints_splice, ints_seg, len_ints] at p14)
            cases h15 : Q.val (om n0 n1 n2 n3) c_q17
            · have p15 := (Q.holds'_iff _ _ _).2 h15
              simp only [c_q17, om_0, om_10, om_20, om_30, om_f, F30, allTold', dutiesTold, factsA, factsC, factsP, factsR, AV.facts, RW.facts, inK, and_true, Q.holds', E.i, E.s, E.n, D.nat, E.den, BO.den, UO.den, TO.den, D.toInt_int, D.toList_list, D.ints_ofInts, i64min, i64max, u8min, u8max, u16min, u16max, u32min, u32max, u64min, u64max, i32min, i32max, Om.sub, selI, ints_app, ints_cut, ints_upd, ints_rep, ints_splice, ints_seg, len_ints] at p15
              have h16 : Q.val (om n0 n1 n2 n3) c_q18 = false := (Q.holds'_iff _ _ _).1 (by
                simp only [c_q18, om_0, om_10, om_20, om_30, om_f, F30, allTold', dutiesTold, factsA, factsC, factsP, factsR, AV.facts, RW.facts, inK, and_true, Q.holds', E.i, E.s, E.n, D.nat, E.den, BO.den, UO.den, TO.den, D.toInt_int, D.toList_list, D.ints_ofInts, i64min, i64max, u8min, u8max, u16min, u16max, u32min, u32max, u64min, u64max, i32min, i32max, Om.sub, selI, ints_app, ints_cut, ints_upd, ints_rep, ints_splice, ints_seg, len_ints]
                all_goals (first | omega | trivial))
              have p16 := (Q.holds'_iff _ _ _).2 h16
              try (
                simp only [c_q18, om_0, om_10, om_20, om_30, om_f, F30, allTold', dutiesTold, factsA, factsC, factsP, factsR, AV.facts, RW.facts, inK, and_true, Q.holds', E.i, E.s, E.n, D.nat, E.den, BO.den, UO.den, TO.den, D.toInt_int, D.toList_list, D.ints_ofInts, i64min, i64max, u8min, u8max, u16min, u16max, u32min, u32max, u64min, u64max, i32min, i32max, Om.sub, selI, ints_app, ints_cut, ints_upd, ints_rep, ints_splice, ints_seg, len_ints] at p16)
              exact calls_of_yesV sound tab_ok specs_ok overs_ok c_y4 rfl (tellA_ok (by (repeat refine told_cons (by assumption) ?_); exact told_nil)) r0 hargs
            · have p15 := (Q.holds'_iff _ _ _).2 h15
              simp only [c_q17, om_0, om_10, om_20, om_30, om_f, F30, allTold', dutiesTold, factsA, factsC, factsP, factsR, AV.facts, RW.facts, inK, and_true, Q.holds', E.i, E.s, E.n, D.nat, E.den, BO.den, UO.den, TO.den, D.toInt_int, D.toList_list, D.ints_ofInts, i64min, i64max, u8min, u8max, u16min, u16max, u32min, u32max, u64min, u64max, i32min, i32max, Om.sub, selI, ints_app, ints_cut, ints_upd, ints_rep, ints_splice, ints_seg, len_ints] at p15
              have h16 : Q.val (om n0 n1 n2 n3) c_q19 = false := (Q.holds'_iff _ _ _).1 (by
                simp only [c_q19, om_0, om_10, om_20, om_30, om_f, F30, allTold', dutiesTold, factsA, factsC, factsP, factsR, AV.facts, RW.facts, inK, and_true, Q.holds', E.i, E.s, E.n, D.nat, E.den, BO.den, UO.den, TO.den, D.toInt_int, D.toList_list, D.ints_ofInts, i64min, i64max, u8min, u8max, u16min, u16max, u32min, u32max, u64min, u64max, i32min, i32max, Om.sub, selI, ints_app, ints_cut, ints_upd, ints_rep, ints_splice, ints_seg, len_ints]
                all_goals (first | omega | trivial))
              have p16 := (Q.holds'_iff _ _ _).2 h16
              try (
                simp only [c_q19, om_0, om_10, om_20, om_30, om_f, F30, allTold', dutiesTold, factsA, factsC, factsP, factsR, AV.facts, RW.facts, inK, and_true, Q.holds', E.i, E.s, E.n, D.nat, E.den, BO.den, UO.den, TO.den, D.toInt_int, D.toList_list, D.ints_ofInts, i64min, i64max, u8min, u8max, u16min, u16max, u32min, u32max, u64min, u64max, i32min, i32max, Om.sub, selI, ints_app, ints_cut, ints_upd, ints_rep, ints_splice, ints_seg, len_ints] at p16)
              have h17 : Q.val (om n0 n1 n2 n3) c_q18 = true := (Q.holds'_iff _ _ _).1 (by
                simp only [c_q18, om_0, om_10, om_20, om_30, om_f, F30, allTold', dutiesTold, factsA, factsC, factsP, factsR, AV.facts, RW.facts, inK, and_true, Q.holds', E.i, E.s, E.n, D.nat, E.den, BO.den, UO.den, TO.den, D.toInt_int, D.toList_list, D.ints_ofInts, i64min, i64max, u8min, u8max, u16min, u16max, u32min, u32max, u64min, u64max, i32min, i32max, Om.sub, selI, ints_app, ints_cut, ints_upd, ints_rep, ints_splice, ints_seg, len_ints]
                all_goals (first | omega | trivial))
              have p17 := (Q.holds'_iff _ _ _).2 h17
              try (
                simp only [c_q18, om_0, om_10, om_20, om_30, om_f, F30, allTold', dutiesTold, factsA, factsC, factsP, factsR, AV.facts, RW.facts, inK, and_true, Q.holds', E.i, E.s, E.n, D.nat, E.den, BO.den, UO.den, TO.den, D.toInt_int, D.toList_list, D.ints_ofInts, i64min, i64max, u8min, u8max, u16min, u16max, u32min, u32max, u64min, u64max, i32min, i32max, Om.sub, selI, ints_app, ints_cut, ints_upd, ints_rep, ints_splice, ints_seg, len_ints] at p17)
              exact calls_of_yesV sound tab_ok specs_ok overs_ok c_y28 rfl (tellA_ok (by (repeat refine told_cons (by assumption) ?_); exact told_nil)) r0 hargs
          · have p13 := (Q.holds'_iff _ _ _).2 h13
            simp only [c_q13, om_0, om_10, om_20, om_30, om_f, F30, allTold', dutiesTold, factsA, factsC, factsP, factsR, AV.facts, RW.facts, inK, and_true, Q.holds', E.i, E.s, E.n, D.nat, E.den, BO.den, UO.den, TO.den, D.toInt_int, D.toList_list, D.ints_ofInts, i64min, i64max, u8min, u8max, u16min, u16max, u32min, u32max, u64min, u64max, i32min, i32max, Om.sub, selI, ints_app, ints_cut, ints_upd, ints_rep, ints_splice, ints_seg, len_ints] at p13
            have h14 : Q.val (om n0 n1 n2 n3) c_q16 = false := (Q.holds'_iff _ _ _).1 (by
              simp only [c_q16, om_0, om_10, om_20, om_30, om_f, F30, allTold', dutiesTold, factsA, factsC, factsP, factsR, AV.facts, RW.facts, inK, and_true, Q.holds', E.i, E.s, E.n, D.nat, E.den, BO.den, UO.den, TO.den, D.toInt_int, D.toList_list, D.ints_ofInts, i64min, i64max, u8min, u8max, u16min, u16max, u32min, u32max, u64min, u64max, i32min, i32max, Om.sub, selI, ints_app, ints_cut, ints_upd, ints_rep, ints_splice, ints_seg, len_ints]
              all_goals (first | omega | trivial))
            have p14 := (Q.holds'_iff _ _ _).2 h14
            try (
              simp only [c_q16, om_0, om_10, om_20, om_30, om_f, F30, allTold', dutiesTold, factsA, factsC, factsP, factsR, AV.facts, RW.facts, inK, and_true, Q.holds', E.i, E.s, E.n, D.nat, E.den, BO.den, UO.den, TO.den, D.toInt_int, D.toList_list, D.ints_ofInts, i64min, i64max, u8min, u8max, u16min, u16max, u32min, u32max, u64min, u64max, i32min, i32max, Om.sub, selI, ints_app, ints_cut, ints_upd, ints_rep, ints_splice, ints_seg, len_ints] at p14)
            have h15 : Q.val (om n0 n1 n2 n3) c_q14 = true := (Q.holds'_iff _ _ _).1 (by
              simp only [c_q14, om_0, om_10, om_20, om_30, om_f, F30, allTold', dutiesTold, factsA, factsC, factsP, factsR, AV.facts, RW.facts, inK, and_true, Q.holds', E.i, E.s, E.n, D.nat, E.den, BO.den, UO.den, TO.den, D.toInt_int, D.toList_list, D.ints_ofInts, i64min, i64max, u8min, u8max, u16min, u16max, u32min, u32max, u64min, u64max, i32min, i32max, Om.sub, selI, ints_app, ints_cut, ints_upd, ints_rep, ints_splice, ints_seg, len_ints]
              all_goals (first | omega | trivial))
            have p15 := (Q.holds'_iff _ _ _).2 h15
            try (
              simp only [c_q14, om_0, om_10, om_20, om_30, om_f, F30, allTold', dutiesTold, factsA, factsC, factsP, factsR, AV.facts, RW.facts, inK, and_true, Q.holds', E.i, E.s, E.n, D.nat, E.den, BO.den, UO.den, TO.den, D.toInt_int, D.toList_list, D.ints_ofInts, i64min, i64max, u8min, u8max, u16min, u16max, u32min, u32max, u64min, u64max, i32min, i32max, Om.sub, selI, ints_app, ints_cut, ints_upd, ints_rep, ints_splice, ints_seg, len_ints] at p15)
            have h16 : Q.val (om n0 n1 n2 n3) c_q15 = false := (Q.holds'_iff _ _ _).1 (by
              simp only [c_q15, om_0, om_10, om_20, om_30, om_f, F30, allTold', dutiesTold, factsA, factsC, factsP, factsR, AV.facts, RW.facts, inK, and_true, Q.holds', E.i, E.s, E.n, D.nat, E.den, BO.den, UO.den, TO.den, D.toInt_int, D.toList_list, D.ints_ofInts, i64min, i64max, u8min, u8max, u16min, u16max, u32min, u32max, u64min, u64max, i32min, i32max, Om.sub, selI, ints_app, ints_cut, ints_upd, ints_rep, ints_splice, ints_seg, len_ints]
              all_goals (first | omega | trivial))
            have p16 := (Q.holds'_iff _ _ _).2 h16
            try (
              simp only [c_q15, om_0, om_10, om_20, om_30, om_f, F30, allTold', dutiesTold, factsA, factsC, factsP, factsR, AV.facts, RW.facts, inK, and_true, Q.holds', E.i, E.s, E.n, D.nat, E.den, BO.den, UO.den, TO.den, D.toInt_int, D.toList_list, D.ints_ofInts, i64min, i64max, u8min, u8max, u16min, u16max, u32min, u32max, u64min, u64max, i32min, i32max, Om.sub, selI, ints_app, ints_cut, ints_upd, ints_rep, ints_splice, ints_seg, len_ints] at p16)
            have h17 : Q.val (om n0 n1 n2 n3) c_q17 = false := (Q.holds'_iff _ _ _).1 (by
              simp only [c_q17, om_0, om_10, om_20, om_30, om_f, F30, allTold', dutiesTold, factsA, factsC, factsP, factsR, AV.facts, RW.facts, inK, and_true, Q.holds', E.i, E.s, E.n, D.nat, E.den, BO.den, UO.den, TO.den, D.toInt_int, D.toList_list, D.ints_ofInts, i64min, i64max, u8min, u8max, u16min, u16max, u32min, u32max, u64min, u64max, i32min, i32max, Om.sub, selI, ints_app, ints_cut, ints_upd, ints_rep, ints_splice, ints_seg, len_ints]
              all_goals (first | omega | trivial))
            have p17 := (Q.holds'_iff _ _ _).2 h17
            try (
              simp only [c_q17, om_0, om_10, om_20, om_30, om_f, F30, allTold', dutiesTold, factsA, factsC, factsP, factsR, AV.facts, RW.facts, inK, and_true, Q.holds', E.i, E.s, E.n, D.nat, E.den, BO.den, UO.den, TO.den, D.toInt_int, D.toList_list, D.ints_ofInts, i64min, i64max, u8min, u8max, u16min, u16max, u32min, u32max, u64min, u64max, i32min, i32max, Om.sub, selI, ints_app, ints_cut, ints_upd, ints_rep, ints_splice, ints_seg, len_ints] at p17)
            have h18 : Q.val (om n0 n1 n2 n3) c_q18 = false := (Q.holds'_iff _ _ _).1 (by
              simp only [c_q18, om_0, om_10, om_20, om_30, om_f, F30, allTold', dutiesTold, factsA, factsC, factsP, factsR, AV.facts, RW.facts, inK, and_true, Q.holds', E.i, E.s, E.n, D.nat, E.den, BO.den, UO.den, TO.den, D.toInt_int, D.toList_list, D.ints_ofInts, i64min, i64max, u8min, u8max, u16min, u16max, u32min, u32max, u64min, u64max, i32min, i32max, Om.sub, selI, ints_app, ints_cut, ints_upd, ints_rep, ints_splice, ints_seg, len_ints]
              all_goals (first | omega | trivial))
            have p18 := (Q.holds'_iff _ _ _).2 h18
            try (
              simp only [c_q18, om_0, om_10, om_20, om_30, om_f, F30, allTold', dutiesTold, factsA, factsC, factsP, factsR, AV.facts, RW.facts, inK, and_true, Q.holds', E.i, E.s, E.n, D.nat, E.den, BO.den, UO.den, TO.den, D.toInt_int, D.toList_list, D.ints_ofInts, i64min, i64max, u8min, u8max, u16min, u16max, u32min, u32max, u64min, u64max, i32min, i32max, Om.sub, selI, ints_app, ints_cut, ints_upd, ints_rep, ints_splice, ints_seg, len_ints] at p18)
            exact calls_of_yesV sound tab_ok specs_ok overs_ok c_y1 rfl (tellA_ok (by (repeat refine told_cons (by assumption) ?_); exact told_nil)) r0 hargs
        · have p12 := (Q.holds'_iff _ _ _).2 h12
          simp only [c_q12, om_0, om_10, om_20, om_30, om_f, F30, allTold', dutiesTold, factsA, factsC, factsP, factsR, AV.facts, RW.facts, inK, and_true, Q.holds', E.i, E.s, E.n, D.nat, E.den, BO.den, UO.den, TO.den, D.toInt_int, D.toList_list, D.ints_ofInts, i64min, i64max, u8min, u8max, u16min, u16max, u32min, u32max, u64min, u64max, i32min, i32max, Om.sub, selI, ints_app, ints_cut, ints_upd, ints_rep, ints_splice, ints_seg, len_ints] at p12
          cases h13 : Q.val (om n0 n1 n2 n3) c_q13
          · have p13 := (Q.holds'_iff _ _ _).2 h13
            simp only [c_q13, om_0, om_10, om_20, om_30, om_f, F30, allTold', dutiesTold, factsA, factsC, factsP, factsR, AV.facts, RW.facts, inK, and_true, Q.holds', E.i, E.s, E.n, D.nat, E.den, BO.den, UO.den, TO.den, D.toInt_int, D.toList_list, D.ints_ofInts, i64min, i64max, u8min, u8max, u16min, u16max, u32min, u32max, u64min, u64max, i32min, i32max, Om.sub, selI, ints_app, ints_cut, ints_upd, ints_rep, ints_splice, ints_seg, len_ints] at p13
            have h14 : Q.val (om n0 n1 n2 n3) c_q14 = false := (Q.holds'_iff _ _ _).1 (by
              simp only [c_q14, om_0, om_10, om_20, om_30, om_f, F30, allTold', dutiesTold, factsA, factsC, factsP, factsR, AV.facts, RW.facts, inK, and_true, Q.holds', E.i, E.s, E.n, D.nat, E.den, BO.den, UO.den, TO.den, D.toInt_int, D.toList_list, D.ints_ofInts, i64min, i64max, u8min, u8max, u16min, u16max, u32min, u32max, u64min, u64max, i32min, i32max, Om.sub, selI, ints_app, ints_cut, ints_upd, ints_rep, ints_splice, ints_seg, len_ints]
              all_goals (first | omega | trivial))
            have p14 := (Q.holds'_iff _ _ _).2 h14
            try (
              simp only [c_q14, om_0, om_10, om_20, om_30, om_f, F30, allTold', dutiesTold, factsA, factsC, factsP, factsR, AV.facts, RW.facts, inK, and_true, Q.holds', E.i, E.s, E.n, D.nat, E.den, BO.den, UO.den, TO.den, D.toInt_int, D.toList_list, D.ints_ofInts, i64min, i64max, u8min, u8max, u16min, u16max, u32min, u32max, u64min, u64max, i32min, i32max, Om.sub, selI, ints_app, ints_cut, ints_upd, ints_rep, ints_splice, ints_seg, len_ints] at p14)
            have h15 : Q.val (om n0 n1 n2 n3) c_q17 = false := (Q.holds'_iff _ _ _).1 (by
              simp only [c_q17, om_0, om_10, om_20, om_30, om_f, F30, allTold', dutiesTold, factsA, factsC, factsP, factsR, AV.facts, RW.facts, inK, and_true, Q.holds', E.i, E.s, E.n, D.nat, E.den, BO.den, UO.den, TO.den, D.toInt_int, D.toList_list, D.ints_ofInts, i64min, i64max, u8min, u8max, u16min, u16max, u32min, u32max, u64min, u64max, i32min, i32max, Om.sub, selI, ints_app, ints_cut, ints_upd, ints_rep, ints_splice, ints_seg, len_ints]
              all_goals (first | omega | trivial))
            have p15 := (Q.holds'_iff _ _ _).2 h15
            try (
              simp only [c_q17, om_0, om_10, om_20, om_30, om_f, F30, allTold', dutiesTold, factsA, factsC, factsP, factsR, AV.facts, RW.facts, inK, and_true, Q.holds', E.i, E.s, E.n, D.nat, E.den, BO.den, UO.den, TO.den, D.toInt_int, D.toList_list, D.ints_ofInts, i64min, i64max, u8min, u8max, u16min, u16max, u32min, u32max, u64min, u64max, i32min, i32max, Om.sub, selI, ints_app, ints_cut, ints_upd, ints_rep, ints_splice, ints_seg, len_ints] at p15)
            have h16 : Q.val (om n0 n1 n2 n3) c_q18 = false := (Q.holds'_iff _ _ _).1 (by
              simp only [c_q18, om_0, om_10, om_20, om_30, om_f, F30, allTold', dutiesTold, factsA, factsC, factsP, factsR, AV.facts, RW.facts, inK, and_true, Q.holds', E.i, E.s, E.n, D.nat, E.den, BO.den, UO.den, TO.den, D.toInt_int, D.toList_list, D.ints_ofInts, i64min, i64max, u8min, u8max, u16min, u16max, u32min, u32max, u64min, u64max, i32min, i32max, Om.sub, selI, ints_app, ints_cut, ints_upd, ints_rep, ints_splice, ints_seg, len_ints]
              all_goals (first | omega | trivial))
            have p16 := (Q.holds'_iff _ _ _).2 h16
            try (
              simp only [c_q18, om_0, om_10, om_20, om_30, om_f, F30, allTold', dutiesTold, factsA, factsC, factsP, factsR, AV.facts, RW.facts, inK, and_true, Q.holds', E.i, E.s, E.n, D.nat, E.den, BO.den, UO.den, TO.den, D.toInt_int, D.toList_list, D.ints_ofInts, i64min, i64max, u8min, u8max, u16min, u16max, u32min, u32max, u64min, u64max, i32min, i32max, Om.sub, selI, ints_app, ints_cut, ints_upd, ints_rep, ints_splice, ints_seg, len_ints] at p16)
            exact calls_of_yesV sound tab_ok specs_ok overs_ok c_y3 rfl (tellA_ok (by (repeat refine told_cons (by assumption) ?_); exact told_nil)) r0 hargs
          · have p13 := (Q.holds'_iff _ _ _).2 h13
            simp only [c_q13, om_0, om_10, om_20, om_30, om_f, F30, allTold', dutiesTold, factsA, factsC, factsP, factsR, AV.facts, RW.facts, inK, and_true, Q.holds', E.i, E.s, E.n, D.nat, E.den, BO.den, UO.den, TO.den, D.toInt_int, D.toList_list, D.ints_ofInts, i64min, i64max, u8min, u8max, u16min, u16max, u32min, u32max, u64min, u64max, i32min, i32max, Om.sub, selI, ints_app, ints_cut, ints_upd, ints_rep, ints_splice, ints_seg, len_ints] at p13
            have h14 : Q.val (om n0 n1 n2 n3) c_q14 = true := (Q.holds'_iff _ _ _).1 (by
              simp only [c_q14, om_0, om_10, om_20, om_30, om_f, F30, allTold', dutiesTold, factsA, factsC, factsP, factsR, AV.facts, RW.facts, inK, and_true, Q.holds', E.i, E.s, E.n, D.nat, E.den, BO.den, UO.den, TO.den, D.toInt_int, D.toList_list, D.ints_ofInts, i64min, i64max, u8min, u8max, u16min, u16max, u32min, u32max, u64min, u64max, i32min, i32max, Om.sub, selI, ints_app, ints_cut, ints_upd, ints_rep, ints_splice, ints_seg, len_ints]
              all_goals (first | omega | trivial))
            have p14 := (Q.holds'_iff _ _ _).2 h14
            try (
              simp only [c_q14, om_0, om_10, om_20, om_30, om_f, F30, allTold', dutiesTold, factsA, factsC, factsP, factsR, AV.facts, RW.facts, inK, and_true, Q.holds', E.i, E.s, E.n, D.nat, E.den, BO.den, UO.den, TO.den, D.toInt_int, D.toList_list, D.ints_ofInts, i64min, i64max, u8min, u8max, u16min, u16max, u32min, u32max, u64min, u64max, i32min, i32max, Om.sub, selI, ints_app, ints_cut, ints_upd, ints_rep, ints_splice, ints_seg, len_ints] at p14)
            have h15 : Q.val (om n0 n1 n2 n3) c_q15 = true := (Q.holds'_iff _ _ _).1 (by
              simp only [c_q15, om_0, om_10, om_20, om_30, om_f, F30, allTold', dutiesTold, factsA, factsC, factsP, factsR, AV.facts, RW.facts, inK, and_true, Q.holds', E.i, E.s, E.n, D.nat, E.den, BO.den, UO.den, TO.den, D.toInt_int, D.toList_list, D.ints_ofInts, i64min, i64max, u8min, u8max, u16min, u16max, u32min, u32max, u64min, u64max, i32min, i32max, Om.sub, selI, ints_app, ints_cut, ints_upd, ints_rep, ints_splice, ints_seg, len_ints]
              all_goals (first | omega | trivial))
            have p15 := (Q.holds'_iff _ _ _).2 h15
            try (
              simp only [c_q15, om_0, om_10, om_20, om_30, om_f, F30, allTold', dutiesTold, factsA, factsC, factsP, factsR, AV.facts, RW.facts, inK, and_true, Q.holds', E.i, E.s, E.n, D.nat, E.den, BO.den, UO.den, TO.den, D.toInt_int, D.toList_list, D.ints_ofInts, i64min, i64max, u8min, u8max, u16min, u16max, u32min, u32max, u64min, u64max, i32min, i32max, Om.sub, selI, ints_app, ints_cut, ints_upd, ints_rep, ints_splice, ints_seg, len_ints] at p15)
            exact calls_of_yesV sound tab_ok specs_ok overs_ok c_y0 rfl (tellA_ok (by (repeat refine told_cons (by assumption) ?_); exact told_nil)) r0 hargs

theorem underI3 : Try.prog.underlying 3 = some (.int .i64) := by kernel_rfl

set_option maxRecDepth 100000 in
theorem lifted (os : Os) (started : os.Started) (H : Type) (enc : TypeId × Value → H) :
    ReturnsInHanded {} Try.checked os 8 .any (Rows.netCutSpec.pre6 enc Try.prog Try.f8 Rows.netCutRow.domain false) (Rows.netCutSpec.post enc Try.prog Try.f8 false true false false) := by
  refine returnsInHanded_of_change (C := Try.checked) own started (by kernel_rfl) Try.func8
    (ChangeSpec.witness6 (enc := enc) (C := Try.checked) false ⟨#[], #[.int .i64 0, .int .i64 0, .int .i64 0, .int .i64 0], []⟩ 8 (by kernel_rfl) (by kernel_rfl) (by kernel_rfl) (by kernel_rfl)) ?_
  intro W base args ds gs before hval0 hW hcnd _
  have hval : ∀ (j : Nat) t v, Try.f8.params[j]? = some t → args[j]? = some v → Value.okWide Try.prog W .any base t v := hval0
  have hW' := hW
  have hlt := hW.lt
  obtain ⟨p, q, hA0, hV, rfl, hfz, hnd⟩ := hW
  have hA : DataW.TrodAll enc Try.prog W 0 (fun _ => true) true Try.f8.params.toList args.toList ds p := hA0
  have hAll := hA
  rw [Try.params8] at hA hval hAll
  obtain ⟨rfl, rfl⟩ := trodVars_none hV
  obtain ⟨pv0, pv1, pv2, pv3, d0, d1, d2, d3, p0, p1, p2, p3, rfl, rfl, rfl, h0, h1, h2, h3⟩ := trodAll_four hA
  obtain ⟨n0, rfl, rfl, rfl, wn0⟩ := open_int underI3 (hval 0 3 _ rfl rfl) h0
  have wn0 := wf_inK wn0
  obtain ⟨n1, rfl, rfl, rfl, wn1⟩ := open_int underI3 (hval 1 3 _ rfl rfl) h1
  have wn1 := wf_inK wn1
  obtain ⟨n2, rfl, rfl, rfl, wn2⟩ := open_int underI3 (hval 2 3 _ rfl rfl) h2
  have wn2 := wf_inK wn2
  obtain ⟨n3, rfl, rfl, rfl, wn3⟩ := open_int underI3 (hval 3 3 _ rfl rfl) h3
  have wn3 := wf_inK wn3
  clear hA0 hval0
  have hcall : Calls Try.prog 8 #[.int .i64 n0, .int .i64 n1, .int .i64 n2, .int .i64 n3] W fun e w' => e = .returned (.bool true) ∧ Below W.heap.size W w' := by
    exact c_walk wn0 wn1 wn2 wn3 (globs0 _ W)
  refine hcall.mono fun e W' ⟨he, hg⟩ => ?_
  subst he
  exact ⟨_, rfl, _, [], _, [], _, [], hW', trodAll_cons_mk (shut_bool Try.underlying4 _) trodAll_mk0, trodAll_stays laid hg _ _ _ _ hAll (fun x hx => hlt x (by simp at hx)) (by kernel_rfl), rfl, hg.frame _, fun h => by cases h⟩

theorem over : Rows.netCutRow.holds Try.pinned (OpenSpec.ofChange Rows.netCutSpec) :=
  OpenClaim.holds_of_wide 8 Try.f8 rfl rfl rfl rfl rfl rfl rfl ⟨rfl, rfl, rfl, rfl, rfl⟩ rfl rfl rfl rfl rfl (by kernel_rfl) Try.func8 (by kernel_rfl)
    (of_decide_eq_true (by kernel_rfl)) (by unfold Func.isWrapper; first | (rw [if_pos (by decide +kernel)]; kernel_rfl) | (rw [if_neg (by decide +kernel)]; exact ⟨rfl, rfl⟩))
    (fun os started H enc _ => lifted os started H enc)

/-- The statement. -/
theorem proved : Rows.NetCutSaid :=
  over
#print axioms proved
end Go.Proofs.Ytgjhonjdomegnaa.netCut
