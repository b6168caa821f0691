/-
 The law DiskNone of the layer disk holds of the code: for all inputs the call returns true, and the arguments read as they did. No condition.
-/
import Derived.Test.YtmlocknojpmfpaaCo
import Derived.Test.YtmlocknojpmfpaaSycp
import Derived.Test.YtmlocknojpmfpaaSyag
import Derived.Test.YtmlocknojpmfpaaLa
import Derived.WalkKit
import Derived.ProofKit
import Derived.OpenShut
set_option linter.unusedSimpArgs false
set_option linter.unusedVariables false
namespace Go.Proofs.Ytmlocknojpmfpaa.diskNone
open Go.ChangeShapes Go.WideShapes Go.ChangeAt Go.RowKit Go.Ev Go.Proofs.Ytmlocknojpmfpaa.Co Go.Proofs.Ytmlocknojpmfpaa.La

def om (n0 : Int) (n1 : Int) (s2 : ByteArray) (s3 : ByteArray) (len4 cap4 : Nat) (zs4 : List Int) (len5 cap5 : Nat) (zs5 : List Int) (s6 : ByteArray) : Om := ⟨fun _ => .bool false, fun i => if i = 0 then .int n0 else if i = 10 then .int n1 else if i = 20 then .int s2.size else if i = 22 then D.ofInts (strE s2) else if i = 30 then .int s3.size else if i = 32 then D.ofInts (strE s3) else if i = 40 then .int len4 else if i = 41 then .int cap4 else if i = 42 then D.ofInts zs4 else if i = 50 then .int len5 else if i = 51 then .int cap5 else if i = 52 then D.ofInts zs5 else if i = 60 then .int s6.size else if i = 62 then D.ofInts (strE s6) else .int 0, F⟩
theorem om_0 (n0 : Int) (n1 : Int) (s2 : ByteArray) (s3 : ByteArray) (len4 cap4 : Nat) (zs4 : List Int) (len5 cap5 : Nat) (zs5 : List Int) (s6 : ByteArray) : (om n0 n1 s2 s3 len4 cap4 zs4 len5 cap5 zs5 s6).d 0 = .int n0 := rfl
theorem om_10 (n0 : Int) (n1 : Int) (s2 : ByteArray) (s3 : ByteArray) (len4 cap4 : Nat) (zs4 : List Int) (len5 cap5 : Nat) (zs5 : List Int) (s6 : ByteArray) : (om n0 n1 s2 s3 len4 cap4 zs4 len5 cap5 zs5 s6).d 10 = .int n1 := rfl
theorem om_20 (n0 : Int) (n1 : Int) (s2 : ByteArray) (s3 : ByteArray) (len4 cap4 : Nat) (zs4 : List Int) (len5 cap5 : Nat) (zs5 : List Int) (s6 : ByteArray) : (om n0 n1 s2 s3 len4 cap4 zs4 len5 cap5 zs5 s6).d 20 = .int s2.size := rfl
theorem om_22 (n0 : Int) (n1 : Int) (s2 : ByteArray) (s3 : ByteArray) (len4 cap4 : Nat) (zs4 : List Int) (len5 cap5 : Nat) (zs5 : List Int) (s6 : ByteArray) : (om n0 n1 s2 s3 len4 cap4 zs4 len5 cap5 zs5 s6).d 22 = D.ofInts (strE s2) := rfl
theorem om_30 (n0 : Int) (n1 : Int) (s2 : ByteArray) (s3 : ByteArray) (len4 cap4 : Nat) (zs4 : List Int) (len5 cap5 : Nat) (zs5 : List Int) (s6 : ByteArray) : (om n0 n1 s2 s3 len4 cap4 zs4 len5 cap5 zs5 s6).d 30 = .int s3.size := rfl
theorem om_32 (n0 : Int) (n1 : Int) (s2 : ByteArray) (s3 : ByteArray) (len4 cap4 : Nat) (zs4 : List Int) (len5 cap5 : Nat) (zs5 : List Int) (s6 : ByteArray) : (om n0 n1 s2 s3 len4 cap4 zs4 len5 cap5 zs5 s6).d 32 = D.ofInts (strE s3) := rfl
theorem om_40 (n0 : Int) (n1 : Int) (s2 : ByteArray) (s3 : ByteArray) (len4 cap4 : Nat) (zs4 : List Int) (len5 cap5 : Nat) (zs5 : List Int) (s6 : ByteArray) : (om n0 n1 s2 s3 len4 cap4 zs4 len5 cap5 zs5 s6).d 40 = .int len4 := rfl
theorem om_41 (n0 : Int) (n1 : Int) (s2 : ByteArray) (s3 : ByteArray) (len4 cap4 : Nat) (zs4 : List Int) (len5 cap5 : Nat) (zs5 : List Int) (s6 : ByteArray) : (om n0 n1 s2 s3 len4 cap4 zs4 len5 cap5 zs5 s6).d 41 = .int cap4 := rfl
theorem om_42 (n0 : Int) (n1 : Int) (s2 : ByteArray) (s3 : ByteArray) (len4 cap4 : Nat) (zs4 : List Int) (len5 cap5 : Nat) (zs5 : List Int) (s6 : ByteArray) : (om n0 n1 s2 s3 len4 cap4 zs4 len5 cap5 zs5 s6).d 42 = D.ofInts zs4 := rfl
theorem om_50 (n0 : Int) (n1 : Int) (s2 : ByteArray) (s3 : ByteArray) (len4 cap4 : Nat) (zs4 : List Int) (len5 cap5 : Nat) (zs5 : List Int) (s6 : ByteArray) : (om n0 n1 s2 s3 len4 cap4 zs4 len5 cap5 zs5 s6).d 50 = .int len5 := rfl
theorem om_51 (n0 : Int) (n1 : Int) (s2 : ByteArray) (s3 : ByteArray) (len4 cap4 : Nat) (zs4 : List Int) (len5 cap5 : Nat) (zs5 : List Int) (s6 : ByteArray) : (om n0 n1 s2 s3 len4 cap4 zs4 len5 cap5 zs5 s6).d 51 = .int cap5 := rfl
theorem om_52 (n0 : Int) (n1 : Int) (s2 : ByteArray) (s3 : ByteArray) (len4 cap4 : Nat) (zs4 : List Int) (len5 cap5 : Nat) (zs5 : List Int) (s6 : ByteArray) : (om n0 n1 s2 s3 len4 cap4 zs4 len5 cap5 zs5 s6).d 52 = D.ofInts zs5 := rfl
theorem om_60 (n0 : Int) (n1 : Int) (s2 : ByteArray) (s3 : ByteArray) (len4 cap4 : Nat) (zs4 : List Int) (len5 cap5 : Nat) (zs5 : List Int) (s6 : ByteArray) : (om n0 n1 s2 s3 len4 cap4 zs4 len5 cap5 zs5 s6).d 60 = .int s6.size := rfl
theorem om_62 (n0 : Int) (n1 : Int) (s2 : ByteArray) (s3 : ByteArray) (len4 cap4 : Nat) (zs4 : List Int) (len5 cap5 : Nat) (zs5 : List Int) (s6 : ByteArray) : (om n0 n1 s2 s3 len4 cap4 zs4 len5 cap5 zs5 s6).d 62 = D.ofInts (strE s6) := rfl
theorem om_f (n0 : Int) (n1 : Int) (s2 : ByteArray) (s3 : ByteArray) (len4 cap4 : Nat) (zs4 : List Int) (len5 cap5 : Nat) (zs5 : List Int) (s6 : ByteArray) : (om n0 n1 s2 s3 len4 cap4 zs4 len5 cap5 zs5 s6).f = F := rfl

abbrev c_emp_emp_q0 : Q := (.fit .i64 (.var 20))
abbrev c_emp_emp_q1 : Q := (.fit .i64 (.var 30))
abbrev c_emp_emp_q2 : Q := (.fit .i64 (.bi .add (.var 20) (.var 30)))
abbrev c_emp_emp_q3 : Q := (.le (.bi .add (.var 20) (.var 30)) (.int 4000))
abbrev c_emp_emp_q4 : Q := (.fit .i64 (.var 60))
abbrev c_emp_emp_q5 : Q := (.le (.var 60) (.int 100))
abbrev c_emp_emp_q6 : Q := (.eq (.var 0) (.int 3))
abbrev c_emp_emp_q7 : Q := (.eq (.var 0) (.int 4))
abbrev c_emp_emp_q8 : Q := (.eq (.var 0) (.int 5))
abbrev c_emp_emp_q9 : Q := (.eq (.var 0) (.int 6))
abbrev c_emp_emp_q10 : Q := (.eq (.var 0) (.int 7))
abbrev c_emp_emp_q11 : Q := (.eq (.var 0) (.int 8))
abbrev c_emp_emp_q12 : Q := (.eq (.var 0) (.int 9))
abbrev c_emp_emp_q13 : Q := (.le (.bi (.iop .add .i64) (.var 20) (.var 30)) (.int 4000))
abbrev c_emp_emp_u0 : List (Q × Bool) := [(c_emp_emp_q0, true), (c_emp_emp_q1, true), (c_emp_emp_q2, true), (c_emp_emp_q3, true), (c_emp_emp_q4, true), (c_emp_emp_q5, true), (c_emp_emp_q6, false), (c_emp_emp_q7, false), (c_emp_emp_q8, false), (c_emp_emp_q9, false), (c_emp_emp_q10, false), (c_emp_emp_q11, false), (c_emp_emp_q12, false)]
set_option maxRecDepth 100000 in
theorem c_emp_emp_y0 : yesOf Try.prog (knownV (tellA c_emp_emp_u0) tab specs overs) 8000 80 3 [.agg [.sint .i64 (.var 0), .sint .i64 (.var 10), .sstr (.var 20) (.var 22), .sstr (.var 30) (.var 32), .empty, .empty], .sstr (.var 60) (.var 62)] (globSt g0) = true := by kernel_rfl
abbrev c_emp_emp_u1 : List (Q × Bool) := [(c_emp_emp_q0, true), (c_emp_emp_q1, true), (c_emp_emp_q2, true), (c_emp_emp_q3, false)]
set_option maxRecDepth 100000 in
theorem c_emp_emp_y1 : yesOf Try.prog (knownV (tellA c_emp_emp_u1) tab specs overs) 8000 80 3 [.agg [.sint .i64 (.var 0), .sint .i64 (.var 10), .sstr (.var 20) (.var 22), .sstr (.var 30) (.var 32), .empty, .empty], .sstr (.var 60) (.var 62)] (globSt g0) = true := by kernel_rfl
abbrev c_emp_emp_u2 : List (Q × Bool) := [(c_emp_emp_q0, true), (c_emp_emp_q1, true), (c_emp_emp_q2, true), (c_emp_emp_q3, true), (c_emp_emp_q4, true), (c_emp_emp_q5, false)]
set_option maxRecDepth 100000 in
theorem c_emp_emp_y2 : yesOf Try.prog (knownV (tellA c_emp_emp_u2) tab specs overs) 8000 80 3 [.agg [.sint .i64 (.var 0), .sint .i64 (.var 10), .sstr (.var 20) (.var 22), .sstr (.var 30) (.var 32), .empty, .empty], .sstr (.var 60) (.var 62)] (globSt g0) = true := by kernel_rfl
abbrev c_emp_emp_u3 : List (Q × Bool) := [(c_emp_emp_q0, true), (c_emp_emp_q1, true), (c_emp_emp_q2, false), (c_emp_emp_q13, true), (c_emp_emp_q4, true), (c_emp_emp_q5, true), (c_emp_emp_q6, false), (c_emp_emp_q7, false), (c_emp_emp_q8, false), (c_emp_emp_q9, false), (c_emp_emp_q10, false), (c_emp_emp_q11, false), (c_emp_emp_q12, false)]
set_option maxRecDepth 100000 in
theorem c_emp_emp_y3 : yesOf Try.prog (knownV (tellA c_emp_emp_u3) tab specs overs) 8000 80 3 [.agg [.sint .i64 (.var 0), .sint .i64 (.var 10), .sstr (.var 20) (.var 22), .sstr (.var 30) (.var 32), .empty, .empty], .sstr (.var 60) (.var 62)] (globSt g0) = true := by kernel_rfl
abbrev c_emp_emp_u4 : List (Q × Bool) := [(c_emp_emp_q0, true), (c_emp_emp_q1, true), (c_emp_emp_q2, true), (c_emp_emp_q3, true), (c_emp_emp_q4, true), (c_emp_emp_q5, true), (c_emp_emp_q6, true)]
set_option maxRecDepth 100000 in
theorem c_emp_emp_y4 : yesOf Try.prog (knownV (tellA c_emp_emp_u4) tab specs overs) 8000 80 3 [.agg [.sint .i64 (.var 0), .sint .i64 (.var 10), .sstr (.var 20) (.var 22), .sstr (.var 30) (.var 32), .empty, .empty], .sstr (.var 60) (.var 62)] (globSt g0) = true := by kernel_rfl
abbrev c_emp_emp_u5 : List (Q × Bool) := [(c_emp_emp_q0, true), (c_emp_emp_q1, true), (c_emp_emp_q2, true), (c_emp_emp_q3, true), (c_emp_emp_q4, true), (c_emp_emp_q5, true), (c_emp_emp_q6, false), (c_emp_emp_q7, true)]
set_option maxRecDepth 100000 in
theorem c_emp_emp_y5 : yesOf Try.prog (knownV (tellA c_emp_emp_u5) tab specs overs) 8000 80 3 [.agg [.sint .i64 (.var 0), .sint .i64 (.var 10), .sstr (.var 20) (.var 22), .sstr (.var 30) (.var 32), .empty, .empty], .sstr (.var 60) (.var 62)] (globSt g0) = true := by kernel_rfl
abbrev c_emp_emp_u6 : List (Q × Bool) := [(c_emp_emp_q0, true), (c_emp_emp_q1, true), (c_emp_emp_q2, true), (c_emp_emp_q3, true), (c_emp_emp_q4, true), (c_emp_emp_q5, true), (c_emp_emp_q6, false), (c_emp_emp_q7, false), (c_emp_emp_q8, true)]
set_option maxRecDepth 100000 in
theorem c_emp_emp_y6 : yesOf Try.prog (knownV (tellA c_emp_emp_u6) tab specs overs) 8000 80 3 [.agg [.sint .i64 (.var 0), .sint .i64 (.var 10), .sstr (.var 20) (.var 22), .sstr (.var 30) (.var 32), .empty, .empty], .sstr (.var 60) (.var 62)] (globSt g0) = true := by kernel_rfl
abbrev c_emp_emp_u7 : List (Q × Bool) := [(c_emp_emp_q0, true), (c_emp_emp_q1, true), (c_emp_emp_q2, true), (c_emp_emp_q3, true), (c_emp_emp_q4, true), (c_emp_emp_q5, true), (c_emp_emp_q6, false), (c_emp_emp_q7, false), (c_emp_emp_q8, false), (c_emp_emp_q9, true)]
set_option maxRecDepth 100000 in
theorem c_emp_emp_y7 : yesOf Try.prog (knownV (tellA c_emp_emp_u7) tab specs overs) 8000 80 3 [.agg [.sint .i64 (.var 0), .sint .i64 (.var 10), .sstr (.var 20) (.var 22), .sstr (.var 30) (.var 32), .empty, .empty], .sstr (.var 60) (.var 62)] (globSt g0) = true := by kernel_rfl
abbrev c_emp_emp_u8 : List (Q × Bool) := [(c_emp_emp_q0, true), (c_emp_emp_q1, true), (c_emp_emp_q2, true), (c_emp_emp_q3, true), (c_emp_emp_q4, true), (c_emp_emp_q5, true), (c_emp_emp_q6, false), (c_emp_emp_q7, false), (c_emp_emp_q8, false), (c_emp_emp_q9, false), (c_emp_emp_q10, true)]
set_option maxRecDepth 100000 in
theorem c_emp_emp_y8 : yesOf Try.prog (knownV (tellA c_emp_emp_u8) tab specs overs) 8000 80 3 [.agg [.sint .i64 (.var 0), .sint .i64 (.var 10), .sstr (.var 20) (.var 22), .sstr (.var 30) (.var 32), .empty, .empty], .sstr (.var 60) (.var 62)] (globSt g0) = true := by kernel_rfl
abbrev c_emp_emp_u9 : List (Q × Bool) := [(c_emp_emp_q0, true), (c_emp_emp_q1, true), (c_emp_emp_q2, true), (c_emp_emp_q3, true), (c_emp_emp_q4, true), (c_emp_emp_q5, true), (c_emp_emp_q6, false), (c_emp_emp_q7, false), (c_emp_emp_q8, false), (c_emp_emp_q9, false), (c_emp_emp_q10, false), (c_emp_emp_q11, true)]
set_option maxRecDepth 100000 in
theorem c_emp_emp_y9 : yesOf Try.prog (knownV (tellA c_emp_emp_u9) tab specs overs) 8000 80 3 [.agg [.sint .i64 (.var 0), .sint .i64 (.var 10), .sstr (.var 20) (.var 22), .sstr (.var 30) (.var 32), .empty, .empty], .sstr (.var 60) (.var 62)] (globSt g0) = true := by kernel_rfl
abbrev c_emp_emp_u10 : List (Q × Bool) := [(c_emp_emp_q0, true), (c_emp_emp_q1, true), (c_emp_emp_q2, true), (c_emp_emp_q3, true), (c_emp_emp_q4, true), (c_emp_emp_q5, true), (c_emp_emp_q6, false), (c_emp_emp_q7, false), (c_emp_emp_q8, false), (c_emp_emp_q9, false), (c_emp_emp_q10, false), (c_emp_emp_q11, false), (c_emp_emp_q12, true)]
set_option maxRecDepth 100000 in
theorem c_emp_emp_y10 : yesOf Try.prog (knownV (tellA c_emp_emp_u10) tab specs overs) 8000 80 3 [.agg [.sint .i64 (.var 0), .sint .i64 (.var 10), .sstr (.var 20) (.var 22), .sstr (.var 30) (.var 32), .empty, .empty], .sstr (.var 60) (.var 62)] (globSt g0) = true := by kernel_rfl
abbrev c_emp_emp_u11 : List (Q × Bool) := [(c_emp_emp_q0, true), (c_emp_emp_q1, true), (c_emp_emp_q2, false), (c_emp_emp_q13, false)]
set_option maxRecDepth 100000 in
theorem c_emp_emp_y11 : yesOf Try.prog (knownV (tellA c_emp_emp_u11) tab specs overs) 8000 80 3 [.agg [.sint .i64 (.var 0), .sint .i64 (.var 10), .sstr (.var 20) (.var 22), .sstr (.var 30) (.var 32), .empty, .empty], .sstr (.var 60) (.var 62)] (globSt g0) = true := by kernel_rfl
abbrev c_emp_emp_u12 : List (Q × Bool) := [(c_emp_emp_q0, true), (c_emp_emp_q1, true), (c_emp_emp_q2, false), (c_emp_emp_q13, true), (c_emp_emp_q4, true), (c_emp_emp_q5, false)]
set_option maxRecDepth 100000 in
theorem c_emp_emp_y12 : yesOf Try.prog (knownV (tellA c_emp_emp_u12) tab specs overs) 8000 80 3 [.agg [.sint .i64 (.var 0), .sint .i64 (.var 10), .sstr (.var 20) (.var 22), .sstr (.var 30) (.var 32), .empty, .empty], .sstr (.var 60) (.var 62)] (globSt g0) = true := by kernel_rfl
abbrev c_emp_emp_u13 : List (Q × Bool) := [(c_emp_emp_q0, true), (c_emp_emp_q1, true), (c_emp_emp_q2, false), (c_emp_emp_q13, true), (c_emp_emp_q4, true), (c_emp_emp_q5, true), (c_emp_emp_q6, true)]
set_option maxRecDepth 100000 in
theorem c_emp_emp_y13 : yesOf Try.prog (knownV (tellA c_emp_emp_u13) tab specs overs) 8000 80 3 [.agg [.sint .i64 (.var 0), .sint .i64 (.var 10), .sstr (.var 20) (.var 22), .sstr (.var 30) (.var 32), .empty, .empty], .sstr (.var 60) (.var 62)] (globSt g0) = true := by kernel_rfl
abbrev c_emp_emp_u14 : List (Q × Bool) := [(c_emp_emp_q0, true), (c_emp_emp_q1, true), (c_emp_emp_q2, false), (c_emp_emp_q13, true), (c_emp_emp_q4, true), (c_emp_emp_q5, true), (c_emp_emp_q6, false), (c_emp_emp_q7, true)]
set_option maxRecDepth 100000 in
theorem c_emp_emp_y14 : yesOf Try.prog (knownV (tellA c_emp_emp_u14) tab specs overs) 8000 80 3 [.agg [.sint .i64 (.var 0), .sint .i64 (.var 10), .sstr (.var 20) (.var 22), .sstr (.var 30) (.var 32), .empty, .empty], .sstr (.var 60) (.var 62)] (globSt g0) = true := by kernel_rfl
abbrev c_emp_emp_u15 : List (Q × Bool) := [(c_emp_emp_q0, true), (c_emp_emp_q1, true), (c_emp_emp_q2, false), (c_emp_emp_q13, true), (c_emp_emp_q4, true), (c_emp_emp_q5, true), (c_emp_emp_q6, false), (c_emp_emp_q7, false), (c_emp_emp_q8, true)]
set_option maxRecDepth 100000 in
theorem c_emp_emp_y15 : yesOf Try.prog (knownV (tellA c_emp_emp_u15) tab specs overs) 8000 80 3 [.agg [.sint .i64 (.var 0), .sint .i64 (.var 10), .sstr (.var 20) (.var 22), .sstr (.var 30) (.var 32), .empty, .empty], .sstr (.var 60) (.var 62)] (globSt g0) = true := by kernel_rfl
abbrev c_emp_emp_u16 : List (Q × Bool) := [(c_emp_emp_q0, true), (c_emp_emp_q1, true), (c_emp_emp_q2, false), (c_emp_emp_q13, true), (c_emp_emp_q4, true), (c_emp_emp_q5, true), (c_emp_emp_q6, false), (c_emp_emp_q7, false), (c_emp_emp_q8, false), (c_emp_emp_q9, true)]
set_option maxRecDepth 100000 in
theorem c_emp_emp_y16 : yesOf Try.prog (knownV (tellA c_emp_emp_u16) tab specs overs) 8000 80 3 [.agg [.sint .i64 (.var 0), .sint .i64 (.var 10), .sstr (.var 20) (.var 22), .sstr (.var 30) (.var 32), .empty, .empty], .sstr (.var 60) (.var 62)] (globSt g0) = true := by kernel_rfl
abbrev c_emp_emp_u17 : List (Q × Bool) := [(c_emp_emp_q0, true), (c_emp_emp_q1, true), (c_emp_emp_q2, false), (c_emp_emp_q13, true), (c_emp_emp_q4, true), (c_emp_emp_q5, true), (c_emp_emp_q6, false), (c_emp_emp_q7, false), (c_emp_emp_q8, false), (c_emp_emp_q9, false), (c_emp_emp_q10, true)]
set_option maxRecDepth 100000 in
theorem c_emp_emp_y17 : yesOf Try.prog (knownV (tellA c_emp_emp_u17) tab specs overs) 8000 80 3 [.agg [.sint .i64 (.var 0), .sint .i64 (.var 10), .sstr (.var 20) (.var 22), .sstr (.var 30) (.var 32), .empty, .empty], .sstr (.var 60) (.var 62)] (globSt g0) = true := by kernel_rfl
abbrev c_emp_emp_u18 : List (Q × Bool) := [(c_emp_emp_q0, true), (c_emp_emp_q1, true), (c_emp_emp_q2, false), (c_emp_emp_q13, true), (c_emp_emp_q4, true), (c_emp_emp_q5, true), (c_emp_emp_q6, false), (c_emp_emp_q7, false), (c_emp_emp_q8, false), (c_emp_emp_q9, false), (c_emp_emp_q10, false), (c_emp_emp_q11, true)]
set_option maxRecDepth 100000 in
theorem c_emp_emp_y18 : yesOf Try.prog (knownV (tellA c_emp_emp_u18) tab specs overs) 8000 80 3 [.agg [.sint .i64 (.var 0), .sint .i64 (.var 10), .sstr (.var 20) (.var 22), .sstr (.var 30) (.var 32), .empty, .empty], .sstr (.var 60) (.var 62)] (globSt g0) = true := by kernel_rfl
abbrev c_emp_emp_u19 : List (Q × Bool) := [(c_emp_emp_q0, true), (c_emp_emp_q1, true), (c_emp_emp_q2, false), (c_emp_emp_q13, true), (c_emp_emp_q4, true), (c_emp_emp_q5, true), (c_emp_emp_q6, false), (c_emp_emp_q7, false), (c_emp_emp_q8, false), (c_emp_emp_q9, false), (c_emp_emp_q10, false), (c_emp_emp_q11, false), (c_emp_emp_q12, true)]
set_option maxRecDepth 100000 in
theorem c_emp_emp_y19 : yesOf Try.prog (knownV (tellA c_emp_emp_u19) tab specs overs) 8000 80 3 [.agg [.sint .i64 (.var 0), .sint .i64 (.var 10), .sstr (.var 20) (.var 22), .sstr (.var 30) (.var 32), .empty, .empty], .sstr (.var 60) (.var 62)] (globSt g0) = true := by kernel_rfl
set_option maxRecDepth 100000 in
set_option maxHeartbeats 6000000 in
theorem c_emp_emp_walk {W : World} {n0 : Int} (hn0 : inK .i64 n0) {n1 : Int} (hn1 : inK .i64 n1) {s2 : ByteArray} (max2 : s2.size ≤ 9223372036854775807) {s3 : ByteArray} (max3 : s3.size ≤ 9223372036854775807) {v4 : Value} (hv4 : ∀ e : Env, VR e .empty v4) {v5 : Value} (hv5 : ∀ e : Env, VR e .empty v5) {s6 : ByteArray} (max6 : s6.size ≤ 9223372036854775807) (hG : GlobsR (om n0 n1 s2 s3 0 0 [] 0 0 [] s6) W g0) : Calls Try.prog 3 #[.agg #[.int .i64 n0, .int .i64 n1, .string s2, .string s3, v4, v5], .string s6] W fun e w' => e = .returned (.bool true) ∧ Below W.heap.size W w' := by
 have r0 := Rel.globs (om n0 n1 s2 s3 0 0 [] 0 0 [] s6) W g0 hG
 have hargs : VRs (Env.none (om n0 n1 s2 s3 0 0 [] 0 0 [] s6) W) [.agg [.sint .i64 (.var 0), .sint .i64 (.var 10), .sstr (.var 20) (.var 22), .sstr (.var 30) (.var 32), .empty, .empty], .sstr (.var 60) (.var 62)] [.agg #[.int .i64 n0, .int .i64 n1, .string s2, .string s3, v4, v5], .string s6] := VRs_cons (vr_agg (VRs_cons (vr_sint (i := 0) hn0 (by rw [r0.opq]; rfl)) (VRs_cons (vr_sint (i := 10) hn1 (by rw [r0.opq]; rfl)) (VRs_cons (vr_str (l := 20) (x := 22) (by rw [r0.opq]; rfl) (by rw [r0.opq]; rfl)) (VRs_cons (vr_str (l := 30) (x := 32) (by rw [r0.opq]; rfl) (by rw [r0.opq]; rfl)) (VRs_cons (hv4 _) (VRs_cons (hv5 _) (VRs_nil)))))))) (VRs_cons (vr_str (l := 60) (x := 62) (by rw [r0.opq]; rfl) (by rw [r0.opq]; rfl)) (VRs_nil))
 simp only [inK, i64min, i64max, u8min, u8max, u32min, u32max, u64min, u64max] at hn0
 simp only [inK, i64min, i64max, u8min, u8max, u32min, u32max, u64min, u64max] at hn1
 have zl2 := strE_length s2
 have rng2 := strE_in s2
 have zl3 := strE_length s3
 have rng3 := strE_in s3
 have zl6 := strE_length s6
 have rng6 := strE_in s6
 have h0 : Q.val (om n0 n1 s2 s3 0 0 [] 0 0 [] s6) c_emp_emp_q0 = true := (Q.holds'_iff _ _ _).1 (by
  simp only [c_emp_emp_q0, om_0, om_10, om_20, om_22, om_30, om_32, om_40, om_41, om_42, om_50, om_51, om_52, om_60, om_62, om_f, tl]
  all_goals (first | omega | trivial))
 have p0 := (Q.holds'_iff _ _ _).2 h0
 try (
  simp only [c_emp_emp_q0, om_0, om_10, om_20, om_22, om_30, om_32, om_40, om_41, om_42, om_50, om_51, om_52, om_60, om_62, om_f, tl] at p0)
 have h1 : Q.val (om n0 n1 s2 s3 0 0 [] 0 0 [] s6) c_emp_emp_q1 = true := (Q.holds'_iff _ _ _).1 (by
  simp only [c_emp_emp_q1, om_0, om_10, om_20, om_22, om_30, om_32, om_40, om_41, om_42, om_50, om_51, om_52, om_60, om_62, om_f, tl]
  all_goals (first | omega | trivial))
 have p1 := (Q.holds'_iff _ _ _).2 h1
 try (
  simp only [c_emp_emp_q1, om_0, om_10, om_20, om_22, om_30, om_32, om_40, om_41, om_42, om_50, om_51, om_52, om_60, om_62, om_f, tl] at p1)
 cases h2 : Q.val (om n0 n1 s2 s3 0 0 [] 0 0 [] s6) c_emp_emp_q2
 ·have p2 := (Q.holds'_iff _ _ _).2 h2
  simp only [c_emp_emp_q2, om_0, om_10, om_20, om_22, om_30, om_32, om_40, om_41, om_42, om_50, om_51, om_52, om_60, om_62, om_f, tl] at p2
  cases h3 : Q.val (om n0 n1 s2 s3 0 0 [] 0 0 [] s6) c_emp_emp_q13
  ·have p3 := (Q.holds'_iff _ _ _).2 h3
   simp only [c_emp_emp_q13, om_0, om_10, om_20, om_22, om_30, om_32, om_40, om_41, om_42, om_50, om_51, om_52, om_60, om_62, om_f, tl] at p3
   exact calls_of_yesV sound tab_ok specs_ok overs_ok c_emp_emp_y11 rfl (tellA_ok (by (repeat refine told_cons (by assumption) ?_); exact told_nil)) r0 hargs
  ·have p3 := (Q.holds'_iff _ _ _).2 h3
   simp only [c_emp_emp_q13, om_0, om_10, om_20, om_22, om_30, om_32, om_40, om_41, om_42, om_50, om_51, om_52, om_60, om_62, om_f, tl] at p3
   have h4 : Q.val (om n0 n1 s2 s3 0 0 [] 0 0 [] s6) c_emp_emp_q4 = true := (Q.holds'_iff _ _ _).1 (by
    simp only [c_emp_emp_q4, om_0, om_10, om_20, om_22, om_30, om_32, om_40, om_41, om_42, om_50, om_51, om_52, om_60, om_62, om_f, tl]
    all_goals (first | omega | trivial))
   have p4 := (Q.holds'_iff _ _ _).2 h4
   try (
    simp only [c_emp_emp_q4, om_0, om_10, om_20, om_22, om_30, om_32, om_40, om_41, om_42, om_50, om_51, om_52, om_60, om_62, om_f, tl] at p4)
   cases h5 : Q.val (om n0 n1 s2 s3 0 0 [] 0 0 [] s6) c_emp_emp_q5
   ·have p5 := (Q.holds'_iff _ _ _).2 h5
    simp only [c_emp_emp_q5, om_0, om_10, om_20, om_22, om_30, om_32, om_40, om_41, om_42, om_50, om_51, om_52, om_60, om_62, om_f, tl] at p5
    exact calls_of_yesV sound tab_ok specs_ok overs_ok c_emp_emp_y12 rfl (tellA_ok (by (repeat refine told_cons (by assumption) ?_); exact told_nil)) r0 hargs
   ·have p5 := (Q.holds'_iff _ _ _).2 h5
    simp only [c_emp_emp_q5, om_0, om_10, om_20, om_22, om_30, om_32, om_40, om_41, om_42, om_50, om_51, om_52, om_60, om_62, om_f, tl] at p5
    cases h6 : Q.val (om n0 n1 s2 s3 0 0 [] 0 0 [] s6) c_emp_emp_q6
    ·have p6 := (Q.holds'_iff _ _ _).2 h6
     simp only [c_emp_emp_q6, om_0, om_10, om_20, om_22, om_30, om_32, om_40, om_41, om_42, om_50, om_51, om_52, om_60, om_62, om_f, tl] at p6
     cases h7 : Q.val (om n0 n1 s2 s3 0 0 [] 0 0 [] s6) c_emp_emp_q7
     ·have p7 := (Q.holds'_iff _ _ _).2 h7
      simp only [c_emp_emp_q7, om_0, om_10, om_20, om_22, om_30, om_32, om_40, om_41, om_42, om_50, om_51, om_52, om_60, om_62, om_f, tl] at p7
      cases h8 : Q.val (om n0 n1 s2 s3 0 0 [] 0 0 [] s6) c_emp_emp_q8
      ·have p8 := (Q.holds'_iff _ _ _).2 h8
       simp only [c_emp_emp_q8, om_0, om_10, om_20, om_22, om_30, om_32, om_40, om_41, om_42, om_50, om_51, om_52, om_60, om_62, om_f, tl] at p8
       cases h9 : Q.val (om n0 n1 s2 s3 0 0 [] 0 0 [] s6) c_emp_emp_q9
       ·have p9 := (Q.holds'_iff _ _ _).2 h9
        simp only [c_emp_emp_q9, om_0, om_10, om_20, om_22, om_30, om_32, om_40, om_41, om_42, om_50, om_51, om_52, om_60, om_62, om_f, tl] at p9
        cases h10 : Q.val (om n0 n1 s2 s3 0 0 [] 0 0 [] s6) c_emp_emp_q10
        ·have p10 := (Q.holds'_iff _ _ _).2 h10
         simp only [c_emp_emp_q10, om_0, om_10, om_20, om_22, om_30, om_32, om_40, om_41, om_42, om_50, om_51, om_52, om_60, om_62, om_f, tl] at p10
         cases h11 : Q.val (om n0 n1 s2 s3 0 0 [] 0 0 [] s6) c_emp_emp_q11
         ·have p11 := (Q.holds'_iff _ _ _).2 h11
          simp only [c_emp_emp_q11, om_0, om_10, om_20, om_22, om_30, om_32, om_40, om_41, om_42, om_50, om_51, om_52, om_60, om_62, om_f, tl] at p11
          cases h12 : Q.val (om n0 n1 s2 s3 0 0 [] 0 0 [] s6) c_emp_emp_q12
          ·have p12 := (Q.holds'_iff _ _ _).2 h12
           simp only [c_emp_emp_q12, om_0, om_10, om_20, om_22, om_30, om_32, om_40, om_41, om_42, om_50, om_51, om_52, om_60, om_62, om_f, tl] at p12
           exact calls_of_yesV sound tab_ok specs_ok overs_ok c_emp_emp_y3 rfl (tellA_ok (by (repeat refine told_cons (by assumption) ?_); exact told_nil)) r0 hargs
          ·have p12 := (Q.holds'_iff _ _ _).2 h12
           simp only [c_emp_emp_q12, om_0, om_10, om_20, om_22, om_30, om_32, om_40, om_41, om_42, om_50, om_51, om_52, om_60, om_62, om_f, tl] at p12
           exact calls_of_yesV sound tab_ok specs_ok overs_ok c_emp_emp_y19 rfl (tellA_ok (by (repeat refine told_cons (by assumption) ?_); exact told_nil)) r0 hargs
         ·have p11 := (Q.holds'_iff _ _ _).2 h11
          simp only [c_emp_emp_q11, om_0, om_10, om_20, om_22, om_30, om_32, om_40, om_41, om_42, om_50, om_51, om_52, om_60, om_62, om_f, tl] at p11
          exact calls_of_yesV sound tab_ok specs_ok overs_ok c_emp_emp_y18 rfl (tellA_ok (by (repeat refine told_cons (by assumption) ?_); exact told_nil)) r0 hargs
        ·have p10 := (Q.holds'_iff _ _ _).2 h10
         simp only [c_emp_emp_q10, om_0, om_10, om_20, om_22, om_30, om_32, om_40, om_41, om_42, om_50, om_51, om_52, om_60, om_62, om_f, tl] at p10
         exact calls_of_yesV sound tab_ok specs_ok overs_ok c_emp_emp_y17 rfl (tellA_ok (by (repeat refine told_cons (by assumption) ?_); exact told_nil)) r0 hargs
       ·have p9 := (Q.holds'_iff _ _ _).2 h9
        simp only [c_emp_emp_q9, om_0, om_10, om_20, om_22, om_30, om_32, om_40, om_41, om_42, om_50, om_51, om_52, om_60, om_62, om_f, tl] at p9
        exact calls_of_yesV sound tab_ok specs_ok overs_ok c_emp_emp_y16 rfl (tellA_ok (by (repeat refine told_cons (by assumption) ?_); exact told_nil)) r0 hargs
      ·have p8 := (Q.holds'_iff _ _ _).2 h8
       simp only [c_emp_emp_q8, om_0, om_10, om_20, om_22, om_30, om_32, om_40, om_41, om_42, om_50, om_51, om_52, om_60, om_62, om_f, tl] at p8
       exact calls_of_yesV sound tab_ok specs_ok overs_ok c_emp_emp_y15 rfl (tellA_ok (by (repeat refine told_cons (by assumption) ?_); exact told_nil)) r0 hargs
     ·have p7 := (Q.holds'_iff _ _ _).2 h7
      simp only [c_emp_emp_q7, om_0, om_10, om_20, om_22, om_30, om_32, om_40, om_41, om_42, om_50, om_51, om_52, om_60, om_62, om_f, tl] at p7
      exact calls_of_yesV sound tab_ok specs_ok overs_ok c_emp_emp_y14 rfl (tellA_ok (by (repeat refine told_cons (by assumption) ?_); exact told_nil)) r0 hargs
    ·have p6 := (Q.holds'_iff _ _ _).2 h6
     simp only [c_emp_emp_q6, om_0, om_10, om_20, om_22, om_30, om_32, om_40, om_41, om_42, om_50, om_51, om_52, om_60, om_62, om_f, tl] at p6
     exact calls_of_yesV sound tab_ok specs_ok overs_ok c_emp_emp_y13 rfl (tellA_ok (by (repeat refine told_cons (by assumption) ?_); exact told_nil)) r0 hargs
 ·have p2 := (Q.holds'_iff _ _ _).2 h2
  simp only [c_emp_emp_q2, om_0, om_10, om_20, om_22, om_30, om_32, om_40, om_41, om_42, om_50, om_51, om_52, om_60, om_62, om_f, tl] at p2
  cases h3 : Q.val (om n0 n1 s2 s3 0 0 [] 0 0 [] s6) c_emp_emp_q3
  ·have p3 := (Q.holds'_iff _ _ _).2 h3
   simp only [c_emp_emp_q3, om_0, om_10, om_20, om_22, om_30, om_32, om_40, om_41, om_42, om_50, om_51, om_52, om_60, om_62, om_f, tl] at p3
   exact calls_of_yesV sound tab_ok specs_ok overs_ok c_emp_emp_y1 rfl (tellA_ok (by (repeat refine told_cons (by assumption) ?_); exact told_nil)) r0 hargs
  ·have p3 := (Q.holds'_iff _ _ _).2 h3
   simp only [c_emp_emp_q3, om_0, om_10, om_20, om_22, om_30, om_32, om_40, om_41, om_42, om_50, om_51, om_52, om_60, om_62, om_f, tl] at p3
   have h4 : Q.val (om n0 n1 s2 s3 0 0 [] 0 0 [] s6) c_emp_emp_q4 = true := (Q.holds'_iff _ _ _).1 (by
    simp only [c_emp_emp_q4, om_0, om_10, om_20, om_22, om_30, om_32, om_40, om_41, om_42, om_50, om_51, om_52, om_60, om_62, om_f, tl]
    all_goals (first | omega | trivial))
   have p4 := (Q.holds'_iff _ _ _).2 h4
   try (
    simp only [c_emp_emp_q4, om_0, om_10, om_20, om_22, om_30, om_32, om_40, om_41, om_42, om_50, om_51, om_52, om_60, om_62, om_f, tl] at p4)
   cases h5 : Q.val (om n0 n1 s2 s3 0 0 [] 0 0 [] s6) c_emp_emp_q5
   ·have p5 := (Q.holds'_iff _ _ _).2 h5
    simp only [c_emp_emp_q5, om_0, om_10, om_20, om_22, om_30, om_32, om_40, om_41, om_42, om_50, om_51, om_52, om_60, om_62, om_f, tl] at p5
    exact calls_of_yesV sound tab_ok specs_ok overs_ok c_emp_emp_y2 rfl (tellA_ok (by (repeat refine told_cons (by assumption) ?_); exact told_nil)) r0 hargs
   ·have p5 := (Q.holds'_iff _ _ _).2 h5
    simp only [c_emp_emp_q5, om_0, om_10, om_20, om_22, om_30, om_32, om_40, om_41, om_42, om_50, om_51, om_52, om_60, om_62, om_f, tl] at p5
    cases h6 : Q.val (om n0 n1 s2 s3 0 0 [] 0 0 [] s6) c_emp_emp_q6
    ·have p6 := (Q.holds'_iff _ _ _).2 h6
     simp only [c_emp_emp_q6, om_0, om_10, om_20, om_22, om_30, om_32, om_40, om_41, om_42, om_50, om_51, om_52, om_60, om_62, om_f, tl] at p6
     cases h7 : Q.val (om n0 n1 s2 s3 0 0 [] 0 0 [] s6) c_emp_emp_q7
     ·have p7 := (Q.holds'_iff _ _ _).2 h7
      simp only [c_emp_emp_q7, om_0, om_10, om_20, om_22, om_30, om_32, om_40, om_41, om_42, om_50, om_51, om_52, om_60, om_62, om_f, tl] at p7
      cases h8 : Q.val (om n0 n1 s2 s3 0 0 [] 0 0 [] s6) c_emp_emp_q8
      ·have p8 := (Q.holds'_iff _ _ _).2 h8
       simp only [c_emp_emp_q8, om_0, om_10, om_20, om_22, om_30, om_32, om_40, om_41, om_42, om_50, om_51, om_52, om_60, om_62, om_f, tl] at p8
       cases h9 : Q.val (om n0 n1 s2 s3 0 0 [] 0 0 [] s6) c_emp_emp_q9
       ·have p9 := (Q.holds'_iff _ _ _).2 h9
        simp only [c_emp_emp_q9, om_0, om_10, om_20, om_22, om_30, om_32, om_40, om_41, om_42, om_50, om_51, om_52, om_60, om_62, om_f, tl] at p9
        cases h10 : Q.val (om n0 n1 s2 s3 0 0 [] 0 0 [] s6) c_emp_emp_q10
        ·have p10 := (Q.holds'_iff _ _ _).2 h10
         simp only [c_emp_emp_q10, om_0, om_10, om_20, om_22, om_30, om_32, om_40, om_41, om_42, om_50, om_51, om_52, om_60, om_62, om_f, tl] at p10
         cases h11 : Q.val (om n0 n1 s2 s3 0 0 [] 0 0 [] s6) c_emp_emp_q11
         ·have p11 := (Q.holds'_iff _ _ _).2 h11
          simp only [c_emp_emp_q11, om_0, om_10, om_20, om_22, om_30, om_32, om_40, om_41, om_42, om_50, om_51, om_52, om_60, om_62, om_f, tl] at p11
          cases h12 : Q.val (om n0 n1 s2 s3 0 0 [] 0 0 [] s6) c_emp_emp_q12
          ·have p12 := (Q.holds'_iff _ _ _).2 h12
           simp only [c_emp_emp_q12, om_0, om_10, om_20, om_22, om_30, om_32, om_40, om_41, om_42, om_50, om_51, om_52, om_60, om_62, om_f, tl] at p12
           exact calls_of_yesV sound tab_ok specs_ok overs_ok c_emp_emp_y0 rfl (tellA_ok (by (repeat refine told_cons (by assumption) ?_); exact told_nil)) r0 hargs
          ·have p12 := (Q.holds'_iff _ _ _).2 h12
           simp only [c_emp_emp_q12, om_0, om_10, om_20, om_22, om_30, om_32, om_40, om_41, om_42, om_50, om_51, om_52, om_60, om_62, om_f, tl] at p12
           exact calls_of_yesV sound tab_ok specs_ok overs_ok c_emp_emp_y10 rfl (tellA_ok (by (repeat refine told_cons (by assumption) ?_); exact told_nil)) r0 hargs
         ·have p11 := (Q.holds'_iff _ _ _).2 h11
          simp only [c_emp_emp_q11, om_0, om_10, om_20, om_22, om_30, om_32, om_40, om_41, om_42, om_50, om_51, om_52, om_60, om_62, om_f, tl] at p11
          exact calls_of_yesV sound tab_ok specs_ok overs_ok c_emp_emp_y9 rfl (tellA_ok (by (repeat refine told_cons (by assumption) ?_); exact told_nil)) r0 hargs
        ·have p10 := (Q.holds'_iff _ _ _).2 h10
         simp only [c_emp_emp_q10, om_0, om_10, om_20, om_22, om_30, om_32, om_40, om_41, om_42, om_50, om_51, om_52, om_60, om_62, om_f, tl] at p10
         exact calls_of_yesV sound tab_ok specs_ok overs_ok c_emp_emp_y8 rfl (tellA_ok (by (repeat refine told_cons (by assumption) ?_); exact told_nil)) r0 hargs
       ·have p9 := (Q.holds'_iff _ _ _).2 h9
        simp only [c_emp_emp_q9, om_0, om_10, om_20, om_22, om_30, om_32, om_40, om_41, om_42, om_50, om_51, om_52, om_60, om_62, om_f, tl] at p9
        exact calls_of_yesV sound tab_ok specs_ok overs_ok c_emp_emp_y7 rfl (tellA_ok (by (repeat refine told_cons (by assumption) ?_); exact told_nil)) r0 hargs
      ·have p8 := (Q.holds'_iff _ _ _).2 h8
       simp only [c_emp_emp_q8, om_0, om_10, om_20, om_22, om_30, om_32, om_40, om_41, om_42, om_50, om_51, om_52, om_60, om_62, om_f, tl] at p8
       exact calls_of_yesV sound tab_ok specs_ok overs_ok c_emp_emp_y6 rfl (tellA_ok (by (repeat refine told_cons (by assumption) ?_); exact told_nil)) r0 hargs
     ·have p7 := (Q.holds'_iff _ _ _).2 h7
      simp only [c_emp_emp_q7, om_0, om_10, om_20, om_22, om_30, om_32, om_40, om_41, om_42, om_50, om_51, om_52, om_60, om_62, om_f, tl] at p7
      exact calls_of_yesV sound tab_ok specs_ok overs_ok c_emp_emp_y5 rfl (tellA_ok (by (repeat refine told_cons (by assumption) ?_); exact told_nil)) r0 hargs
    ·have p6 := (Q.holds'_iff _ _ _).2 h6
     simp only [c_emp_emp_q6, om_0, om_10, om_20, om_22, om_30, om_32, om_40, om_41, om_42, om_50, om_51, om_52, om_60, om_62, om_f, tl] at p6
     exact calls_of_yesV sound tab_ok specs_ok overs_ok c_emp_emp_y4 rfl (tellA_ok (by (repeat refine told_cons (by assumption) ?_); exact told_nil)) r0 hargs

abbrev c_emp_in_q0 : Q := (.fit .i64 (.var 20))
abbrev c_emp_in_q1 : Q := (.fit .i64 (.var 30))
abbrev c_emp_in_q2 : Q := (.fit .i64 (.bi .add (.var 20) (.var 30)))
abbrev c_emp_in_q3 : Q := (.fit .i64 (.var 50))
abbrev c_emp_in_q4 : Q := (.le (.var 50) (.int 30))
abbrev c_emp_in_q5 : Q := (.le (.bi .add (.var 20) (.var 30)) (.int 4000))
abbrev c_emp_in_q6 : Q := (.fit .i64 (.var 60))
abbrev c_emp_in_q7 : Q := (.le (.var 60) (.int 100))
abbrev c_emp_in_q8 : Q := (.eq (.var 0) (.int 3))
abbrev c_emp_in_q9 : Q := (.eq (.var 0) (.int 4))
abbrev c_emp_in_q10 : Q := (.eq (.var 0) (.int 5))
abbrev c_emp_in_q11 : Q := (.eq (.var 0) (.int 6))
abbrev c_emp_in_q12 : Q := (.eq (.var 0) (.int 7))
abbrev c_emp_in_q13 : Q := (.eq (.var 0) (.int 8))
abbrev c_emp_in_q14 : Q := (.eq (.var 0) (.int 9))
abbrev c_emp_in_q15 : Q := (.le (.bi (.iop .add .i64) (.var 20) (.var 30)) (.int 4000))
abbrev c_emp_in_u0 : List (Q × Bool) := [(c_emp_in_q0, true), (c_emp_in_q1, true), (c_emp_in_q2, true), (c_emp_in_q3, true), (c_emp_in_q4, true), (c_emp_in_q5, true), (c_emp_in_q6, true), (c_emp_in_q7, true), (c_emp_in_q8, false), (c_emp_in_q9, false), (c_emp_in_q10, false), (c_emp_in_q11, false), (c_emp_in_q12, false), (c_emp_in_q13, false), (c_emp_in_q14, false)]
set_option maxRecDepth 100000 in
theorem c_emp_in_y0 : yesOf Try.prog (knownV (tellA c_emp_in_u0) tab specs overs) 8000 80 3 [.agg [.sint .i64 (.var 0), .sint .i64 (.var 10), .sstr (.var 20) (.var 22), .sstr (.var 30) (.var 32), .empty, .sslice 1 (.int 0) (.var 50) (.var 51) false], .sstr (.var 60) (.var 62)] ((globSt g0).newO (.eseq ⟨.i64, .var 50, .var 52⟩)) = true := by kernel_rfl
abbrev c_emp_in_u1 : List (Q × Bool) := [(c_emp_in_q0, true), (c_emp_in_q1, true), (c_emp_in_q2, true), (c_emp_in_q3, true), (c_emp_in_q4, true), (c_emp_in_q5, false)]
set_option maxRecDepth 100000 in
theorem c_emp_in_y1 : yesOf Try.prog (knownV (tellA c_emp_in_u1) tab specs overs) 8000 80 3 [.agg [.sint .i64 (.var 0), .sint .i64 (.var 10), .sstr (.var 20) (.var 22), .sstr (.var 30) (.var 32), .empty, .sslice 1 (.int 0) (.var 50) (.var 51) false], .sstr (.var 60) (.var 62)] ((globSt g0).newO (.eseq ⟨.i64, .var 50, .var 52⟩)) = true := by kernel_rfl
abbrev c_emp_in_u2 : List (Q × Bool) := [(c_emp_in_q0, true), (c_emp_in_q1, true), (c_emp_in_q2, true), (c_emp_in_q3, true), (c_emp_in_q4, false)]
set_option maxRecDepth 100000 in
theorem c_emp_in_y2 : yesOf Try.prog (knownV (tellA c_emp_in_u2) tab specs overs) 8000 80 3 [.agg [.sint .i64 (.var 0), .sint .i64 (.var 10), .sstr (.var 20) (.var 22), .sstr (.var 30) (.var 32), .empty, .sslice 1 (.int 0) (.var 50) (.var 51) false], .sstr (.var 60) (.var 62)] ((globSt g0).newO (.eseq ⟨.i64, .var 50, .var 52⟩)) = true := by kernel_rfl
abbrev c_emp_in_u3 : List (Q × Bool) := [(c_emp_in_q0, true), (c_emp_in_q1, true), (c_emp_in_q2, true), (c_emp_in_q3, true), (c_emp_in_q4, true), (c_emp_in_q5, true), (c_emp_in_q6, true), (c_emp_in_q7, false)]
set_option maxRecDepth 100000 in
theorem c_emp_in_y3 : yesOf Try.prog (knownV (tellA c_emp_in_u3) tab specs overs) 8000 80 3 [.agg [.sint .i64 (.var 0), .sint .i64 (.var 10), .sstr (.var 20) (.var 22), .sstr (.var 30) (.var 32), .empty, .sslice 1 (.int 0) (.var 50) (.var 51) false], .sstr (.var 60) (.var 62)] ((globSt g0).newO (.eseq ⟨.i64, .var 50, .var 52⟩)) = true := by kernel_rfl
abbrev c_emp_in_u4 : List (Q × Bool) := [(c_emp_in_q0, true), (c_emp_in_q1, true), (c_emp_in_q2, false), (c_emp_in_q3, true), (c_emp_in_q4, true), (c_emp_in_q15, true), (c_emp_in_q6, true), (c_emp_in_q7, true), (c_emp_in_q8, false), (c_emp_in_q9, false), (c_emp_in_q10, false), (c_emp_in_q11, false), (c_emp_in_q12, false), (c_emp_in_q13, false), (c_emp_in_q14, false)]
set_option maxRecDepth 100000 in
theorem c_emp_in_y4 : yesOf Try.prog (knownV (tellA c_emp_in_u4) tab specs overs) 8000 80 3 [.agg [.sint .i64 (.var 0), .sint .i64 (.var 10), .sstr (.var 20) (.var 22), .sstr (.var 30) (.var 32), .empty, .sslice 1 (.int 0) (.var 50) (.var 51) false], .sstr (.var 60) (.var 62)] ((globSt g0).newO (.eseq ⟨.i64, .var 50, .var 52⟩)) = true := by kernel_rfl
abbrev c_emp_in_u5 : List (Q × Bool) := [(c_emp_in_q0, true), (c_emp_in_q1, true), (c_emp_in_q2, true), (c_emp_in_q3, true), (c_emp_in_q4, true), (c_emp_in_q5, true), (c_emp_in_q6, true), (c_emp_in_q7, true), (c_emp_in_q8, true)]
set_option maxRecDepth 100000 in
theorem c_emp_in_y5 : yesOf Try.prog (knownV (tellA c_emp_in_u5) tab specs overs) 8000 80 3 [.agg [.sint .i64 (.var 0), .sint .i64 (.var 10), .sstr (.var 20) (.var 22), .sstr (.var 30) (.var 32), .empty, .sslice 1 (.int 0) (.var 50) (.var 51) false], .sstr (.var 60) (.var 62)] ((globSt g0).newO (.eseq ⟨.i64, .var 50, .var 52⟩)) = true := by kernel_rfl
abbrev c_emp_in_u6 : List (Q × Bool) := [(c_emp_in_q0, true), (c_emp_in_q1, true), (c_emp_in_q2, true), (c_emp_in_q3, true), (c_emp_in_q4, true), (c_emp_in_q5, true), (c_emp_in_q6, true), (c_emp_in_q7, true), (c_emp_in_q8, false), (c_emp_in_q9, true)]
set_option maxRecDepth 100000 in
theorem c_emp_in_y6 : yesOf Try.prog (knownV (tellA c_emp_in_u6) tab specs overs) 8000 80 3 [.agg [.sint .i64 (.var 0), .sint .i64 (.var 10), .sstr (.var 20) (.var 22), .sstr (.var 30) (.var 32), .empty, .sslice 1 (.int 0) (.var 50) (.var 51) false], .sstr (.var 60) (.var 62)] ((globSt g0).newO (.eseq ⟨.i64, .var 50, .var 52⟩)) = true := by kernel_rfl
abbrev c_emp_in_u7 : List (Q × Bool) := [(c_emp_in_q0, true), (c_emp_in_q1, true), (c_emp_in_q2, true), (c_emp_in_q3, true), (c_emp_in_q4, true), (c_emp_in_q5, true), (c_emp_in_q6, true), (c_emp_in_q7, true), (c_emp_in_q8, false), (c_emp_in_q9, false), (c_emp_in_q10, true)]
set_option maxRecDepth 100000 in
theorem c_emp_in_y7 : yesOf Try.prog (knownV (tellA c_emp_in_u7) tab specs overs) 8000 80 3 [.agg [.sint .i64 (.var 0), .sint .i64 (.var 10), .sstr (.var 20) (.var 22), .sstr (.var 30) (.var 32), .empty, .sslice 1 (.int 0) (.var 50) (.var 51) false], .sstr (.var 60) (.var 62)] ((globSt g0).newO (.eseq ⟨.i64, .var 50, .var 52⟩)) = true := by kernel_rfl
abbrev c_emp_in_u8 : List (Q × Bool) := [(c_emp_in_q0, true), (c_emp_in_q1, true), (c_emp_in_q2, true), (c_emp_in_q3, true), (c_emp_in_q4, true), (c_emp_in_q5, true), (c_emp_in_q6, true), (c_emp_in_q7, true), (c_emp_in_q8, false), (c_emp_in_q9, false), (c_emp_in_q10, false), (c_emp_in_q11, true)]
set_option maxRecDepth 100000 in
theorem c_emp_in_y8 : yesOf Try.prog (knownV (tellA c_emp_in_u8) tab specs overs) 8000 80 3 [.agg [.sint .i64 (.var 0), .sint .i64 (.var 10), .sstr (.var 20) (.var 22), .sstr (.var 30) (.var 32), .empty, .sslice 1 (.int 0) (.var 50) (.var 51) false], .sstr (.var 60) (.var 62)] ((globSt g0).newO (.eseq ⟨.i64, .var 50, .var 52⟩)) = true := by kernel_rfl
abbrev c_emp_in_u9 : List (Q × Bool) := [(c_emp_in_q0, true), (c_emp_in_q1, true), (c_emp_in_q2, true), (c_emp_in_q3, true), (c_emp_in_q4, true), (c_emp_in_q5, true), (c_emp_in_q6, true), (c_emp_in_q7, true), (c_emp_in_q8, false), (c_emp_in_q9, false), (c_emp_in_q10, false), (c_emp_in_q11, false), (c_emp_in_q12, true)]
set_option maxRecDepth 100000 in
theorem c_emp_in_y9 : yesOf Try.prog (knownV (tellA c_emp_in_u9) tab specs overs) 8000 80 3 [.agg [.sint .i64 (.var 0), .sint .i64 (.var 10), .sstr (.var 20) (.var 22), .sstr (.var 30) (.var 32), .empty, .sslice 1 (.int 0) (.var 50) (.var 51) false], .sstr (.var 60) (.var 62)] ((globSt g0).newO (.eseq ⟨.i64, .var 50, .var 52⟩)) = true := by kernel_rfl
abbrev c_emp_in_u10 : List (Q × Bool) := [(c_emp_in_q0, true), (c_emp_in_q1, true), (c_emp_in_q2, true), (c_emp_in_q3, true), (c_emp_in_q4, true), (c_emp_in_q5, true), (c_emp_in_q6, true), (c_emp_in_q7, true), (c_emp_in_q8, false), (c_emp_in_q9, false), (c_emp_in_q10, false), (c_emp_in_q11, false), (c_emp_in_q12, false), (c_emp_in_q13, true)]
set_option maxRecDepth 100000 in
theorem c_emp_in_y10 : yesOf Try.prog (knownV (tellA c_emp_in_u10) tab specs overs) 8000 80 3 [.agg [.sint .i64 (.var 0), .sint .i64 (.var 10), .sstr (.var 20) (.var 22), .sstr (.var 30) (.var 32), .empty, .sslice 1 (.int 0) (.var 50) (.var 51) false], .sstr (.var 60) (.var 62)] ((globSt g0).newO (.eseq ⟨.i64, .var 50, .var 52⟩)) = true := by kernel_rfl
abbrev c_emp_in_u11 : List (Q × Bool) := [(c_emp_in_q0, true), (c_emp_in_q1, true), (c_emp_in_q2, true), (c_emp_in_q3, true), (c_emp_in_q4, true), (c_emp_in_q5, true), (c_emp_in_q6, true), (c_emp_in_q7, true), (c_emp_in_q8, false), (c_emp_in_q9, false), (c_emp_in_q10, false), (c_emp_in_q11, false), (c_emp_in_q12, false), (c_emp_in_q13, false), (c_emp_in_q14, true)]
set_option maxRecDepth 100000 in
theorem c_emp_in_y11 : yesOf Try.prog (knownV (tellA c_emp_in_u11) tab specs overs) 8000 80 3 [.agg [.sint .i64 (.var 0), .sint .i64 (.var 10), .sstr (.var 20) (.var 22), .sstr (.var 30) (.var 32), .empty, .sslice 1 (.int 0) (.var 50) (.var 51) false], .sstr (.var 60) (.var 62)] ((globSt g0).newO (.eseq ⟨.i64, .var 50, .var 52⟩)) = true := by kernel_rfl
abbrev c_emp_in_u12 : List (Q × Bool) := [(c_emp_in_q0, true), (c_emp_in_q1, true), (c_emp_in_q2, false), (c_emp_in_q3, true), (c_emp_in_q4, false)]
set_option maxRecDepth 100000 in
theorem c_emp_in_y12 : yesOf Try.prog (knownV (tellA c_emp_in_u12) tab specs overs) 8000 80 3 [.agg [.sint .i64 (.var 0), .sint .i64 (.var 10), .sstr (.var 20) (.var 22), .sstr (.var 30) (.var 32), .empty, .sslice 1 (.int 0) (.var 50) (.var 51) false], .sstr (.var 60) (.var 62)] ((globSt g0).newO (.eseq ⟨.i64, .var 50, .var 52⟩)) = true := by kernel_rfl
abbrev c_emp_in_u13 : List (Q × Bool) := [(c_emp_in_q0, true), (c_emp_in_q1, true), (c_emp_in_q2, false), (c_emp_in_q3, true), (c_emp_in_q4, true), (c_emp_in_q15, false)]
set_option maxRecDepth 100000 in
theorem c_emp_in_y13 : yesOf Try.prog (knownV (tellA c_emp_in_u13) tab specs overs) 8000 80 3 [.agg [.sint .i64 (.var 0), .sint .i64 (.var 10), .sstr (.var 20) (.var 22), .sstr (.var 30) (.var 32), .empty, .sslice 1 (.int 0) (.var 50) (.var 51) false], .sstr (.var 60) (.var 62)] ((globSt g0).newO (.eseq ⟨.i64, .var 50, .var 52⟩)) = true := by kernel_rfl
abbrev c_emp_in_u14 : List (Q × Bool) := [(c_emp_in_q0, true), (c_emp_in_q1, true), (c_emp_in_q2, false), (c_emp_in_q3, true), (c_emp_in_q4, true), (c_emp_in_q15, true), (c_emp_in_q6, true), (c_emp_in_q7, false)]
set_option maxRecDepth 100000 in
theorem c_emp_in_y14 : yesOf Try.prog (knownV (tellA c_emp_in_u14) tab specs overs) 8000 80 3 [.agg [.sint .i64 (.var 0), .sint .i64 (.var 10), .sstr (.var 20) (.var 22), .sstr (.var 30) (.var 32), .empty, .sslice 1 (.int 0) (.var 50) (.var 51) false], .sstr (.var 60) (.var 62)] ((globSt g0).newO (.eseq ⟨.i64, .var 50, .var 52⟩)) = true := by kernel_rfl
abbrev c_emp_in_u15 : List (Q × Bool) := [(c_emp_in_q0, true), (c_emp_in_q1, true), (c_emp_in_q2, false), (c_emp_in_q3, true), (c_emp_in_q4, true), (c_emp_in_q15, true), (c_emp_in_q6, true), (c_emp_in_q7, true), (c_emp_in_q8, true)]
set_option maxRecDepth 100000 in
theorem c_emp_in_y15 : yesOf Try.prog (knownV (tellA c_emp_in_u15) tab specs overs) 8000 80 3 [.agg [.sint .i64 (.var 0), .sint .i64 (.var 10), .sstr (.var 20) (.var 22), .sstr (.var 30) (.var 32), .empty, .sslice 1 (.int 0) (.var 50) (.var 51) false], .sstr (.var 60) (.var 62)] ((globSt g0).newO (.eseq ⟨.i64, .var 50, .var 52⟩)) = true := by kernel_rfl
abbrev c_emp_in_u16 : List (Q × Bool) := [(c_emp_in_q0, true), (c_emp_in_q1, true), (c_emp_in_q2, false), (c_emp_in_q3, true), (c_emp_in_q4, true), (c_emp_in_q15, true), (c_emp_in_q6, true), (c_emp_in_q7, true), (c_emp_in_q8, false), (c_emp_in_q9, true)]
set_option maxRecDepth 100000 in
theorem c_emp_in_y16 : yesOf Try.prog (knownV (tellA c_emp_in_u16) tab specs overs) 8000 80 3 [.agg [.sint .i64 (.var 0), .sint .i64 (.var 10), .sstr (.var 20) (.var 22), .sstr (.var 30) (.var 32), .empty, .sslice 1 (.int 0) (.var 50) (.var 51) false], .sstr (.var 60) (.var 62)] ((globSt g0).newO (.eseq ⟨.i64, .var 50, .var 52⟩)) = true := by kernel_rfl
abbrev c_emp_in_u17 : List (Q × Bool) := [(c_emp_in_q0, true), (c_emp_in_q1, true), (c_emp_in_q2, false), (c_emp_in_q3, true), (c_emp_in_q4, true), (c_emp_in_q15, true), (c_emp_in_q6, true), (c_emp_in_q7, true), (c_emp_in_q8, false), (c_emp_in_q9, false), (c_emp_in_q10, true)]
set_option maxRecDepth 100000 in
theorem c_emp_in_y17 : yesOf Try.prog (knownV (tellA c_emp_in_u17) tab specs overs) 8000 80 3 [.agg [.sint .i64 (.var 0), .sint .i64 (.var 10), .sstr (.var 20) (.var 22), .sstr (.var 30) (.var 32), .empty, .sslice 1 (.int 0) (.var 50) (.var 51) false], .sstr (.var 60) (.var 62)] ((globSt g0).newO (.eseq ⟨.i64, .var 50, .var 52⟩)) = true := by kernel_rfl
abbrev c_emp_in_u18 : List (Q × Bool) := [(c_emp_in_q0, true), (c_emp_in_q1, true), (c_emp_in_q2, false), (c_emp_in_q3, true), (c_emp_in_q4, true), (c_emp_in_q15, true), (c_emp_in_q6, true), (c_emp_in_q7, true), (c_emp_in_q8, false), (c_emp_in_q9, false), (c_emp_in_q10, false), (c_emp_in_q11, true)]
set_option maxRecDepth 100000 in
theorem c_emp_in_y18 : yesOf Try.prog (knownV (tellA c_emp_in_u18) tab specs overs) 8000 80 3 [.agg [.sint .i64 (.var 0), .sint .i64 (.var 10), .sstr (.var 20) (.var 22), .sstr (.var 30) (.var 32), .empty, .sslice 1 (.int 0) (.var 50) (.var 51) false], .sstr (.var 60) (.var 62)] ((globSt g0).newO (.eseq ⟨.i64, .var 50, .var 52⟩)) = true := by kernel_rfl
abbrev c_emp_in_u19 : List (Q × Bool) := [(c_emp_in_q0, true), (c_emp_in_q1, true), (c_emp_in_q2, false), (c_emp_in_q3, true), (c_emp_in_q4, true), (c_emp_in_q15, true), (c_emp_in_q6, true), (c_emp_in_q7, true), (c_emp_in_q8, false), (c_emp_in_q9, false), (c_emp_in_q10, false), (c_emp_in_q11, false), (c_emp_in_q12, true)]
set_option maxRecDepth 100000 in
theorem c_emp_in_y19 : yesOf Try.prog (knownV (tellA c_emp_in_u19) tab specs overs) 8000 80 3 [.agg [.sint .i64 (.var 0), .sint .i64 (.var 10), .sstr (.var 20) (.var 22), .sstr (.var 30) (.var 32), .empty, .sslice 1 (.int 0) (.var 50) (.var 51) false], .sstr (.var 60) (.var 62)] ((globSt g0).newO (.eseq ⟨.i64, .var 50, .var 52⟩)) = true := by kernel_rfl
abbrev c_emp_in_u20 : List (Q × Bool) := [(c_emp_in_q0, true), (c_emp_in_q1, true), (c_emp_in_q2, false), (c_emp_in_q3, true), (c_emp_in_q4, true), (c_emp_in_q15, true), (c_emp_in_q6, true), (c_emp_in_q7, true), (c_emp_in_q8, false), (c_emp_in_q9, false), (c_emp_in_q10, false), (c_emp_in_q11, false), (c_emp_in_q12, false), (c_emp_in_q13, true)]
set_option maxRecDepth 100000 in
theorem c_emp_in_y20 : yesOf Try.prog (knownV (tellA c_emp_in_u20) tab specs overs) 8000 80 3 [.agg [.sint .i64 (.var 0), .sint .i64 (.var 10), .sstr (.var 20) (.var 22), .sstr (.var 30) (.var 32), .empty, .sslice 1 (.int 0) (.var 50) (.var 51) false], .sstr (.var 60) (.var 62)] ((globSt g0).newO (.eseq ⟨.i64, .var 50, .var 52⟩)) = true := by kernel_rfl
abbrev c_emp_in_u21 : List (Q × Bool) := [(c_emp_in_q0, true), (c_emp_in_q1, true), (c_emp_in_q2, false), (c_emp_in_q3, true), (c_emp_in_q4, true), (c_emp_in_q15, true), (c_emp_in_q6, true), (c_emp_in_q7, true), (c_emp_in_q8, false), (c_emp_in_q9, false), (c_emp_in_q10, false), (c_emp_in_q11, false), (c_emp_in_q12, false), (c_emp_in_q13, false), (c_emp_in_q14, true)]
set_option maxRecDepth 100000 in
theorem c_emp_in_y21 : yesOf Try.prog (knownV (tellA c_emp_in_u21) tab specs overs) 8000 80 3 [.agg [.sint .i64 (.var 0), .sint .i64 (.var 10), .sstr (.var 20) (.var 22), .sstr (.var 30) (.var 32), .empty, .sslice 1 (.int 0) (.var 50) (.var 51) false], .sstr (.var 60) (.var 62)] ((globSt g0).newO (.eseq ⟨.i64, .var 50, .var 52⟩)) = true := by kernel_rfl
set_option maxRecDepth 100000 in
set_option maxHeartbeats 6000000 in
theorem c_emp_in_walk {W : World} {n0 : Int} (hn0 : inK .i64 n0) {n1 : Int} (hn1 : inK .i64 n1) {s2 : ByteArray} (max2 : s2.size ≤ 9223372036854775807) {s3 : ByteArray} (max3 : s3.size ≤ 9223372036854775807) {v4 : Value} (hv4 : ∀ e : Env, VR e .empty v4) {v5 : Value} {b5 off5 len5 cap5 : Nat} {zs5 : List Int} (h5 : InSlice W .i64 v5 b5 off5 len5 cap5 zs5) {s6 : ByteArray} (max6 : s6.size ≤ 9223372036854775807) (hG : GlobsR (om n0 n1 s2 s3 0 0 [] len5 cap5 zs5 s6) W g0) : Calls Try.prog 3 #[.agg #[.int .i64 n0, .int .i64 n1, .string s2, .string s3, v4, v5], .string s6] W fun e w' => e = .returned (.bool true) ∧ Below W.heap.size W w' := by
 have r0 := Rel.globs (om n0 n1 s2 s3 0 0 [] len5 cap5 zs5 s6) W g0 hG
 obtain ⟨le5, r1, x5⟩ := h5.open r0 (l := 50) (c := 51) (x := 52) rfl rfl rfl
 have pos5 := h5.pos
 have lec5 := h5.le
 have max5 := h5.max
 have zl5 := h5.len
 have rng5 := h5.rng
 have hargs : VRs _ [.agg [.sint .i64 (.var 0), .sint .i64 (.var 10), .sstr (.var 20) (.var 22), .sstr (.var 30) (.var 32), .empty, .sslice 1 (.int 0) (.var 50) (.var 51) false], .sstr (.var 60) (.var 62)] [.agg #[.int .i64 n0, .int .i64 n1, .string s2, .string s3, v4, v5], .string s6] := VRs_cons (vr_agg (VRs_cons (vr_sint (i := 0) hn0 (by rw [r1.opq]; rfl)) (VRs_cons (vr_sint (i := 10) hn1 (by rw [r1.opq]; rfl)) (VRs_cons (vr_str (l := 20) (x := 22) (by rw [r1.opq]; rfl) (by rw [r1.opq]; rfl)) (VRs_cons (vr_str (l := 30) (x := 32) (by rw [r1.opq]; rfl) (by rw [r1.opq]; rfl)) (VRs_cons (hv4 _) (VRs_cons (x5) (VRs_nil)))))))) (VRs_cons (vr_str (l := 60) (x := 62) (by rw [r1.opq]; rfl) (by rw [r1.opq]; rfl)) (VRs_nil))
 simp only [inK, i64min, i64max, u8min, u8max, u32min, u32max, u64min, u64max] at hn0
 simp only [inK, i64min, i64max, u8min, u8max, u32min, u32max, u64min, u64max] at hn1
 have zl2 := strE_length s2
 have rng2 := strE_in s2
 have zl3 := strE_length s3
 have rng3 := strE_in s3
 have zl6 := strE_length s6
 have rng6 := strE_in s6
 have h0 : Q.val (om n0 n1 s2 s3 0 0 [] len5 cap5 zs5 s6) c_emp_in_q0 = true := (Q.holds'_iff _ _ _).1 (by
  simp only [c_emp_in_q0, om_0, om_10, om_20, om_22, om_30, om_32, om_40, om_41, om_42, om_50, om_51, om_52, om_60, om_62, om_f, tl]
  all_goals (first | omega | trivial))
 have p0 := (Q.holds'_iff _ _ _).2 h0
 try (
  simp only [c_emp_in_q0, om_0, om_10, om_20, om_22, om_30, om_32, om_40, om_41, om_42, om_50, om_51, om_52, om_60, om_62, om_f, tl] at p0)
 have h1 : Q.val (om n0 n1 s2 s3 0 0 [] len5 cap5 zs5 s6) c_emp_in_q1 = true := (Q.holds'_iff _ _ _).1 (by
  simp only [c_emp_in_q1, om_0, om_10, om_20, om_22, om_30, om_32, om_40, om_41, om_42, om_50, om_51, om_52, om_60, om_62, om_f, tl]
  all_goals (first | omega | trivial))
 have p1 := (Q.holds'_iff _ _ _).2 h1
 try (
  simp only [c_emp_in_q1, om_0, om_10, om_20, om_22, om_30, om_32, om_40, om_41, om_42, om_50, om_51, om_52, om_60, om_62, om_f, tl] at p1)
 cases h2 : Q.val (om n0 n1 s2 s3 0 0 [] len5 cap5 zs5 s6) c_emp_in_q2
 ·have p2 := (Q.holds'_iff _ _ _).2 h2
  simp only [c_emp_in_q2, om_0, om_10, om_20, om_22, om_30, om_32, om_40, om_41, om_42, om_50, om_51, om_52, om_60, om_62, om_f, tl] at p2
  have h3 : Q.val (om n0 n1 s2 s3 0 0 [] len5 cap5 zs5 s6) c_emp_in_q3 = true := (Q.holds'_iff _ _ _).1 (by
   simp only [c_emp_in_q3, om_0, om_10, om_20, om_22, om_30, om_32, om_40, om_41, om_42, om_50, om_51, om_52, om_60, om_62, om_f, tl]
   all_goals (first | omega | trivial))
  have p3 := (Q.holds'_iff _ _ _).2 h3
  try (
   simp only [c_emp_in_q3, om_0, om_10, om_20, om_22, om_30, om_32, om_40, om_41, om_42, om_50, om_51, om_52, om_60, om_62, om_f, tl] at p3)
  cases h4 : Q.val (om n0 n1 s2 s3 0 0 [] len5 cap5 zs5 s6) c_emp_in_q4
  ·have p4 := (Q.holds'_iff _ _ _).2 h4
   simp only [c_emp_in_q4, om_0, om_10, om_20, om_22, om_30, om_32, om_40, om_41, om_42, om_50, om_51, om_52, om_60, om_62, om_f, tl] at p4
   exact calls_of_yesV sound tab_ok specs_ok overs_ok c_emp_in_y12 rfl (tellA_ok (by (repeat refine told_cons (by assumption) ?_); exact told_nil)) r1 hargs
  ·have p4 := (Q.holds'_iff _ _ _).2 h4
   simp only [c_emp_in_q4, om_0, om_10, om_20, om_22, om_30, om_32, om_40, om_41, om_42, om_50, om_51, om_52, om_60, om_62, om_f, tl] at p4
   cases h5 : Q.val (om n0 n1 s2 s3 0 0 [] len5 cap5 zs5 s6) c_emp_in_q15
   ·have p5 := (Q.holds'_iff _ _ _).2 h5
    simp only [c_emp_in_q15, om_0, om_10, om_20, om_22, om_30, om_32, om_40, om_41, om_42, om_50, om_51, om_52, om_60, om_62, om_f, tl] at p5
    exact calls_of_yesV sound tab_ok specs_ok overs_ok c_emp_in_y13 rfl (tellA_ok (by (repeat refine told_cons (by assumption) ?_); exact told_nil)) r1 hargs
   ·have p5 := (Q.holds'_iff _ _ _).2 h5
    simp only [c_emp_in_q15, om_0, om_10, om_20, om_22, om_30, om_32, om_40, om_41, om_42, om_50, om_51, om_52, om_60, om_62, om_f, tl] at p5
    have h6 : Q.val (om n0 n1 s2 s3 0 0 [] len5 cap5 zs5 s6) c_emp_in_q6 = true := (Q.holds'_iff _ _ _).1 (by
     simp only [c_emp_in_q6, om_0, om_10, om_20, om_22, om_30, om_32, om_40, om_41, om_42, om_50, om_51, om_52, om_60, om_62, om_f, tl]
     all_goals (first | omega | trivial))
    have p6 := (Q.holds'_iff _ _ _).2 h6
    try (
     simp only [c_emp_in_q6, om_0, om_10, om_20, om_22, om_30, om_32, om_40, om_41, om_42, om_50, om_51, om_52, om_60, om_62, om_f, tl] at p6)
    cases h7 : Q.val (om n0 n1 s2 s3 0 0 [] len5 cap5 zs5 s6) c_emp_in_q7
    ·have p7 := (Q.holds'_iff _ _ _).2 h7
     simp only [c_emp_in_q7, om_0, om_10, om_20, om_22, om_30, om_32, om_40, om_41, om_42, om_50, om_51, om_52, om_60, om_62, om_f, tl] at p7
     exact calls_of_yesV sound tab_ok specs_ok overs_ok c_emp_in_y14 rfl (tellA_ok (by (repeat refine told_cons (by assumption) ?_); exact told_nil)) r1 hargs
    ·have p7 := (Q.holds'_iff _ _ _).2 h7
     simp only [c_emp_in_q7, om_0, om_10, om_20, om_22, om_30, om_32, om_40, om_41, om_42, om_50, om_51, om_52, om_60, om_62, om_f, tl] at p7
     cases h8 : Q.val (om n0 n1 s2 s3 0 0 [] len5 cap5 zs5 s6) c_emp_in_q8
     ·have p8 := (Q.holds'_iff _ _ _).2 h8
      simp only [c_emp_in_q8, om_0, om_10, om_20, om_22, om_30, om_32, om_40, om_41, om_42, om_50, om_51, om_52, om_60, om_62, om_f, tl] at p8
      cases h9 : Q.val (om n0 n1 s2 s3 0 0 [] len5 cap5 zs5 s6) c_emp_in_q9
      ·have p9 := (Q.holds'_iff _ _ _).2 h9
       simp only [c_emp_in_q9, om_0, om_10, om_20, om_22, om_30, om_32, om_40, om_41, om_42, om_50, om_51, om_52, om_60, om_62, om_f, tl] at p9
       cases h10 : Q.val (om n0 n1 s2 s3 0 0 [] len5 cap5 zs5 s6) c_emp_in_q10
       ·have p10 := (Q.holds'_iff _ _ _).2 h10
        simp only [c_emp_in_q10, om_0, om_10, om_20, om_22, om_30, om_32, om_40, om_41, om_42, om_50, om_51, om_52, om_60, om_62, om_f, tl] at p10
        cases h11 : Q.val (om n0 n1 s2 s3 0 0 [] len5 cap5 zs5 s6) c_emp_in_q11
        ·have p11 := (Q.holds'_iff _ _ _).2 h11
         simp only [c_emp_in_q11, om_0, om_10, om_20, om_22, om_30, om_32, om_40, om_41, om_42, om_50, om_51, om_52, om_60, om_62, om_f, tl] at p11
         cases h12 : Q.val (om n0 n1 s2 s3 0 0 [] len5 cap5 zs5 s6) c_emp_in_q12
         ·have p12 := (Q.holds'_iff _ _ _).2 h12
          simp only [c_emp_in_q12, om_0, om_10, om_20, om_22, om_30, om_32, om_40, om_41, om_42, om_50, om_51, om_52, om_60, om_62, om_f, tl] at p12
          cases h13 : Q.val (om n0 n1 s2 s3 0 0 [] len5 cap5 zs5 s6) c_emp_in_q13
          ·have p13 := (Q.holds'_iff _ _ _).2 h13
           simp only [c_emp_in_q13, om_0, om_10, om_20, om_22, om_30, om_32, om_40, om_41, om_42, om_50, om_51, om_52, om_60, om_62, om_f, tl] at p13
           cases h14 : Q.val (om n0 n1 s2 s3 0 0 [] len5 cap5 zs5 s6) c_emp_in_q14
           ·have p14 := (Q.holds'_iff _ _ _).2 h14
            simp only [c_emp_in_q14, om_0, om_10, om_20, om_22, om_30, om_32, om_40, om_41, om_42, om_50, om_51, om_52, om_60, om_62, om_f, tl] at p14
            exact calls_of_yesV sound tab_ok specs_ok overs_ok c_emp_in_y4 rfl (tellA_ok (by (repeat refine told_cons (by assumption) ?_); exact told_nil)) r1 hargs
           ·have p14 := (Q.holds'_iff _ _ _).2 h14
            simp only [c_emp_in_q14, om_0, om_10, om_20, om_22, om_30, om_32, om_40, om_41, om_42, om_50, om_51, om_52, om_60, om_62, om_f, tl] at p14
            exact calls_of_yesV sound tab_ok specs_ok overs_ok c_emp_in_y21 rfl (tellA_ok (by (repeat refine told_cons (by assumption) ?_); exact told_nil)) r1 hargs
          ·have p13 := (Q.holds'_iff _ _ _).2 h13
           simp only [c_emp_in_q13, om_0, om_10, om_20, om_22, om_30, om_32, om_40, om_41, om_42, om_50, om_51, om_52, om_60, om_62, om_f, tl] at p13
           exact calls_of_yesV sound tab_ok specs_ok overs_ok c_emp_in_y20 rfl (tellA_ok (by (repeat refine told_cons (by assumption) ?_); exact told_nil)) r1 hargs
         ·have p12 := (Q.holds'_iff _ _ _).2 h12
          simp only [c_emp_in_q12, om_0, om_10, om_20, om_22, om_30, om_32, om_40, om_41, om_42, om_50, om_51, om_52, om_60, om_62, om_f, tl] at p12
          exact calls_of_yesV sound tab_ok specs_ok overs_ok c_emp_in_y19 rfl (tellA_ok (by (repeat refine told_cons (by assumption) ?_); exact told_nil)) r1 hargs
        ·have p11 := (Q.holds'_iff _ _ _).2 h11
         simp only [c_emp_in_q11, om_0, om_10, om_20, om_22, om_30, om_32, om_40, om_41, om_42, om_50, om_51, om_52, om_60, om_62, om_f, tl] at p11
         exact calls_of_yesV sound tab_ok specs_ok overs_ok c_emp_in_y18 rfl (tellA_ok (by (repeat refine told_cons (by assumption) ?_); exact told_nil)) r1 hargs
       ·have p10 := (Q.holds'_iff _ _ _).2 h10
        simp only [c_emp_in_q10, om_0, om_10, om_20, om_22, om_30, om_32, om_40, om_41, om_42, om_50, om_51, om_52, om_60, om_62, om_f, tl] at p10
        exact calls_of_yesV sound tab_ok specs_ok overs_ok c_emp_in_y17 rfl (tellA_ok (by (repeat refine told_cons (by assumption) ?_); exact told_nil)) r1 hargs
      ·have p9 := (Q.holds'_iff _ _ _).2 h9
       simp only [c_emp_in_q9, om_0, om_10, om_20, om_22, om_30, om_32, om_40, om_41, om_42, om_50, om_51, om_52, om_60, om_62, om_f, tl] at p9
       exact calls_of_yesV sound tab_ok specs_ok overs_ok c_emp_in_y16 rfl (tellA_ok (by (repeat refine told_cons (by assumption) ?_); exact told_nil)) r1 hargs
     ·have p8 := (Q.holds'_iff _ _ _).2 h8
      simp only [c_emp_in_q8, om_0, om_10, om_20, om_22, om_30, om_32, om_40, om_41, om_42, om_50, om_51, om_52, om_60, om_62, om_f, tl] at p8
      exact calls_of_yesV sound tab_ok specs_ok overs_ok c_emp_in_y15 rfl (tellA_ok (by (repeat refine told_cons (by assumption) ?_); exact told_nil)) r1 hargs
 ·have p2 := (Q.holds'_iff _ _ _).2 h2
  simp only [c_emp_in_q2, om_0, om_10, om_20, om_22, om_30, om_32, om_40, om_41, om_42, om_50, om_51, om_52, om_60, om_62, om_f, tl] at p2
  have h3 : Q.val (om n0 n1 s2 s3 0 0 [] len5 cap5 zs5 s6) c_emp_in_q3 = true := (Q.holds'_iff _ _ _).1 (by
   simp only [c_emp_in_q3, om_0, om_10, om_20, om_22, om_30, om_32, om_40, om_41, om_42, om_50, om_51, om_52, om_60, om_62, om_f, tl]
   all_goals (first | omega | trivial))
  have p3 := (Q.holds'_iff _ _ _).2 h3
  try (
   simp only [c_emp_in_q3, om_0, om_10, om_20, om_22, om_30, om_32, om_40, om_41, om_42, om_50, om_51, om_52, om_60, om_62, om_f, tl] at p3)
  cases h4 : Q.val (om n0 n1 s2 s3 0 0 [] len5 cap5 zs5 s6) c_emp_in_q4
  ·have p4 := (Q.holds'_iff _ _ _).2 h4
   simp only [c_emp_in_q4, om_0, om_10, om_20, om_22, om_30, om_32, om_40, om_41, om_42, om_50, om_51, om_52, om_60, om_62, om_f, tl] at p4
   exact calls_of_yesV sound tab_ok specs_ok overs_ok c_emp_in_y2 rfl (tellA_ok (by (repeat refine told_cons (by assumption) ?_); exact told_nil)) r1 hargs
  ·have p4 := (Q.holds'_iff _ _ _).2 h4
   simp only [c_emp_in_q4, om_0, om_10, om_20, om_22, om_30, om_32, om_40, om_41, om_42, om_50, om_51, om_52, om_60, om_62, om_f, tl] at p4
   cases h5 : Q.val (om n0 n1 s2 s3 0 0 [] len5 cap5 zs5 s6) c_emp_in_q5
   ·have p5 := (Q.holds'_iff _ _ _).2 h5
    simp only [c_emp_in_q5, om_0, om_10, om_20, om_22, om_30, om_32, om_40, om_41, om_42, om_50, om_51, om_52, om_60, om_62, om_f, tl] at p5
    exact calls_of_yesV sound tab_ok specs_ok overs_ok c_emp_in_y1 rfl (tellA_ok (by (repeat refine told_cons (by assumption) ?_); exact told_nil)) r1 hargs
   ·have p5 := (Q.holds'_iff _ _ _).2 h5
    simp only [c_emp_in_q5, om_0, om_10, om_20, om_22, om_30, om_32, om_40, om_41, om_42, om_50, om_51, om_52, om_60, om_62, om_f, tl] at p5
    have h6 : Q.val (om n0 n1 s2 s3 0 0 [] len5 cap5 zs5 s6) c_emp_in_q6 = true := (Q.holds'_iff _ _ _).1 (by
     simp only [c_emp_in_q6, om_0, om_10, om_20, om_22, om_30, om_32, om_40, om_41, om_42, om_50, om_51, om_52, om_60, om_62, om_f, tl]
     all_goals (first | omega | trivial))
    have p6 := (Q.holds'_iff _ _ _).2 h6
    try (
     simp only [c_emp_in_q6, om_0, om_10, om_20, om_22, om_30, om_32, om_40, om_41, om_42, om_50, om_51, om_52, om_60, om_62, om_f, tl] at p6)
    cases h7 : Q.val (om n0 n1 s2 s3 0 0 [] len5 cap5 zs5 s6) c_emp_in_q7
    ·have p7 := (Q.holds'_iff _ _ _).2 h7
     simp only [c_emp_in_q7, om_0, om_10, om_20, om_22, om_30, om_32, om_40, om_41, om_42, om_50, om_51, om_52, om_60, om_62, om_f, tl] at p7
     exact calls_of_yesV sound tab_ok specs_ok overs_ok c_emp_in_y3 rfl (tellA_ok (by (repeat refine told_cons (by assumption) ?_); exact told_nil)) r1 hargs
    ·have p7 := (Q.holds'_iff _ _ _).2 h7
     simp only [c_emp_in_q7, om_0, om_10, om_20, om_22, om_30, om_32, om_40, om_41, om_42, om_50, om_51, om_52, om_60, om_62, om_f, tl] at p7
     cases h8 : Q.val (om n0 n1 s2 s3 0 0 [] len5 cap5 zs5 s6) c_emp_in_q8
     ·have p8 := (Q.holds'_iff _ _ _).2 h8
      simp only [c_emp_in_q8, om_0, om_10, om_20, om_22, om_30, om_32, om_40, om_41, om_42, om_50, om_51, om_52, om_60, om_62, om_f, tl] at p8
      cases h9 : Q.val (om n0 n1 s2 s3 0 0 [] len5 cap5 zs5 s6) c_emp_in_q9
      ·have p9 := (Q.holds'_iff _ _ _).2 h9
       simp only [c_emp_in_q9, om_0, om_10, om_20, om_22, om_30, om_32, om_40, om_41, om_42, om_50, om_51, om_52, om_60, om_62, om_f, tl] at p9
       cases h10 : Q.val (om n0 n1 s2 s3 0 0 [] len5 cap5 zs5 s6) c_emp_in_q10
       ·have p10 := (Q.holds'_iff _ _ _).2 h10
        simp only [c_emp_in_q10, om_0, om_10, om_20, om_22, om_30, om_32, om_40, om_41, om_42, om_50, om_51, om_52, om_60, om_62, om_f, tl] at p10
        cases h11 : Q.val (om n0 n1 s2 s3 0 0 [] len5 cap5 zs5 s6) c_emp_in_q11
        ·have p11 := (Q.holds'_iff _ _ _).2 h11
         simp only [c_emp_in_q11, om_0, om_10, om_20, om_22, om_30, om_32, om_40, om_41, om_42, om_50, om_51, om_52, om_60, om_62, om_f, tl] at p11
         cases h12 : Q.val (om n0 n1 s2 s3 0 0 [] len5 cap5 zs5 s6) c_emp_in_q12
         ·have p12 := (Q.holds'_iff _ _ _).2 h12
          simp only [c_emp_in_q12, om_0, om_10, om_20, om_22, om_30, om_32, om_40, om_41, om_42, om_50, om_51, om_52, om_60, om_62, om_f, tl] at p12
          cases h13 : Q.val (om n0 n1 s2 s3 0 0 [] len5 cap5 zs5 s6) c_emp_in_q13
          ·have p13 := (Q.holds'_iff _ _ _).2 h13
           simp only [c_emp_in_q13, om_0, om_10, om_20, om_22, om_30, om_32, om_40, om_41, om_42, om_50, om_51, om_52, om_60, om_62, om_f, tl] at p13
           cases h14 : Q.val (om n0 n1 s2 s3 0 0 [] len5 cap5 zs5 s6) c_emp_in_q14
           ·have p14 := (Q.holds'_iff _ _ _).2 h14
            simp only [c_emp_in_q14, om_0, om_10, om_20, om_22, om_30, om_32, om_40, om_41, om_42, om_50, om_51, om_52, om_60, om_62, om_f, tl] at p14
            exact calls_of_yesV sound tab_ok specs_ok overs_ok c_emp_in_y0 rfl (tellA_ok (by (repeat refine told_cons (by assumption) ?_); exact told_nil)) r1 hargs
           ·have p14 := (Q.holds'_iff _ _ _).2 h14
            simp only [c_emp_in_q14, om_0, om_10, om_20, om_22, om_30, om_32, om_40, om_41, om_42, om_50, om_51, om_52, om_60, om_62, om_f, tl] at p14
            exact calls_of_yesV sound tab_ok specs_ok overs_ok c_emp_in_y11 rfl (tellA_ok (by (repeat refine told_cons (by assumption) ?_); exact told_nil)) r1 hargs
          ·have p13 := (Q.holds'_iff _ _ _).2 h13
           simp only [c_emp_in_q13, om_0, om_10, om_20, om_22, om_30, om_32, om_40, om_41, om_42, om_50, om_51, om_52, om_60, om_62, om_f, tl] at p13
           exact calls_of_yesV sound tab_ok specs_ok overs_ok c_emp_in_y10 rfl (tellA_ok (by (repeat refine told_cons (by assumption) ?_); exact told_nil)) r1 hargs
         ·have p12 := (Q.holds'_iff _ _ _).2 h12
          simp only [c_emp_in_q12, om_0, om_10, om_20, om_22, om_30, om_32, om_40, om_41, om_42, om_50, om_51, om_52, om_60, om_62, om_f, tl] at p12
          exact calls_of_yesV sound tab_ok specs_ok overs_ok c_emp_in_y9 rfl (tellA_ok (by (repeat refine told_cons (by assumption) ?_); exact told_nil)) r1 hargs
        ·have p11 := (Q.holds'_iff _ _ _).2 h11
         simp only [c_emp_in_q11, om_0, om_10, om_20, om_22, om_30, om_32, om_40, om_41, om_42, om_50, om_51, om_52, om_60, om_62, om_f, tl] at p11
         exact calls_of_yesV sound tab_ok specs_ok overs_ok c_emp_in_y8 rfl (tellA_ok (by (repeat refine told_cons (by assumption) ?_); exact told_nil)) r1 hargs
       ·have p10 := (Q.holds'_iff _ _ _).2 h10
        simp only [c_emp_in_q10, om_0, om_10, om_20, om_22, om_30, om_32, om_40, om_41, om_42, om_50, om_51, om_52, om_60, om_62, om_f, tl] at p10
        exact calls_of_yesV sound tab_ok specs_ok overs_ok c_emp_in_y7 rfl (tellA_ok (by (repeat refine told_cons (by assumption) ?_); exact told_nil)) r1 hargs
      ·have p9 := (Q.holds'_iff _ _ _).2 h9
       simp only [c_emp_in_q9, om_0, om_10, om_20, om_22, om_30, om_32, om_40, om_41, om_42, om_50, om_51, om_52, om_60, om_62, om_f, tl] at p9
       exact calls_of_yesV sound tab_ok specs_ok overs_ok c_emp_in_y6 rfl (tellA_ok (by (repeat refine told_cons (by assumption) ?_); exact told_nil)) r1 hargs
     ·have p8 := (Q.holds'_iff _ _ _).2 h8
      simp only [c_emp_in_q8, om_0, om_10, om_20, om_22, om_30, om_32, om_40, om_41, om_42, om_50, om_51, om_52, om_60, om_62, om_f, tl] at p8
      exact calls_of_yesV sound tab_ok specs_ok overs_ok c_emp_in_y5 rfl (tellA_ok (by (repeat refine told_cons (by assumption) ?_); exact told_nil)) r1 hargs

abbrev c_in_emp_q0 : Q := (.fit .i64 (.var 40))
abbrev c_in_emp_q1 : Q := (.fit .i64 (.var 20))
abbrev c_in_emp_q2 : Q := (.fit .i64 (.bi .add (.var 40) (.var 20)))
abbrev c_in_emp_q3 : Q := (.fit .i64 (.var 30))
abbrev c_in_emp_q4 : Q := (.fit .i64 (.bi .add (.bi .add (.var 40) (.var 20)) (.var 30)))
abbrev c_in_emp_q5 : Q := (.le (.bi .add (.bi .add (.var 40) (.var 20)) (.var 30)) (.int 4000))
abbrev c_in_emp_q6 : Q := (.fit .i64 (.var 60))
abbrev c_in_emp_q7 : Q := (.le (.var 60) (.int 100))
abbrev c_in_emp_q8 : Q := (.eq (.var 0) (.int 3))
abbrev c_in_emp_q9 : Q := (.eq (.var 0) (.int 4))
abbrev c_in_emp_q10 : Q := (.eq (.var 0) (.int 5))
abbrev c_in_emp_q11 : Q := (.eq (.var 0) (.int 6))
abbrev c_in_emp_q12 : Q := (.eq (.var 0) (.int 7))
abbrev c_in_emp_q13 : Q := (.eq (.var 0) (.int 8))
abbrev c_in_emp_q14 : Q := (.eq (.var 0) (.int 9))
abbrev c_in_emp_q15 : Q := (.fit .i64 (.bi .add (.bi (.iop .add .i64) (.var 40) (.var 20)) (.var 30)))
abbrev c_in_emp_q16 : Q := (.le (.bi .add (.bi (.iop .add .i64) (.var 40) (.var 20)) (.var 30)) (.int 4000))
abbrev c_in_emp_q17 : Q := (.le (.bi (.iop .add .i64) (.bi .add (.var 40) (.var 20)) (.var 30)) (.int 4000))
abbrev c_in_emp_q18 : Q := (.le (.bi (.iop .add .i64) (.bi (.iop .add .i64) (.var 40) (.var 20)) (.var 30)) (.int 4000))
abbrev c_in_emp_u0 : List (Q × Bool) := [(c_in_emp_q0, true), (c_in_emp_q1, true), (c_in_emp_q2, true), (c_in_emp_q3, true), (c_in_emp_q4, true), (c_in_emp_q5, true), (c_in_emp_q6, true), (c_in_emp_q7, true), (c_in_emp_q8, false), (c_in_emp_q9, false), (c_in_emp_q10, false), (c_in_emp_q11, false), (c_in_emp_q12, false), (c_in_emp_q13, false), (c_in_emp_q14, false)]
set_option maxRecDepth 100000 in
theorem c_in_emp_y0 : yesOf Try.prog (knownV (tellA c_in_emp_u0) tab specs overs) 8000 80 3 [.agg [.sint .i64 (.var 0), .sint .i64 (.var 10), .sstr (.var 20) (.var 22), .sstr (.var 30) (.var 32), .sslice 1 (.int 0) (.var 40) (.var 41) false, .empty], .sstr (.var 60) (.var 62)] ((globSt g0).newO (.eseq ⟨.u8, .var 40, .var 42⟩)) = true := by kernel_rfl
abbrev c_in_emp_u1 : List (Q × Bool) := [(c_in_emp_q0, true), (c_in_emp_q1, true), (c_in_emp_q2, true), (c_in_emp_q3, true), (c_in_emp_q4, true), (c_in_emp_q5, false)]
set_option maxRecDepth 100000 in
theorem c_in_emp_y1 : yesOf Try.prog (knownV (tellA c_in_emp_u1) tab specs overs) 8000 80 3 [.agg [.sint .i64 (.var 0), .sint .i64 (.var 10), .sstr (.var 20) (.var 22), .sstr (.var 30) (.var 32), .sslice 1 (.int 0) (.var 40) (.var 41) false, .empty], .sstr (.var 60) (.var 62)] ((globSt g0).newO (.eseq ⟨.u8, .var 40, .var 42⟩)) = true := by kernel_rfl
abbrev c_in_emp_u2 : List (Q × Bool) := [(c_in_emp_q0, true), (c_in_emp_q1, true), (c_in_emp_q2, true), (c_in_emp_q3, true), (c_in_emp_q4, true), (c_in_emp_q5, true), (c_in_emp_q6, true), (c_in_emp_q7, false)]
set_option maxRecDepth 100000 in
theorem c_in_emp_y2 : yesOf Try.prog (knownV (tellA c_in_emp_u2) tab specs overs) 8000 80 3 [.agg [.sint .i64 (.var 0), .sint .i64 (.var 10), .sstr (.var 20) (.var 22), .sstr (.var 30) (.var 32), .sslice 1 (.int 0) (.var 40) (.var 41) false, .empty], .sstr (.var 60) (.var 62)] ((globSt g0).newO (.eseq ⟨.u8, .var 40, .var 42⟩)) = true := by kernel_rfl
abbrev c_in_emp_u3 : List (Q × Bool) := [(c_in_emp_q0, true), (c_in_emp_q1, true), (c_in_emp_q2, false), (c_in_emp_q3, true), (c_in_emp_q15, true), (c_in_emp_q16, true), (c_in_emp_q6, true), (c_in_emp_q7, true), (c_in_emp_q8, false), (c_in_emp_q9, false), (c_in_emp_q10, false), (c_in_emp_q11, false), (c_in_emp_q12, false), (c_in_emp_q13, false), (c_in_emp_q14, false)]
set_option maxRecDepth 100000 in
theorem c_in_emp_y3 : yesOf Try.prog (knownV (tellA c_in_emp_u3) tab specs overs) 8000 80 3 [.agg [.sint .i64 (.var 0), .sint .i64 (.var 10), .sstr (.var 20) (.var 22), .sstr (.var 30) (.var 32), .sslice 1 (.int 0) (.var 40) (.var 41) false, .empty], .sstr (.var 60) (.var 62)] ((globSt g0).newO (.eseq ⟨.u8, .var 40, .var 42⟩)) = true := by kernel_rfl
abbrev c_in_emp_u4 : List (Q × Bool) := [(c_in_emp_q0, true), (c_in_emp_q1, true), (c_in_emp_q2, true), (c_in_emp_q3, true), (c_in_emp_q4, false), (c_in_emp_q17, true), (c_in_emp_q6, true), (c_in_emp_q7, true), (c_in_emp_q8, false), (c_in_emp_q9, false), (c_in_emp_q10, false), (c_in_emp_q11, false), (c_in_emp_q12, false), (c_in_emp_q13, false), (c_in_emp_q14, false)]
set_option maxRecDepth 100000 in
theorem c_in_emp_y4 : yesOf Try.prog (knownV (tellA c_in_emp_u4) tab specs overs) 8000 80 3 [.agg [.sint .i64 (.var 0), .sint .i64 (.var 10), .sstr (.var 20) (.var 22), .sstr (.var 30) (.var 32), .sslice 1 (.int 0) (.var 40) (.var 41) false, .empty], .sstr (.var 60) (.var 62)] ((globSt g0).newO (.eseq ⟨.u8, .var 40, .var 42⟩)) = true := by kernel_rfl
abbrev c_in_emp_u5 : List (Q × Bool) := [(c_in_emp_q0, true), (c_in_emp_q1, true), (c_in_emp_q2, true), (c_in_emp_q3, true), (c_in_emp_q4, true), (c_in_emp_q5, true), (c_in_emp_q6, true), (c_in_emp_q7, true), (c_in_emp_q8, true)]
set_option maxRecDepth 100000 in
theorem c_in_emp_y5 : yesOf Try.prog (knownV (tellA c_in_emp_u5) tab specs overs) 8000 80 3 [.agg [.sint .i64 (.var 0), .sint .i64 (.var 10), .sstr (.var 20) (.var 22), .sstr (.var 30) (.var 32), .sslice 1 (.int 0) (.var 40) (.var 41) false, .empty], .sstr (.var 60) (.var 62)] ((globSt g0).newO (.eseq ⟨.u8, .var 40, .var 42⟩)) = true := by kernel_rfl
abbrev c_in_emp_u6 : List (Q × Bool) := [(c_in_emp_q0, true), (c_in_emp_q1, true), (c_in_emp_q2, true), (c_in_emp_q3, true), (c_in_emp_q4, true), (c_in_emp_q5, true), (c_in_emp_q6, true), (c_in_emp_q7, true), (c_in_emp_q8, false), (c_in_emp_q9, true)]
set_option maxRecDepth 100000 in
theorem c_in_emp_y6 : yesOf Try.prog (knownV (tellA c_in_emp_u6) tab specs overs) 8000 80 3 [.agg [.sint .i64 (.var 0), .sint .i64 (.var 10), .sstr (.var 20) (.var 22), .sstr (.var 30) (.var 32), .sslice 1 (.int 0) (.var 40) (.var 41) false, .empty], .sstr (.var 60) (.var 62)] ((globSt g0).newO (.eseq ⟨.u8, .var 40, .var 42⟩)) = true := by kernel_rfl
abbrev c_in_emp_u7 : List (Q × Bool) := [(c_in_emp_q0, true), (c_in_emp_q1, true), (c_in_emp_q2, true), (c_in_emp_q3, true), (c_in_emp_q4, true), (c_in_emp_q5, true), (c_in_emp_q6, true), (c_in_emp_q7, true), (c_in_emp_q8, false), (c_in_emp_q9, false), (c_in_emp_q10, true)]
set_option maxRecDepth 100000 in
theorem c_in_emp_y7 : yesOf Try.prog (knownV (tellA c_in_emp_u7) tab specs overs) 8000 80 3 [.agg [.sint .i64 (.var 0), .sint .i64 (.var 10), .sstr (.var 20) (.var 22), .sstr (.var 30) (.var 32), .sslice 1 (.int 0) (.var 40) (.var 41) false, .empty], .sstr (.var 60) (.var 62)] ((globSt g0).newO (.eseq ⟨.u8, .var 40, .var 42⟩)) = true := by kernel_rfl
abbrev c_in_emp_u8 : List (Q × Bool) := [(c_in_emp_q0, true), (c_in_emp_q1, true), (c_in_emp_q2, true), (c_in_emp_q3, true), (c_in_emp_q4, true), (c_in_emp_q5, true), (c_in_emp_q6, true), (c_in_emp_q7, true), (c_in_emp_q8, false), (c_in_emp_q9, false), (c_in_emp_q10, false), (c_in_emp_q11, true)]
set_option maxRecDepth 100000 in
theorem c_in_emp_y8 : yesOf Try.prog (knownV (tellA c_in_emp_u8) tab specs overs) 8000 80 3 [.agg [.sint .i64 (.var 0), .sint .i64 (.var 10), .sstr (.var 20) (.var 22), .sstr (.var 30) (.var 32), .sslice 1 (.int 0) (.var 40) (.var 41) false, .empty], .sstr (.var 60) (.var 62)] ((globSt g0).newO (.eseq ⟨.u8, .var 40, .var 42⟩)) = true := by kernel_rfl
abbrev c_in_emp_u9 : List (Q × Bool) := [(c_in_emp_q0, true), (c_in_emp_q1, true), (c_in_emp_q2, true), (c_in_emp_q3, true), (c_in_emp_q4, true), (c_in_emp_q5, true), (c_in_emp_q6, true), (c_in_emp_q7, true), (c_in_emp_q8, false), (c_in_emp_q9, false), (c_in_emp_q10, false), (c_in_emp_q11, false), (c_in_emp_q12, true)]
set_option maxRecDepth 100000 in
theorem c_in_emp_y9 : yesOf Try.prog (knownV (tellA c_in_emp_u9) tab specs overs) 8000 80 3 [.agg [.sint .i64 (.var 0), .sint .i64 (.var 10), .sstr (.var 20) (.var 22), .sstr (.var 30) (.var 32), .sslice 1 (.int 0) (.var 40) (.var 41) false, .empty], .sstr (.var 60) (.var 62)] ((globSt g0).newO (.eseq ⟨.u8, .var 40, .var 42⟩)) = true := by kernel_rfl
abbrev c_in_emp_u10 : List (Q × Bool) := [(c_in_emp_q0, true), (c_in_emp_q1, true), (c_in_emp_q2, true), (c_in_emp_q3, true), (c_in_emp_q4, true), (c_in_emp_q5, true), (c_in_emp_q6, true), (c_in_emp_q7, true), (c_in_emp_q8, false), (c_in_emp_q9, false), (c_in_emp_q10, false), (c_in_emp_q11, false), (c_in_emp_q12, false), (c_in_emp_q13, true)]
set_option maxRecDepth 100000 in
theorem c_in_emp_y10 : yesOf Try.prog (knownV (tellA c_in_emp_u10) tab specs overs) 8000 80 3 [.agg [.sint .i64 (.var 0), .sint .i64 (.var 10), .sstr (.var 20) (.var 22), .sstr (.var 30) (.var 32), .sslice 1 (.int 0) (.var 40) (.var 41) false, .empty], .sstr (.var 60) (.var 62)] ((globSt g0).newO (.eseq ⟨.u8, .var 40, .var 42⟩)) = true := by kernel_rfl
abbrev c_in_emp_u11 : List (Q × Bool) := [(c_in_emp_q0, true), (c_in_emp_q1, true), (c_in_emp_q2, true), (c_in_emp_q3, true), (c_in_emp_q4, true), (c_in_emp_q5, true), (c_in_emp_q6, true), (c_in_emp_q7, true), (c_in_emp_q8, false), (c_in_emp_q9, false), (c_in_emp_q10, false), (c_in_emp_q11, false), (c_in_emp_q12, false), (c_in_emp_q13, false), (c_in_emp_q14, true)]
set_option maxRecDepth 100000 in
theorem c_in_emp_y11 : yesOf Try.prog (knownV (tellA c_in_emp_u11) tab specs overs) 8000 80 3 [.agg [.sint .i64 (.var 0), .sint .i64 (.var 10), .sstr (.var 20) (.var 22), .sstr (.var 30) (.var 32), .sslice 1 (.int 0) (.var 40) (.var 41) false, .empty], .sstr (.var 60) (.var 62)] ((globSt g0).newO (.eseq ⟨.u8, .var 40, .var 42⟩)) = true := by kernel_rfl
abbrev c_in_emp_u12 : List (Q × Bool) := [(c_in_emp_q0, true), (c_in_emp_q1, true), (c_in_emp_q2, false), (c_in_emp_q3, true), (c_in_emp_q15, false), (c_in_emp_q18, true), (c_in_emp_q6, true), (c_in_emp_q7, true), (c_in_emp_q8, false), (c_in_emp_q9, false), (c_in_emp_q10, false), (c_in_emp_q11, false), (c_in_emp_q12, false), (c_in_emp_q13, false), (c_in_emp_q14, false)]
set_option maxRecDepth 100000 in
theorem c_in_emp_y12 : yesOf Try.prog (knownV (tellA c_in_emp_u12) tab specs overs) 8000 80 3 [.agg [.sint .i64 (.var 0), .sint .i64 (.var 10), .sstr (.var 20) (.var 22), .sstr (.var 30) (.var 32), .sslice 1 (.int 0) (.var 40) (.var 41) false, .empty], .sstr (.var 60) (.var 62)] ((globSt g0).newO (.eseq ⟨.u8, .var 40, .var 42⟩)) = true := by kernel_rfl
abbrev c_in_emp_u13 : List (Q × Bool) := [(c_in_emp_q0, true), (c_in_emp_q1, true), (c_in_emp_q2, false), (c_in_emp_q3, true), (c_in_emp_q15, true), (c_in_emp_q16, false)]
set_option maxRecDepth 100000 in
theorem c_in_emp_y13 : yesOf Try.prog (knownV (tellA c_in_emp_u13) tab specs overs) 8000 80 3 [.agg [.sint .i64 (.var 0), .sint .i64 (.var 10), .sstr (.var 20) (.var 22), .sstr (.var 30) (.var 32), .sslice 1 (.int 0) (.var 40) (.var 41) false, .empty], .sstr (.var 60) (.var 62)] ((globSt g0).newO (.eseq ⟨.u8, .var 40, .var 42⟩)) = true := by kernel_rfl
abbrev c_in_emp_u14 : List (Q × Bool) := [(c_in_emp_q0, true), (c_in_emp_q1, true), (c_in_emp_q2, false), (c_in_emp_q3, true), (c_in_emp_q15, true), (c_in_emp_q16, true), (c_in_emp_q6, true), (c_in_emp_q7, false)]
set_option maxRecDepth 100000 in
theorem c_in_emp_y14 : yesOf Try.prog (knownV (tellA c_in_emp_u14) tab specs overs) 8000 80 3 [.agg [.sint .i64 (.var 0), .sint .i64 (.var 10), .sstr (.var 20) (.var 22), .sstr (.var 30) (.var 32), .sslice 1 (.int 0) (.var 40) (.var 41) false, .empty], .sstr (.var 60) (.var 62)] ((globSt g0).newO (.eseq ⟨.u8, .var 40, .var 42⟩)) = true := by kernel_rfl
abbrev c_in_emp_u15 : List (Q × Bool) := [(c_in_emp_q0, true), (c_in_emp_q1, true), (c_in_emp_q2, false), (c_in_emp_q3, true), (c_in_emp_q15, true), (c_in_emp_q16, true), (c_in_emp_q6, true), (c_in_emp_q7, true), (c_in_emp_q8, true)]
set_option maxRecDepth 100000 in
theorem c_in_emp_y15 : yesOf Try.prog (knownV (tellA c_in_emp_u15) tab specs overs) 8000 80 3 [.agg [.sint .i64 (.var 0), .sint .i64 (.var 10), .sstr (.var 20) (.var 22), .sstr (.var 30) (.var 32), .sslice 1 (.int 0) (.var 40) (.var 41) false, .empty], .sstr (.var 60) (.var 62)] ((globSt g0).newO (.eseq ⟨.u8, .var 40, .var 42⟩)) = true := by kernel_rfl
abbrev c_in_emp_u16 : List (Q × Bool) := [(c_in_emp_q0, true), (c_in_emp_q1, true), (c_in_emp_q2, false), (c_in_emp_q3, true), (c_in_emp_q15, true), (c_in_emp_q16, true), (c_in_emp_q6, true), (c_in_emp_q7, true), (c_in_emp_q8, false), (c_in_emp_q9, true)]
set_option maxRecDepth 100000 in
theorem c_in_emp_y16 : yesOf Try.prog (knownV (tellA c_in_emp_u16) tab specs overs) 8000 80 3 [.agg [.sint .i64 (.var 0), .sint .i64 (.var 10), .sstr (.var 20) (.var 22), .sstr (.var 30) (.var 32), .sslice 1 (.int 0) (.var 40) (.var 41) false, .empty], .sstr (.var 60) (.var 62)] ((globSt g0).newO (.eseq ⟨.u8, .var 40, .var 42⟩)) = true := by kernel_rfl
abbrev c_in_emp_u17 : List (Q × Bool) := [(c_in_emp_q0, true), (c_in_emp_q1, true), (c_in_emp_q2, false), (c_in_emp_q3, true), (c_in_emp_q15, true), (c_in_emp_q16, true), (c_in_emp_q6, true), (c_in_emp_q7, true), (c_in_emp_q8, false), (c_in_emp_q9, false), (c_in_emp_q10, true)]
set_option maxRecDepth 100000 in
theorem c_in_emp_y17 : yesOf Try.prog (knownV (tellA c_in_emp_u17) tab specs overs) 8000 80 3 [.agg [.sint .i64 (.var 0), .sint .i64 (.var 10), .sstr (.var 20) (.var 22), .sstr (.var 30) (.var 32), .sslice 1 (.int 0) (.var 40) (.var 41) false, .empty], .sstr (.var 60) (.var 62)] ((globSt g0).newO (.eseq ⟨.u8, .var 40, .var 42⟩)) = true := by kernel_rfl
abbrev c_in_emp_u18 : List (Q × Bool) := [(c_in_emp_q0, true), (c_in_emp_q1, true), (c_in_emp_q2, false), (c_in_emp_q3, true), (c_in_emp_q15, true), (c_in_emp_q16, true), (c_in_emp_q6, true), (c_in_emp_q7, true), (c_in_emp_q8, false), (c_in_emp_q9, false), (c_in_emp_q10, false), (c_in_emp_q11, true)]
set_option maxRecDepth 100000 in
theorem c_in_emp_y18 : yesOf Try.prog (knownV (tellA c_in_emp_u18) tab specs overs) 8000 80 3 [.agg [.sint .i64 (.var 0), .sint .i64 (.var 10), .sstr (.var 20) (.var 22), .sstr (.var 30) (.var 32), .sslice 1 (.int 0) (.var 40) (.var 41) false, .empty], .sstr (.var 60) (.var 62)] ((globSt g0).newO (.eseq ⟨.u8, .var 40, .var 42⟩)) = true := by kernel_rfl
abbrev c_in_emp_u19 : List (Q × Bool) := [(c_in_emp_q0, true), (c_in_emp_q1, true), (c_in_emp_q2, false), (c_in_emp_q3, true), (c_in_emp_q15, true), (c_in_emp_q16, true), (c_in_emp_q6, true), (c_in_emp_q7, true), (c_in_emp_q8, false), (c_in_emp_q9, false), (c_in_emp_q10, false), (c_in_emp_q11, false), (c_in_emp_q12, true)]
set_option maxRecDepth 100000 in
theorem c_in_emp_y19 : yesOf Try.prog (knownV (tellA c_in_emp_u19) tab specs overs) 8000 80 3 [.agg [.sint .i64 (.var 0), .sint .i64 (.var 10), .sstr (.var 20) (.var 22), .sstr (.var 30) (.var 32), .sslice 1 (.int 0) (.var 40) (.var 41) false, .empty], .sstr (.var 60) (.var 62)] ((globSt g0).newO (.eseq ⟨.u8, .var 40, .var 42⟩)) = true := by kernel_rfl
abbrev c_in_emp_u20 : List (Q × Bool) := [(c_in_emp_q0, true), (c_in_emp_q1, true), (c_in_emp_q2, false), (c_in_emp_q3, true), (c_in_emp_q15, true), (c_in_emp_q16, true), (c_in_emp_q6, true), (c_in_emp_q7, true), (c_in_emp_q8, false), (c_in_emp_q9, false), (c_in_emp_q10, false), (c_in_emp_q11, false), (c_in_emp_q12, false), (c_in_emp_q13, true)]
set_option maxRecDepth 100000 in
theorem c_in_emp_y20 : yesOf Try.prog (knownV (tellA c_in_emp_u20) tab specs overs) 8000 80 3 [.agg [.sint .i64 (.var 0), .sint .i64 (.var 10), .sstr (.var 20) (.var 22), .sstr (.var 30) (.var 32), .sslice 1 (.int 0) (.var 40) (.var 41) false, .empty], .sstr (.var 60) (.var 62)] ((globSt g0).newO (.eseq ⟨.u8, .var 40, .var 42⟩)) = true := by kernel_rfl
abbrev c_in_emp_u21 : List (Q × Bool) := [(c_in_emp_q0, true), (c_in_emp_q1, true), (c_in_emp_q2, false), (c_in_emp_q3, true), (c_in_emp_q15, true), (c_in_emp_q16, true), (c_in_emp_q6, true), (c_in_emp_q7, true), (c_in_emp_q8, false), (c_in_emp_q9, false), (c_in_emp_q10, false), (c_in_emp_q11, false), (c_in_emp_q12, false), (c_in_emp_q13, false), (c_in_emp_q14, true)]
set_option maxRecDepth 100000 in
theorem c_in_emp_y21 : yesOf Try.prog (knownV (tellA c_in_emp_u21) tab specs overs) 8000 80 3 [.agg [.sint .i64 (.var 0), .sint .i64 (.var 10), .sstr (.var 20) (.var 22), .sstr (.var 30) (.var 32), .sslice 1 (.int 0) (.var 40) (.var 41) false, .empty], .sstr (.var 60) (.var 62)] ((globSt g0).newO (.eseq ⟨.u8, .var 40, .var 42⟩)) = true := by kernel_rfl
abbrev c_in_emp_u22 : List (Q × Bool) := [(c_in_emp_q0, true), (c_in_emp_q1, true), (c_in_emp_q2, true), (c_in_emp_q3, true), (c_in_emp_q4, false), (c_in_emp_q17, false)]
set_option maxRecDepth 100000 in
theorem c_in_emp_y22 : yesOf Try.prog (knownV (tellA c_in_emp_u22) tab specs overs) 8000 80 3 [.agg [.sint .i64 (.var 0), .sint .i64 (.var 10), .sstr (.var 20) (.var 22), .sstr (.var 30) (.var 32), .sslice 1 (.int 0) (.var 40) (.var 41) false, .empty], .sstr (.var 60) (.var 62)] ((globSt g0).newO (.eseq ⟨.u8, .var 40, .var 42⟩)) = true := by kernel_rfl
abbrev c_in_emp_u23 : List (Q × Bool) := [(c_in_emp_q0, true), (c_in_emp_q1, true), (c_in_emp_q2, true), (c_in_emp_q3, true), (c_in_emp_q4, false), (c_in_emp_q17, true), (c_in_emp_q6, true), (c_in_emp_q7, false)]
set_option maxRecDepth 100000 in
theorem c_in_emp_y23 : yesOf Try.prog (knownV (tellA c_in_emp_u23) tab specs overs) 8000 80 3 [.agg [.sint .i64 (.var 0), .sint .i64 (.var 10), .sstr (.var 20) (.var 22), .sstr (.var 30) (.var 32), .sslice 1 (.int 0) (.var 40) (.var 41) false, .empty], .sstr (.var 60) (.var 62)] ((globSt g0).newO (.eseq ⟨.u8, .var 40, .var 42⟩)) = true := by kernel_rfl
abbrev c_in_emp_u24 : List (Q × Bool) := [(c_in_emp_q0, true), (c_in_emp_q1, true), (c_in_emp_q2, true), (c_in_emp_q3, true), (c_in_emp_q4, false), (c_in_emp_q17, true), (c_in_emp_q6, true), (c_in_emp_q7, true), (c_in_emp_q8, true)]
set_option maxRecDepth 100000 in
theorem c_in_emp_y24 : yesOf Try.prog (knownV (tellA c_in_emp_u24) tab specs overs) 8000 80 3 [.agg [.sint .i64 (.var 0), .sint .i64 (.var 10), .sstr (.var 20) (.var 22), .sstr (.var 30) (.var 32), .sslice 1 (.int 0) (.var 40) (.var 41) false, .empty], .sstr (.var 60) (.var 62)] ((globSt g0).newO (.eseq ⟨.u8, .var 40, .var 42⟩)) = true := by kernel_rfl
abbrev c_in_emp_u25 : List (Q × Bool) := [(c_in_emp_q0, true), (c_in_emp_q1, true), (c_in_emp_q2, true), (c_in_emp_q3, true), (c_in_emp_q4, false), (c_in_emp_q17, true), (c_in_emp_q6, true), (c_in_emp_q7, true), (c_in_emp_q8, false), (c_in_emp_q9, true)]
set_option maxRecDepth 100000 in
theorem c_in_emp_y25 : yesOf Try.prog (knownV (tellA c_in_emp_u25) tab specs overs) 8000 80 3 [.agg [.sint .i64 (.var 0), .sint .i64 (.var 10), .sstr (.var 20) (.var 22), .sstr (.var 30) (.var 32), .sslice 1 (.int 0) (.var 40) (.var 41) false, .empty], .sstr (.var 60) (.var 62)] ((globSt g0).newO (.eseq ⟨.u8, .var 40, .var 42⟩)) = true := by kernel_rfl
abbrev c_in_emp_u26 : List (Q × Bool) := [(c_in_emp_q0, true), (c_in_emp_q1, true), (c_in_emp_q2, true), (c_in_emp_q3, true), (c_in_emp_q4, false), (c_in_emp_q17, true), (c_in_emp_q6, true), (c_in_emp_q7, true), (c_in_emp_q8, false), (c_in_emp_q9, false), (c_in_emp_q10, true)]
set_option maxRecDepth 100000 in
theorem c_in_emp_y26 : yesOf Try.prog (knownV (tellA c_in_emp_u26) tab specs overs) 8000 80 3 [.agg [.sint .i64 (.var 0), .sint .i64 (.var 10), .sstr (.var 20) (.var 22), .sstr (.var 30) (.var 32), .sslice 1 (.int 0) (.var 40) (.var 41) false, .empty], .sstr (.var 60) (.var 62)] ((globSt g0).newO (.eseq ⟨.u8, .var 40, .var 42⟩)) = true := by kernel_rfl
abbrev c_in_emp_u27 : List (Q × Bool) := [(c_in_emp_q0, true), (c_in_emp_q1, true), (c_in_emp_q2, true), (c_in_emp_q3, true), (c_in_emp_q4, false), (c_in_emp_q17, true), (c_in_emp_q6, true), (c_in_emp_q7, true), (c_in_emp_q8, false), (c_in_emp_q9, false), (c_in_emp_q10, false), (c_in_emp_q11, true)]
set_option maxRecDepth 100000 in
theorem c_in_emp_y27 : yesOf Try.prog (knownV (tellA c_in_emp_u27) tab specs overs) 8000 80 3 [.agg [.sint .i64 (.var 0), .sint .i64 (.var 10), .sstr (.var 20) (.var 22), .sstr (.var 30) (.var 32), .sslice 1 (.int 0) (.var 40) (.var 41) false, .empty], .sstr (.var 60) (.var 62)] ((globSt g0).newO (.eseq ⟨.u8, .var 40, .var 42⟩)) = true := by kernel_rfl
abbrev c_in_emp_u28 : List (Q × Bool) := [(c_in_emp_q0, true), (c_in_emp_q1, true), (c_in_emp_q2, true), (c_in_emp_q3, true), (c_in_emp_q4, false), (c_in_emp_q17, true), (c_in_emp_q6, true), (c_in_emp_q7, true), (c_in_emp_q8, false), (c_in_emp_q9, false), (c_in_emp_q10, false), (c_in_emp_q11, false), (c_in_emp_q12, true)]
set_option maxRecDepth 100000 in
theorem c_in_emp_y28 : yesOf Try.prog (knownV (tellA c_in_emp_u28) tab specs overs) 8000 80 3 [.agg [.sint .i64 (.var 0), .sint .i64 (.var 10), .sstr (.var 20) (.var 22), .sstr (.var 30) (.var 32), .sslice 1 (.int 0) (.var 40) (.var 41) false, .empty], .sstr (.var 60) (.var 62)] ((globSt g0).newO (.eseq ⟨.u8, .var 40, .var 42⟩)) = true := by kernel_rfl
abbrev c_in_emp_u29 : List (Q × Bool) := [(c_in_emp_q0, true), (c_in_emp_q1, true), (c_in_emp_q2, true), (c_in_emp_q3, true), (c_in_emp_q4, false), (c_in_emp_q17, true), (c_in_emp_q6, true), (c_in_emp_q7, true), (c_in_emp_q8, false), (c_in_emp_q9, false), (c_in_emp_q10, false), (c_in_emp_q11, false), (c_in_emp_q12, false), (c_in_emp_q13, true)]
set_option maxRecDepth 100000 in
theorem c_in_emp_y29 : yesOf Try.prog (knownV (tellA c_in_emp_u29) tab specs overs) 8000 80 3 [.agg [.sint .i64 (.var 0), .sint .i64 (.var 10), .sstr (.var 20) (.var 22), .sstr (.var 30) (.var 32), .sslice 1 (.int 0) (.var 40) (.var 41) false, .empty], .sstr (.var 60) (.var 62)] ((globSt g0).newO (.eseq ⟨.u8, .var 40, .var 42⟩)) = true := by kernel_rfl
abbrev c_in_emp_u30 : List (Q × Bool) := [(c_in_emp_q0, true), (c_in_emp_q1, true), (c_in_emp_q2, true), (c_in_emp_q3, true), (c_in_emp_q4, false), (c_in_emp_q17, true), (c_in_emp_q6, true), (c_in_emp_q7, true), (c_in_emp_q8, false), (c_in_emp_q9, false), (c_in_emp_q10, false), (c_in_emp_q11, false), (c_in_emp_q12, false), (c_in_emp_q13, false), (c_in_emp_q14, true)]
set_option maxRecDepth 100000 in
theorem c_in_emp_y30 : yesOf Try.prog (knownV (tellA c_in_emp_u30) tab specs overs) 8000 80 3 [.agg [.sint .i64 (.var 0), .sint .i64 (.var 10), .sstr (.var 20) (.var 22), .sstr (.var 30) (.var 32), .sslice 1 (.int 0) (.var 40) (.var 41) false, .empty], .sstr (.var 60) (.var 62)] ((globSt g0).newO (.eseq ⟨.u8, .var 40, .var 42⟩)) = true := by kernel_rfl
abbrev c_in_emp_u31 : List (Q × Bool) := [(c_in_emp_q0, true), (c_in_emp_q1, true), (c_in_emp_q2, false), (c_in_emp_q3, true), (c_in_emp_q15, false), (c_in_emp_q18, false)]
set_option maxRecDepth 100000 in
theorem c_in_emp_y31 : yesOf Try.prog (knownV (tellA c_in_emp_u31) tab specs overs) 8000 80 3 [.agg [.sint .i64 (.var 0), .sint .i64 (.var 10), .sstr (.var 20) (.var 22), .sstr (.var 30) (.var 32), .sslice 1 (.int 0) (.var 40) (.var 41) false, .empty], .sstr (.var 60) (.var 62)] ((globSt g0).newO (.eseq ⟨.u8, .var 40, .var 42⟩)) = true := by kernel_rfl
abbrev c_in_emp_u32 : List (Q × Bool) := [(c_in_emp_q0, true), (c_in_emp_q1, true), (c_in_emp_q2, false), (c_in_emp_q3, true), (c_in_emp_q15, false), (c_in_emp_q18, true), (c_in_emp_q6, true), (c_in_emp_q7, false)]
set_option maxRecDepth 100000 in
theorem c_in_emp_y32 : yesOf Try.prog (knownV (tellA c_in_emp_u32) tab specs overs) 8000 80 3 [.agg [.sint .i64 (.var 0), .sint .i64 (.var 10), .sstr (.var 20) (.var 22), .sstr (.var 30) (.var 32), .sslice 1 (.int 0) (.var 40) (.var 41) false, .empty], .sstr (.var 60) (.var 62)] ((globSt g0).newO (.eseq ⟨.u8, .var 40, .var 42⟩)) = true := by kernel_rfl
abbrev c_in_emp_u33 : List (Q × Bool) := [(c_in_emp_q0, true), (c_in_emp_q1, true), (c_in_emp_q2, false), (c_in_emp_q3, true), (c_in_emp_q15, false), (c_in_emp_q18, true), (c_in_emp_q6, true), (c_in_emp_q7, true), (c_in_emp_q8, true)]
set_option maxRecDepth 100000 in
theorem c_in_emp_y33 : yesOf Try.prog (knownV (tellA c_in_emp_u33) tab specs overs) 8000 80 3 [.agg [.sint .i64 (.var 0), .sint .i64 (.var 10), .sstr (.var 20) (.var 22), .sstr (.var 30) (.var 32), .sslice 1 (.int 0) (.var 40) (.var 41) false, .empty], .sstr (.var 60) (.var 62)] ((globSt g0).newO (.eseq ⟨.u8, .var 40, .var 42⟩)) = true := by kernel_rfl
abbrev c_in_emp_u34 : List (Q × Bool) := [(c_in_emp_q0, true), (c_in_emp_q1, true), (c_in_emp_q2, false), (c_in_emp_q3, true), (c_in_emp_q15, false), (c_in_emp_q18, true), (c_in_emp_q6, true), (c_in_emp_q7, true), (c_in_emp_q8, false), (c_in_emp_q9, true)]
set_option maxRecDepth 100000 in
theorem c_in_emp_y34 : yesOf Try.prog (knownV (tellA c_in_emp_u34) tab specs overs) 8000 80 3 [.agg [.sint .i64 (.var 0), .sint .i64 (.var 10), .sstr (.var 20) (.var 22), .sstr (.var 30) (.var 32), .sslice 1 (.int 0) (.var 40) (.var 41) false, .empty], .sstr (.var 60) (.var 62)] ((globSt g0).newO (.eseq ⟨.u8, .var 40, .var 42⟩)) = true := by kernel_rfl
abbrev c_in_emp_u35 : List (Q × Bool) := [(c_in_emp_q0, true), (c_in_emp_q1, true), (c_in_emp_q2, false), (c_in_emp_q3, true), (c_in_emp_q15, false), (c_in_emp_q18, true), (c_in_emp_q6, true), (c_in_emp_q7, true), (c_in_emp_q8, false), (c_in_emp_q9, false), (c_in_emp_q10, true)]
set_option maxRecDepth 100000 in
theorem c_in_emp_y35 : yesOf Try.prog (knownV (tellA c_in_emp_u35) tab specs overs) 8000 80 3 [.agg [.sint .i64 (.var 0), .sint .i64 (.var 10), .sstr (.var 20) (.var 22), .sstr (.var 30) (.var 32), .sslice 1 (.int 0) (.var 40) (.var 41) false, .empty], .sstr (.var 60) (.var 62)] ((globSt g0).newO (.eseq ⟨.u8, .var 40, .var 42⟩)) = true := by kernel_rfl
abbrev c_in_emp_u36 : List (Q × Bool) := [(c_in_emp_q0, true), (c_in_emp_q1, true), (c_in_emp_q2, false), (c_in_emp_q3, true), (c_in_emp_q15, false), (c_in_emp_q18, true), (c_in_emp_q6, true), (c_in_emp_q7, true), (c_in_emp_q8, false), (c_in_emp_q9, false), (c_in_emp_q10, false), (c_in_emp_q11, true)]
set_option maxRecDepth 100000 in
theorem c_in_emp_y36 : yesOf Try.prog (knownV (tellA c_in_emp_u36) tab specs overs) 8000 80 3 [.agg [.sint .i64 (.var 0), .sint .i64 (.var 10), .sstr (.var 20) (.var 22), .sstr (.var 30) (.var 32), .sslice 1 (.int 0) (.var 40) (.var 41) false, .empty], .sstr (.var 60) (.var 62)] ((globSt g0).newO (.eseq ⟨.u8, .var 40, .var 42⟩)) = true := by kernel_rfl
abbrev c_in_emp_u37 : List (Q × Bool) := [(c_in_emp_q0, true), (c_in_emp_q1, true), (c_in_emp_q2, false), (c_in_emp_q3, true), (c_in_emp_q15, false), (c_in_emp_q18, true), (c_in_emp_q6, true), (c_in_emp_q7, true), (c_in_emp_q8, false), (c_in_emp_q9, false), (c_in_emp_q10, false), (c_in_emp_q11, false), (c_in_emp_q12, true)]
set_option maxRecDepth 100000 in
theorem c_in_emp_y37 : yesOf Try.prog (knownV (tellA c_in_emp_u37) tab specs overs) 8000 80 3 [.agg [.sint .i64 (.var 0), .sint .i64 (.var 10), .sstr (.var 20) (.var 22), .sstr (.var 30) (.var 32), .sslice 1 (.int 0) (.var 40) (.var 41) false, .empty], .sstr (.var 60) (.var 62)] ((globSt g0).newO (.eseq ⟨.u8, .var 40, .var 42⟩)) = true := by kernel_rfl
abbrev c_in_emp_u38 : List (Q × Bool) := [(c_in_emp_q0, true), (c_in_emp_q1, true), (c_in_emp_q2, false), (c_in_emp_q3, true), (c_in_emp_q15, false), (c_in_emp_q18, true), (c_in_emp_q6, true), (c_in_emp_q7, true), (c_in_emp_q8, false), (c_in_emp_q9, false), (c_in_emp_q10, false), (c_in_emp_q11, false), (c_in_emp_q12, false), (c_in_emp_q13, true)]
set_option maxRecDepth 100000 in
theorem c_in_emp_y38 : yesOf Try.prog (knownV (tellA c_in_emp_u38) tab specs overs) 8000 80 3 [.agg [.sint .i64 (.var 0), .sint .i64 (.var 10), .sstr (.var 20) (.var 22), .sstr (.var 30) (.var 32), .sslice 1 (.int 0) (.var 40) (.var 41) false, .empty], .sstr (.var 60) (.var 62)] ((globSt g0).newO (.eseq ⟨.u8, .var 40, .var 42⟩)) = true := by kernel_rfl
abbrev c_in_emp_u39 : List (Q × Bool) := [(c_in_emp_q0, true), (c_in_emp_q1, true), (c_in_emp_q2, false), (c_in_emp_q3, true), (c_in_emp_q15, false), (c_in_emp_q18, true), (c_in_emp_q6, true), (c_in_emp_q7, true), (c_in_emp_q8, false), (c_in_emp_q9, false), (c_in_emp_q10, false), (c_in_emp_q11, false), (c_in_emp_q12, false), (c_in_emp_q13, false), (c_in_emp_q14, true)]
set_option maxRecDepth 100000 in
theorem c_in_emp_y39 : yesOf Try.prog (knownV (tellA c_in_emp_u39) tab specs overs) 8000 80 3 [.agg [.sint .i64 (.var 0), .sint .i64 (.var 10), .sstr (.var 20) (.var 22), .sstr (.var 30) (.var 32), .sslice 1 (.int 0) (.var 40) (.var 41) false, .empty], .sstr (.var 60) (.var 62)] ((globSt g0).newO (.eseq ⟨.u8, .var 40, .var 42⟩)) = true := by kernel_rfl
set_option maxRecDepth 100000 in
set_option maxHeartbeats 6000000 in
theorem c_in_emp_walk {W : World} {n0 : Int} (hn0 : inK .i64 n0) {n1 : Int} (hn1 : inK .i64 n1) {s2 : ByteArray} (max2 : s2.size ≤ 9223372036854775807) {s3 : ByteArray} (max3 : s3.size ≤ 9223372036854775807) {v4 : Value} {b4 off4 len4 cap4 : Nat} {zs4 : List Int} (h4 : InSlice W .u8 v4 b4 off4 len4 cap4 zs4) {v5 : Value} (hv5 : ∀ e : Env, VR e .empty v5) {s6 : ByteArray} (max6 : s6.size ≤ 9223372036854775807) (hG : GlobsR (om n0 n1 s2 s3 len4 cap4 zs4 0 0 [] s6) W g0) : Calls Try.prog 3 #[.agg #[.int .i64 n0, .int .i64 n1, .string s2, .string s3, v4, v5], .string s6] W fun e w' => e = .returned (.bool true) ∧ Below W.heap.size W w' := by
 have r0 := Rel.globs (om n0 n1 s2 s3 len4 cap4 zs4 0 0 [] s6) W g0 hG
 obtain ⟨le4, r1, x4⟩ := h4.open r0 (l := 40) (c := 41) (x := 42) rfl rfl rfl
 have pos4 := h4.pos
 have lec4 := h4.le
 have max4 := h4.max
 have zl4 := h4.len
 have rng4 := h4.rng
 have hargs : VRs _ [.agg [.sint .i64 (.var 0), .sint .i64 (.var 10), .sstr (.var 20) (.var 22), .sstr (.var 30) (.var 32), .sslice 1 (.int 0) (.var 40) (.var 41) false, .empty], .sstr (.var 60) (.var 62)] [.agg #[.int .i64 n0, .int .i64 n1, .string s2, .string s3, v4, v5], .string s6] := VRs_cons (vr_agg (VRs_cons (vr_sint (i := 0) hn0 (by rw [r1.opq]; rfl)) (VRs_cons (vr_sint (i := 10) hn1 (by rw [r1.opq]; rfl)) (VRs_cons (vr_str (l := 20) (x := 22) (by rw [r1.opq]; rfl) (by rw [r1.opq]; rfl)) (VRs_cons (vr_str (l := 30) (x := 32) (by rw [r1.opq]; rfl) (by rw [r1.opq]; rfl)) (VRs_cons (x4) (VRs_cons (hv5 _) (VRs_nil)))))))) (VRs_cons (vr_str (l := 60) (x := 62) (by rw [r1.opq]; rfl) (by rw [r1.opq]; rfl)) (VRs_nil))
 simp only [inK, i64min, i64max, u8min, u8max, u32min, u32max, u64min, u64max] at hn0
 simp only [inK, i64min, i64max, u8min, u8max, u32min, u32max, u64min, u64max] at hn1
 have zl2 := strE_length s2
 have rng2 := strE_in s2
 have zl3 := strE_length s3
 have rng3 := strE_in s3
 have zl6 := strE_length s6
 have rng6 := strE_in s6
 have h0 : Q.val (om n0 n1 s2 s3 len4 cap4 zs4 0 0 [] s6) c_in_emp_q0 = true := (Q.holds'_iff _ _ _).1 (by
  simp only [c_in_emp_q0, om_0, om_10, om_20, om_22, om_30, om_32, om_40, om_41, om_42, om_50, om_51, om_52, om_60, om_62, om_f, tl]
  all_goals (first | omega | trivial))
 have p0 := (Q.holds'_iff _ _ _).2 h0
 try (
  simp only [c_in_emp_q0, om_0, om_10, om_20, om_22, om_30, om_32, om_40, om_41, om_42, om_50, om_51, om_52, om_60, om_62, om_f, tl] at p0)
 have h1 : Q.val (om n0 n1 s2 s3 len4 cap4 zs4 0 0 [] s6) c_in_emp_q1 = true := (Q.holds'_iff _ _ _).1 (by
  simp only [c_in_emp_q1, om_0, om_10, om_20, om_22, om_30, om_32, om_40, om_41, om_42, om_50, om_51, om_52, om_60, om_62, om_f, tl]
  all_goals (first | omega | trivial))
 have p1 := (Q.holds'_iff _ _ _).2 h1
 try (
  simp only [c_in_emp_q1, om_0, om_10, om_20, om_22, om_30, om_32, om_40, om_41, om_42, om_50, om_51, om_52, om_60, om_62, om_f, tl] at p1)
 cases h2 : Q.val (om n0 n1 s2 s3 len4 cap4 zs4 0 0 [] s6) c_in_emp_q2
 ·have p2 := (Q.holds'_iff _ _ _).2 h2
  simp only [c_in_emp_q2, om_0, om_10, om_20, om_22, om_30, om_32, om_40, om_41, om_42, om_50, om_51, om_52, om_60, om_62, om_f, tl] at p2
  have h3 : Q.val (om n0 n1 s2 s3 len4 cap4 zs4 0 0 [] s6) c_in_emp_q3 = true := (Q.holds'_iff _ _ _).1 (by
   simp only [c_in_emp_q3, om_0, om_10, om_20, om_22, om_30, om_32, om_40, om_41, om_42, om_50, om_51, om_52, om_60, om_62, om_f, tl]
   all_goals (first | omega | trivial))
  have p3 := (Q.holds'_iff _ _ _).2 h3
  try (
   simp only [c_in_emp_q3, om_0, om_10, om_20, om_22, om_30, om_32, om_40, om_41, om_42, om_50, om_51, om_52, om_60, om_62, om_f, tl] at p3)
  cases h4 : Q.val (om n0 n1 s2 s3 len4 cap4 zs4 0 0 [] s6) c_in_emp_q15
  ·have p4 := (Q.holds'_iff _ _ _).2 h4
   simp only [c_in_emp_q15, om_0, om_10, om_20, om_22, om_30, om_32, om_40, om_41, om_42, om_50, om_51, om_52, om_60, om_62, om_f, tl] at p4
   cases h5 : Q.val (om n0 n1 s2 s3 len4 cap4 zs4 0 0 [] s6) c_in_emp_q18
   ·have p5 := (Q.holds'_iff _ _ _).2 h5
    simp only [c_in_emp_q18, om_0, om_10, om_20, om_22, om_30, om_32, om_40, om_41, om_42, om_50, om_51, om_52, om_60, om_62, om_f, tl] at p5
    exact calls_of_yesV sound tab_ok specs_ok overs_ok c_in_emp_y31 rfl (tellA_ok (by (repeat refine told_cons (by assumption) ?_); exact told_nil)) r1 hargs
   ·have p5 := (Q.holds'_iff _ _ _).2 h5
    simp only [c_in_emp_q18, om_0, om_10, om_20, om_22, om_30, om_32, om_40, om_41, om_42, om_50, om_51, om_52, om_60, om_62, om_f, tl] at p5
    have h6 : Q.val (om n0 n1 s2 s3 len4 cap4 zs4 0 0 [] s6) c_in_emp_q6 = true := (Q.holds'_iff _ _ _).1 (by
     simp only [c_in_emp_q6, om_0, om_10, om_20, om_22, om_30, om_32, om_40, om_41, om_42, om_50, om_51, om_52, om_60, om_62, om_f, tl]
     all_goals (first | omega | trivial))
    have p6 := (Q.holds'_iff _ _ _).2 h6
    try (
     simp only [c_in_emp_q6, om_0, om_10, om_20, om_22, om_30, om_32, om_40, om_41, om_42, om_50, om_51, om_52, om_60, om_62, om_f, tl] at p6)
    cases h7 : Q.val (om n0 n1 s2 s3 len4 cap4 zs4 0 0 [] s6) c_in_emp_q7
    ·have p7 := (Q.holds'_iff _ _ _).2 h7
     simp only [c_in_emp_q7, om_0, om_10, om_20, om_22, om_30, om_32, om_40, om_41, om_42, om_50, om_51, om_52, om_60, om_62, om_f, tl] at p7
     exact calls_of_yesV sound tab_ok specs_ok overs_ok c_in_emp_y32 rfl (tellA_ok (by (repeat refine told_cons (by assumption) ?_); exact told_nil)) r1 hargs
    ·have p7 := (Q.holds'_iff _ _ _).2 h7
     simp only [c_in_emp_q7, om_0, om_10, om_20, om_22, om_30, om_32, om_40, om_41, om_42, om_50, om_51, om_52, om_60, om_62, om_f, tl] at p7
     cases h8 : Q.val (om n0 n1 s2 s3 len4 cap4 zs4 0 0 [] s6) c_in_emp_q8
     ·have p8 := (Q.holds'_iff _ _ _).2 h8
      simp only [c_in_emp_q8, om_0, om_10, om_20, om_22, om_30, om_32, om_40, om_41, om_42, om_50, om_51, om_52, om_60, om_62, om_f, tl] at p8
      cases h9 : Q.val (om n0 n1 s2 s3 len4 cap4 zs4 0 0 [] s6) c_in_emp_q9
      ·have p9 := (Q.holds'_iff _ _ _).2 h9
       simp only [c_in_emp_q9, om_0, om_10, om_20, om_22, om_30, om_32, om_40, om_41, om_42, om_50, om_51, om_52, om_60, om_62, om_f, tl] at p9
       cases h10 : Q.val (om n0 n1 s2 s3 len4 cap4 zs4 0 0 [] s6) c_in_emp_q10
       ·have p10 := (Q.holds'_iff _ _ _).2 h10
        simp only [c_in_emp_q10, om_0, om_10, om_20, om_22, om_30, om_32, om_40, om_41, om_42, om_50, om_51, om_52, om_60, om_62, om_f, tl] at p10
        cases h11 : Q.val (om n0 n1 s2 s3 len4 cap4 zs4 0 0 [] s6) c_in_emp_q11
        ·have p11 := (Q.holds'_iff _ _ _).2 h11
         simp only [c_in_emp_q11, om_0, om_10, om_20, om_22, om_30, om_32, om_40, om_41, om_42, om_50, om_51, om_52, om_60, om_62, om_f, tl] at p11
         cases h12 : Q.val (om n0 n1 s2 s3 len4 cap4 zs4 0 0 [] s6) c_in_emp_q12
         ·have p12 := (Q.holds'_iff _ _ _).2 h12
          simp only [c_in_emp_q12, om_0, om_10, om_20, om_22, om_30, om_32, om_40, om_41, om_42, om_50, om_51, om_52, om_60, om_62, om_f, tl] at p12
          cases h13 : Q.val (om n0 n1 s2 s3 len4 cap4 zs4 0 0 [] s6) c_in_emp_q13
          ·have p13 := (Q.holds'_iff _ _ _).2 h13
           simp only [c_in_emp_q13, om_0, om_10, om_20, om_22, om_30, om_32, om_40, om_41, om_42, om_50, om_51, om_52, om_60, om_62, om_f, tl] at p13
           cases h14 : Q.val (om n0 n1 s2 s3 len4 cap4 zs4 0 0 [] s6) c_in_emp_q14
           ·have p14 := (Q.holds'_iff _ _ _).2 h14
            simp only [c_in_emp_q14, om_0, om_10, om_20, om_22, om_30, om_32, om_40, om_41, om_42, om_50, om_51, om_52, om_60, om_62, om_f, tl] at p14
            exact calls_of_yesV sound tab_ok specs_ok overs_ok c_in_emp_y12 rfl (tellA_ok (by (repeat refine told_cons (by assumption) ?_); exact told_nil)) r1 hargs
           ·have p14 := (Q.holds'_iff _ _ _).2 h14
            simp only [c_in_emp_q14, om_0, om_10, om_20, om_22, om_30, om_32, om_40, om_41, om_42, om_50, om_51, om_52, om_60, om_62, om_f, tl] at p14
            exact calls_of_yesV sound tab_ok specs_ok overs_ok c_in_emp_y39 rfl (tellA_ok (by (repeat refine told_cons (by assumption) ?_); exact told_nil)) r1 hargs
          ·have p13 := (Q.holds'_iff _ _ _).2 h13
           simp only [c_in_emp_q13, om_0, om_10, om_20, om_22, om_30, om_32, om_40, om_41, om_42, om_50, om_51, om_52, om_60, om_62, om_f, tl] at p13
           exact calls_of_yesV sound tab_ok specs_ok overs_ok c_in_emp_y38 rfl (tellA_ok (by (repeat refine told_cons (by assumption) ?_); exact told_nil)) r1 hargs
         ·have p12 := (Q.holds'_iff _ _ _).2 h12
          simp only [c_in_emp_q12, om_0, om_10, om_20, om_22, om_30, om_32, om_40, om_41, om_42, om_50, om_51, om_52, om_60, om_62, om_f, tl] at p12
          exact calls_of_yesV sound tab_ok specs_ok overs_ok c_in_emp_y37 rfl (tellA_ok (by (repeat refine told_cons (by assumption) ?_); exact told_nil)) r1 hargs
        ·have p11 := (Q.holds'_iff _ _ _).2 h11
         simp only [c_in_emp_q11, om_0, om_10, om_20, om_22, om_30, om_32, om_40, om_41, om_42, om_50, om_51, om_52, om_60, om_62, om_f, tl] at p11
         exact calls_of_yesV sound tab_ok specs_ok overs_ok c_in_emp_y36 rfl (tellA_ok (by (repeat refine told_cons (by assumption) ?_); exact told_nil)) r1 hargs
       ·have p10 := (Q.holds'_iff _ _ _).2 h10
        simp only [c_in_emp_q10, om_0, om_10, om_20, om_22, om_30, om_32, om_40, om_41, om_42, om_50, om_51, om_52, om_60, om_62, om_f, tl] at p10
        exact calls_of_yesV sound tab_ok specs_ok overs_ok c_in_emp_y35 rfl (tellA_ok (by (repeat refine told_cons (by assumption) ?_); exact told_nil)) r1 hargs
      ·have p9 := (Q.holds'_iff _ _ _).2 h9
       simp only [c_in_emp_q9, om_0, om_10, om_20, om_22, om_30, om_32, om_40, om_41, om_42, om_50, om_51, om_52, om_60, om_62, om_f, tl] at p9
       exact calls_of_yesV sound tab_ok specs_ok overs_ok c_in_emp_y34 rfl (tellA_ok (by (repeat refine told_cons (by assumption) ?_); exact told_nil)) r1 hargs
     ·have p8 := (Q.holds'_iff _ _ _).2 h8
      simp only [c_in_emp_q8, om_0, om_10, om_20, om_22, om_30, om_32, om_40, om_41, om_42, om_50, om_51, om_52, om_60, om_62, om_f, tl] at p8
      exact calls_of_yesV sound tab_ok specs_ok overs_ok c_in_emp_y33 rfl (tellA_ok (by (repeat refine told_cons (by assumption) ?_); exact told_nil)) r1 hargs
  ·have p4 := (Q.holds'_iff _ _ _).2 h4
   simp only [c_in_emp_q15, om_0, om_10, om_20, om_22, om_30, om_32, om_40, om_41, om_42, om_50, om_51, om_52, om_60, om_62, om_f, tl] at p4
   cases h5 : Q.val (om n0 n1 s2 s3 len4 cap4 zs4 0 0 [] s6) c_in_emp_q16
   ·have p5 := (Q.holds'_iff _ _ _).2 h5
    simp only [c_in_emp_q16, om_0, om_10, om_20, om_22, om_30, om_32, om_40, om_41, om_42, om_50, om_51, om_52, om_60, om_62, om_f, tl] at p5
    exact calls_of_yesV sound tab_ok specs_ok overs_ok c_in_emp_y13 rfl (tellA_ok (by (repeat refine told_cons (by assumption) ?_); exact told_nil)) r1 hargs
   ·have p5 := (Q.holds'_iff _ _ _).2 h5
    simp only [c_in_emp_q16, om_0, om_10, om_20, om_22, om_30, om_32, om_40, om_41, om_42, om_50, om_51, om_52, om_60, om_62, om_f, tl] at p5
    have h6 : Q.val (om n0 n1 s2 s3 len4 cap4 zs4 0 0 [] s6) c_in_emp_q6 = true := (Q.holds'_iff _ _ _).1 (by
     simp only [c_in_emp_q6, om_0, om_10, om_20, om_22, om_30, om_32, om_40, om_41, om_42, om_50, om_51, om_52, om_60, om_62, om_f, tl]
     all_goals (first | omega | trivial))
    have p6 := (Q.holds'_iff _ _ _).2 h6
    try (
     simp only [c_in_emp_q6, om_0, om_10, om_20, om_22, om_30, om_32, om_40, om_41, om_42, om_50, om_51, om_52, om_60, om_62, om_f, tl] at p6)
    cases h7 : Q.val (om n0 n1 s2 s3 len4 cap4 zs4 0 0 [] s6) c_in_emp_q7
    ·have p7 := (Q.holds'_iff _ _ _).2 h7
     simp only [c_in_emp_q7, om_0, om_10, om_20, om_22, om_30, om_32, om_40, om_41, om_42, om_50, om_51, om_52, om_60, om_62, om_f, tl] at p7
     exact calls_of_yesV sound tab_ok specs_ok overs_ok c_in_emp_y14 rfl (tellA_ok (by (repeat refine told_cons (by assumption) ?_); exact told_nil)) r1 hargs
    ·have p7 := (Q.holds'_iff _ _ _).2 h7
     simp only [c_in_emp_q7, om_0, om_10, om_20, om_22, om_30, om_32, om_40, om_41, om_42, om_50, om_51, om_52, om_60, om_62, om_f, tl] at p7
     cases h8 : Q.val (om n0 n1 s2 s3 len4 cap4 zs4 0 0 [] s6) c_in_emp_q8
     ·have p8 := (Q.holds'_iff _ _ _).2 h8
      simp only [c_in_emp_q8, om_0, om_10, om_20, om_22, om_30, om_32, om_40, om_41, om_42, om_50, om_51, om_52, om_60, om_62, om_f, tl] at p8
      cases h9 : Q.val (om n0 n1 s2 s3 len4 cap4 zs4 0 0 [] s6) c_in_emp_q9
      ·have p9 := (Q.holds'_iff _ _ _).2 h9
       simp only [c_in_emp_q9, om_0, om_10, om_20, om_22, om_30, om_32, om_40, om_41, om_42, om_50, om_51, om_52, om_60, om_62, om_f, tl] at p9
       cases h10 : Q.val (om n0 n1 s2 s3 len4 cap4 zs4 0 0 [] s6) c_in_emp_q10
       ·have p10 := (Q.holds'_iff _ _ _).2 h10
        simp only [c_in_emp_q10, om_0, om_10, om_20, om_22, om_30, om_32, om_40, om_41, om_42, om_50, om_51, om_52, om_60, om_62, om_f, tl] at p10
        cases h11 : Q.val (om n0 n1 s2 s3 len4 cap4 zs4 0 0 [] s6) c_in_emp_q11
        ·have p11 := (Q.holds'_iff _ _ _).2 h11
         simp only [c_in_emp_q11, om_0, om_10, om_20, om_22, om_30, om_32, om_40, om_41, om_42, om_50, om_51, om_52, om_60, om_62, om_f, tl] at p11
         cases h12 : Q.val (om n0 n1 s2 s3 len4 cap4 zs4 0 0 [] s6) c_in_emp_q12
         ·have p12 := (Q.holds'_iff _ _ _).2 h12
          simp only [c_in_emp_q12, om_0, om_10, om_20, om_22, om_30, om_32, om_40, om_41, om_42, om_50, om_51, om_52, om_60, om_62, om_f, tl] at p12
          cases h13 : Q.val (om n0 n1 s2 s3 len4 cap4 zs4 0 0 [] s6) c_in_emp_q13
          ·have p13 := (Q.holds'_iff _ _ _).2 h13
           simp only [c_in_emp_q13, om_0, om_10, om_20, om_22, om_30, om_32, om_40, om_41, om_42, om_50, om_51, om_52, om_60, om_62, om_f, tl] at p13
           cases h14 : Q.val (om n0 n1 s2 s3 len4 cap4 zs4 0 0 [] s6) c_in_emp_q14
           ·have p14 := (Q.holds'_iff _ _ _).2 h14
            simp only [c_in_emp_q14, om_0, om_10, om_20, om_22, om_30, om_32, om_40, om_41, om_42, om_50, om_51, om_52, om_60, om_62, om_f, tl] at p14
            exact calls_of_yesV sound tab_ok specs_ok overs_ok c_in_emp_y3 rfl (tellA_ok (by (repeat refine told_cons (by assumption) ?_); exact told_nil)) r1 hargs
           ·have p14 := (Q.holds'_iff _ _ _).2 h14
            simp only [c_in_emp_q14, om_0, om_10, om_20, om_22, om_30, om_32, om_40, om_41, om_42, om_50, om_51, om_52, om_60, om_62, om_f, tl] at p14
            exact calls_of_yesV sound tab_ok specs_ok overs_ok c_in_emp_y21 rfl (tellA_ok (by (repeat refine told_cons (by assumption) ?_); exact told_nil)) r1 hargs
          ·have p13 := (Q.holds'_iff _ _ _).2 h13
           simp only [c_in_emp_q13, om_0, om_10, om_20, om_22, om_30, om_32, om_40, om_41, om_42, om_50, om_51, om_52, om_60, om_62, om_f, tl] at p13
           exact calls_of_yesV sound tab_ok specs_ok overs_ok c_in_emp_y20 rfl (tellA_ok (by (repeat refine told_cons (by assumption) ?_); exact told_nil)) r1 hargs
         ·have p12 := (Q.holds'_iff _ _ _).2 h12
          simp only [c_in_emp_q12, om_0, om_10, om_20, om_22, om_30, om_32, om_40, om_41, om_42, om_50, om_51, om_52, om_60, om_62, om_f, tl] at p12
          exact calls_of_yesV sound tab_ok specs_ok overs_ok c_in_emp_y19 rfl (tellA_ok (by (repeat refine told_cons (by assumption) ?_); exact told_nil)) r1 hargs
        ·have p11 := (Q.holds'_iff _ _ _).2 h11
         simp only [c_in_emp_q11, om_0, om_10, om_20, om_22, om_30, om_32, om_40, om_41, om_42, om_50, om_51, om_52, om_60, om_62, om_f, tl] at p11
         exact calls_of_yesV sound tab_ok specs_ok overs_ok c_in_emp_y18 rfl (tellA_ok (by (repeat refine told_cons (by assumption) ?_); exact told_nil)) r1 hargs
       ·have p10 := (Q.holds'_iff _ _ _).2 h10
        simp only [c_in_emp_q10, om_0, om_10, om_20, om_22, om_30, om_32, om_40, om_41, om_42, om_50, om_51, om_52, om_60, om_62, om_f, tl] at p10
        exact calls_of_yesV sound tab_ok specs_ok overs_ok c_in_emp_y17 rfl (tellA_ok (by (repeat refine told_cons (by assumption) ?_); exact told_nil)) r1 hargs
      ·have p9 := (Q.holds'_iff _ _ _).2 h9
       simp only [c_in_emp_q9, om_0, om_10, om_20, om_22, om_30, om_32, om_40, om_41, om_42, om_50, om_51, om_52, om_60, om_62, om_f, tl] at p9
       exact calls_of_yesV sound tab_ok specs_ok overs_ok c_in_emp_y16 rfl (tellA_ok (by (repeat refine told_cons (by assumption) ?_); exact told_nil)) r1 hargs
     ·have p8 := (Q.holds'_iff _ _ _).2 h8
      simp only [c_in_emp_q8, om_0, om_10, om_20, om_22, om_30, om_32, om_40, om_41, om_42, om_50, om_51, om_52, om_60, om_62, om_f, tl] at p8
      exact calls_of_yesV sound tab_ok specs_ok overs_ok c_in_emp_y15 rfl (tellA_ok (by (repeat refine told_cons (by assumption) ?_); exact told_nil)) r1 hargs
 ·have p2 := (Q.holds'_iff _ _ _).2 h2
  simp only [c_in_emp_q2, om_0, om_10, om_20, om_22, om_30, om_32, om_40, om_41, om_42, om_50, om_51, om_52, om_60, om_62, om_f, tl] at p2
  have h3 : Q.val (om n0 n1 s2 s3 len4 cap4 zs4 0 0 [] s6) c_in_emp_q3 = true := (Q.holds'_iff _ _ _).1 (by
   simp only [c_in_emp_q3, om_0, om_10, om_20, om_22, om_30, om_32, om_40, om_41, om_42, om_50, om_51, om_52, om_60, om_62, om_f, tl]
   all_goals (first | omega | trivial))
  have p3 := (Q.holds'_iff _ _ _).2 h3
  try (
   simp only [c_in_emp_q3, om_0, om_10, om_20, om_22, om_30, om_32, om_40, om_41, om_42, om_50, om_51, om_52, om_60, om_62, om_f, tl] at p3)
  cases h4 : Q.val (om n0 n1 s2 s3 len4 cap4 zs4 0 0 [] s6) c_in_emp_q4
  ·have p4 := (Q.holds'_iff _ _ _).2 h4
   simp only [c_in_emp_q4, om_0, om_10, om_20, om_22, om_30, om_32, om_40, om_41, om_42, om_50, om_51, om_52, om_60, om_62, om_f, tl] at p4
   cases h5 : Q.val (om n0 n1 s2 s3 len4 cap4 zs4 0 0 [] s6) c_in_emp_q17
   ·have p5 := (Q.holds'_iff _ _ _).2 h5
    simp only [c_in_emp_q17, om_0, om_10, om_20, om_22, om_30, om_32, om_40, om_41, om_42, om_50, om_51, om_52, om_60, om_62, om_f, tl] at p5
    exact calls_of_yesV sound tab_ok specs_ok overs_ok c_in_emp_y22 rfl (tellA_ok (by (repeat refine told_cons (by assumption) ?_); exact told_nil)) r1 hargs
   ·have p5 := (Q.holds'_iff _ _ _).2 h5
    simp only [c_in_emp_q17, om_0, om_10, om_20, om_22, om_30, om_32, om_40, om_41, om_42, om_50, om_51, om_52, om_60, om_62, om_f, tl] at p5
    have h6 : Q.val (om n0 n1 s2 s3 len4 cap4 zs4 0 0 [] s6) c_in_emp_q6 = true := (Q.holds'_iff _ _ _).1 (by
     simp only [c_in_emp_q6, om_0, om_10, om_20, om_22, om_30, om_32, om_40, om_41, om_42, om_50, om_51, om_52, om_60, om_62, om_f, tl]
     all_goals (first | omega | trivial))
    have p6 := (Q.holds'_iff _ _ _).2 h6
    try (
     simp only [c_in_emp_q6, om_0, om_10, om_20, om_22, om_30, om_32, om_40, om_41, om_42, om_50, om_51, om_52, om_60, om_62, om_f, tl] at p6)
    cases h7 : Q.val (om n0 n1 s2 s3 len4 cap4 zs4 0 0 [] s6) c_in_emp_q7
    ·have p7 := (Q.holds'_iff _ _ _).2 h7
     simp only [c_in_emp_q7, om_0, om_10, om_20, om_22, om_30, om_32, om_40, om_41, om_42, om_50, om_51, om_52, om_60, om_62, om_f, tl] at p7
     exact calls_of_yesV sound tab_ok specs_ok overs_ok c_in_emp_y23 rfl (tellA_ok (by (repeat refine told_cons (by assumption) ?_); exact told_nil)) r1 hargs
    ·have p7 := (Q.holds'_iff _ _ _).2 h7
     simp only [c_in_emp_q7, om_0, om_10, om_20, om_22, om_30, om_32, om_40, om_41, om_42, om_50, om_51, om_52, om_60, om_62, om_f, tl] at p7
     cases h8 : Q.val (om n0 n1 s2 s3 len4 cap4 zs4 0 0 [] s6) c_in_emp_q8
     ·have p8 := (Q.holds'_iff _ _ _).2 h8
      simp only [c_in_emp_q8, om_0, om_10, om_20, om_22, om_30, om_32, om_40, om_41, om_42, om_50, om_51, om_52, om_60, om_62, om_f, tl] at p8
      cases h9 : Q.val (om n0 n1 s2 s3 len4 cap4 zs4 0 0 [] s6) c_in_emp_q9
      ·have p9 := (Q.holds'_iff _ _ _).2 h9
       simp only [c_in_emp_q9, om_0, om_10, om_20, om_22, om_30, om_32, om_40, om_41, om_42, om_50, om_51, om_52, om_60, om_62, om_f, tl] at p9
       cases h10 : Q.val (om n0 n1 s2 s3 len4 cap4 zs4 0 0 [] s6) c_in_emp_q10
       ·have p10 := (Q.holds'_iff _ _ _).2 h10
        simp only [c_in_emp_q10, om_0, om_10, om_20, om_22, om_30, om_32, om_40, om_41, om_42, om_50, om_51, om_52, om_60, om_62, om_f, tl] at p10
        cases h11 : Q.val (om n0 n1 s2 s3 len4 cap4 zs4 0 0 [] s6) c_in_emp_q11
        ·have p11 := (Q.holds'_iff _ _ _).2 h11
         simp only [c_in_emp_q11, om_0, om_10, om_20, om_22, om_30, om_32, om_40, om_41, om_42, om_50, om_51, om_52, om_60, om_62, om_f, tl] at p11
         cases h12 : Q.val (om n0 n1 s2 s3 len4 cap4 zs4 0 0 [] s6) c_in_emp_q12
         ·have p12 := (Q.holds'_iff _ _ _).2 h12
          simp only [c_in_emp_q12, om_0, om_10, om_20, om_22, om_30, om_32, om_40, om_41, om_42, om_50, om_51, om_52, om_60, om_62, om_f, tl] at p12
          cases h13 : Q.val (om n0 n1 s2 s3 len4 cap4 zs4 0 0 [] s6) c_in_emp_q13
          ·have p13 := (Q.holds'_iff _ _ _).2 h13
           simp only [c_in_emp_q13, om_0, om_10, om_20, om_22, om_30, om_32, om_40, om_41, om_42, om_50, om_51, om_52, om_60, om_62, om_f, tl] at p13
           cases h14 : Q.val (om n0 n1 s2 s3 len4 cap4 zs4 0 0 [] s6) c_in_emp_q14
           ·have p14 := (Q.holds'_iff _ _ _).2 h14
            simp only [c_in_emp_q14, om_0, om_10, om_20, om_22, om_30, om_32, om_40, om_41, om_42, om_50, om_51, om_52, om_60, om_62, om_f, tl] at p14
            exact calls_of_yesV sound tab_ok specs_ok overs_ok c_in_emp_y4 rfl (tellA_ok (by (repeat refine told_cons (by assumption) ?_); exact told_nil)) r1 hargs
           ·have p14 := (Q.holds'_iff _ _ _).2 h14
            simp only [c_in_emp_q14, om_0, om_10, om_20, om_22, om_30, om_32, om_40, om_41, om_42, om_50, om_51, om_52, om_60, om_62, om_f, tl] at p14
            exact calls_of_yesV sound tab_ok specs_ok overs_ok c_in_emp_y30 rfl (tellA_ok (by (repeat refine told_cons (by assumption) ?_); exact told_nil)) r1 hargs
          ·have p13 := (Q.holds'_iff _ _ _).2 h13
           simp only [c_in_emp_q13, om_0, om_10, om_20, om_22, om_30, om_32, om_40, om_41, om_42, om_50, om_51, om_52, om_60, om_62, om_f, tl] at p13
           exact calls_of_yesV sound tab_ok specs_ok overs_ok c_in_emp_y29 rfl (tellA_ok (by (repeat refine told_cons (by assumption) ?_); exact told_nil)) r1 hargs
         ·have p12 := (Q.holds'_iff _ _ _).2 h12
          simp only [c_in_emp_q12, om_0, om_10, om_20, om_22, om_30, om_32, om_40, om_41, om_42, om_50, om_51, om_52, om_60, om_62, om_f, tl] at p12
          exact calls_of_yesV sound tab_ok specs_ok overs_ok c_in_emp_y28 rfl (tellA_ok (by (repeat refine told_cons (by assumption) ?_); exact told_nil)) r1 hargs
        ·have p11 := (Q.holds'_iff _ _ _).2 h11
         simp only [c_in_emp_q11, om_0, om_10, om_20, om_22, om_30, om_32, om_40, om_41, om_42, om_50, om_51, om_52, om_60, om_62, om_f, tl] at p11
         exact calls_of_yesV sound tab_ok specs_ok overs_ok c_in_emp_y27 rfl (tellA_ok (by (repeat refine told_cons (by assumption) ?_); exact told_nil)) r1 hargs
       ·have p10 := (Q.holds'_iff _ _ _).2 h10
        simp only [c_in_emp_q10, om_0, om_10, om_20, om_22, om_30, om_32, om_40, om_41, om_42, om_50, om_51, om_52, om_60, om_62, om_f, tl] at p10
        exact calls_of_yesV sound tab_ok specs_ok overs_ok c_in_emp_y26 rfl (tellA_ok (by (repeat refine told_cons (by assumption) ?_); exact told_nil)) r1 hargs
      ·have p9 := (Q.holds'_iff _ _ _).2 h9
       simp only [c_in_emp_q9, om_0, om_10, om_20, om_22, om_30, om_32, om_40, om_41, om_42, om_50, om_51, om_52, om_60, om_62, om_f, tl] at p9
       exact calls_of_yesV sound tab_ok specs_ok overs_ok c_in_emp_y25 rfl (tellA_ok (by (repeat refine told_cons (by assumption) ?_); exact told_nil)) r1 hargs
     ·have p8 := (Q.holds'_iff _ _ _).2 h8
      simp only [c_in_emp_q8, om_0, om_10, om_20, om_22, om_30, om_32, om_40, om_41, om_42, om_50, om_51, om_52, om_60, om_62, om_f, tl] at p8
      exact calls_of_yesV sound tab_ok specs_ok overs_ok c_in_emp_y24 rfl (tellA_ok (by (repeat refine told_cons (by assumption) ?_); exact told_nil)) r1 hargs
  ·have p4 := (Q.holds'_iff _ _ _).2 h4
   simp only [c_in_emp_q4, om_0, om_10, om_20, om_22, om_30, om_32, om_40, om_41, om_42, om_50, om_51, om_52, om_60, om_62, om_f, tl] at p4
   cases h5 : Q.val (om n0 n1 s2 s3 len4 cap4 zs4 0 0 [] s6) c_in_emp_q5
   ·have p5 := (Q.holds'_iff _ _ _).2 h5
    simp only [c_in_emp_q5, om_0, om_10, om_20, om_22, om_30, om_32, om_40, om_41, om_42, om_50, om_51, om_52, om_60, om_62, om_f, tl] at p5
    exact calls_of_yesV sound tab_ok specs_ok overs_ok c_in_emp_y1 rfl (tellA_ok (by (repeat refine told_cons (by assumption) ?_); exact told_nil)) r1 hargs
   ·have p5 := (Q.holds'_iff _ _ _).2 h5
    simp only [c_in_emp_q5, om_0, om_10, om_20, om_22, om_30, om_32, om_40, om_41, om_42, om_50, om_51, om_52, om_60, om_62, om_f, tl] at p5
    have h6 : Q.val (om n0 n1 s2 s3 len4 cap4 zs4 0 0 [] s6) c_in_emp_q6 = true := (Q.holds'_iff _ _ _).1 (by
     simp only [c_in_emp_q6, om_0, om_10, om_20, om_22, om_30, om_32, om_40, om_41, om_42, om_50, om_51, om_52, om_60, om_62, om_f, tl]
     all_goals (first | omega | trivial))
    have p6 := (Q.holds'_iff _ _ _).2 h6
    try (
     simp only [c_in_emp_q6, om_0, om_10, om_20, om_22, om_30, om_32, om_40, om_41, om_42, om_50, om_51, om_52, om_60, om_62, om_f, tl] at p6)
    cases h7 : Q.val (om n0 n1 s2 s3 len4 cap4 zs4 0 0 [] s6) c_in_emp_q7
    ·have p7 := (Q.holds'_iff _ _ _).2 h7
     simp only [c_in_emp_q7, om_0, om_10, om_20, om_22, om_30, om_32, om_40, om_41, om_42, om_50, om_51, om_52, om_60, om_62, om_f, tl] at p7
     exact calls_of_yesV sound tab_ok specs_ok overs_ok c_in_emp_y2 rfl (tellA_ok (by (repeat refine told_cons (by assumption) ?_); exact told_nil)) r1 hargs
    ·have p7 := (Q.holds'_iff _ _ _).2 h7
     simp only [c_in_emp_q7, om_0, om_10, om_20, om_22, om_30, om_32, om_40, om_41, om_42, om_50, om_51, om_52, om_60, om_62, om_f, tl] at p7
     cases h8 : Q.val (om n0 n1 s2 s3 len4 cap4 zs4 0 0 [] s6) c_in_emp_q8
     ·have p8 := (Q.holds'_iff _ _ _).2 h8
      simp only [c_in_emp_q8, om_0, om_10, om_20, om_22, om_30, om_32, om_40, om_41, om_42, om_50, om_51, om_52, om_60, om_62, om_f, tl] at p8
      cases h9 : Q.val (om n0 n1 s2 s3 len4 cap4 zs4 0 0 [] s6) c_in_emp_q9
      ·have p9 := (Q.holds'_iff _ _ _).2 h9
       simp only [c_in_emp_q9, om_0, om_10, om_20, om_22, om_30, om_32, om_40, om_41, om_42, om_50, om_51, om_52, om_60, om_62, om_f, tl] at p9
       cases h10 : Q.val (om n0 n1 s2 s3 len4 cap4 zs4 0 0 [] s6) c_in_emp_q10
       ·have p10 := (Q.holds'_iff _ _ _).2 h10
        simp only [c_in_emp_q10, om_0, om_10, om_20, om_22, om_30, om_32, om_40, om_41, om_42, om_50, om_51, om_52, om_60, om_62, om_f, tl] at p10
        cases h11 : Q.val (om n0 n1 s2 s3 len4 cap4 zs4 0 0 [] s6) c_in_emp_q11
        ·have p11 := (Q.holds'_iff _ _ _).2 h11
         simp only [c_in_emp_q11, om_0, om_10, om_20, om_22, om_30, om_32, om_40, om_41, om_42, om_50, om_51, om_52, om_60, om_62, om_f, tl] at p11
         cases h12 : Q.val (om n0 n1 s2 s3 len4 cap4 zs4 0 0 [] s6) c_in_emp_q12
         ·have p12 := (Q.holds'_iff _ _ _).2 h12
          simp only [c_in_emp_q12, om_0, om_10, om_20, om_22, om_30, om_32, om_40, om_41, om_42, om_50, om_51, om_52, om_60, om_62, om_f, tl] at p12
          cases h13 : Q.val (om n0 n1 s2 s3 len4 cap4 zs4 0 0 [] s6) c_in_emp_q13
          ·have p13 := (Q.holds'_iff _ _ _).2 h13
           simp only [c_in_emp_q13, om_0, om_10, om_20, om_22, om_30, om_32, om_40, om_41, om_42, om_50, om_51, om_52, om_60, om_62, om_f, tl] at p13
           cases h14 : Q.val (om n0 n1 s2 s3 len4 cap4 zs4 0 0 [] s6) c_in_emp_q14
           ·have p14 := (Q.holds'_iff _ _ _).2 h14
            simp only [c_in_emp_q14, om_0, om_10, om_20, om_22, om_30, om_32, om_40, om_41, om_42, om_50, om_51, om_52, om_60, om_62, om_f, tl] at p14
            exact calls_of_yesV sound tab_ok specs_ok overs_ok c_in_emp_y0 rfl (tellA_ok (by (repeat refine told_cons (by assumption) ?_); exact told_nil)) r1 hargs
           ·have p14 := (Q.holds'_iff _ _ _).2 h14
            simp only [c_in_emp_q14, om_0, om_10, om_20, om_22, om_30, om_32, om_40, om_41, om_42, om_50, om_51, om_52, om_60, om_62, om_f, tl] at p14
            exact calls_of_yesV sound tab_ok specs_ok overs_ok c_in_emp_y11 rfl (tellA_ok (by (repeat refine told_cons (by assumption) ?_); exact told_nil)) r1 hargs
          ·have p13 := (Q.holds'_iff _ _ _).2 h13
           simp only [c_in_emp_q13, om_0, om_10, om_20, om_22, om_30, om_32, om_40, om_41, om_42, om_50, om_51, om_52, om_60, om_62, om_f, tl] at p13
           exact calls_of_yesV sound tab_ok specs_ok overs_ok c_in_emp_y10 rfl (tellA_ok (by (repeat refine told_cons (by assumption) ?_); exact told_nil)) r1 hargs
         ·have p12 := (Q.holds'_iff _ _ _).2 h12
          simp only [c_in_emp_q12, om_0, om_10, om_20, om_22, om_30, om_32, om_40, om_41, om_42, om_50, om_51, om_52, om_60, om_62, om_f, tl] at p12
          exact calls_of_yesV sound tab_ok specs_ok overs_ok c_in_emp_y9 rfl (tellA_ok (by (repeat refine told_cons (by assumption) ?_); exact told_nil)) r1 hargs
        ·have p11 := (Q.holds'_iff _ _ _).2 h11
         simp only [c_in_emp_q11, om_0, om_10, om_20, om_22, om_30, om_32, om_40, om_41, om_42, om_50, om_51, om_52, om_60, om_62, om_f, tl] at p11
         exact calls_of_yesV sound tab_ok specs_ok overs_ok c_in_emp_y8 rfl (tellA_ok (by (repeat refine told_cons (by assumption) ?_); exact told_nil)) r1 hargs
       ·have p10 := (Q.holds'_iff _ _ _).2 h10
        simp only [c_in_emp_q10, om_0, om_10, om_20, om_22, om_30, om_32, om_40, om_41, om_42, om_50, om_51, om_52, om_60, om_62, om_f, tl] at p10
        exact calls_of_yesV sound tab_ok specs_ok overs_ok c_in_emp_y7 rfl (tellA_ok (by (repeat refine told_cons (by assumption) ?_); exact told_nil)) r1 hargs
      ·have p9 := (Q.holds'_iff _ _ _).2 h9
       simp only [c_in_emp_q9, om_0, om_10, om_20, om_22, om_30, om_32, om_40, om_41, om_42, om_50, om_51, om_52, om_60, om_62, om_f, tl] at p9
       exact calls_of_yesV sound tab_ok specs_ok overs_ok c_in_emp_y6 rfl (tellA_ok (by (repeat refine told_cons (by assumption) ?_); exact told_nil)) r1 hargs
     ·have p8 := (Q.holds'_iff _ _ _).2 h8
      simp only [c_in_emp_q8, om_0, om_10, om_20, om_22, om_30, om_32, om_40, om_41, om_42, om_50, om_51, om_52, om_60, om_62, om_f, tl] at p8
      exact calls_of_yesV sound tab_ok specs_ok overs_ok c_in_emp_y5 rfl (tellA_ok (by (repeat refine told_cons (by assumption) ?_); exact told_nil)) r1 hargs

abbrev c_in_in_q0 : Q := (.fit .i64 (.var 40))
abbrev c_in_in_q1 : Q := (.fit .i64 (.var 20))
abbrev c_in_in_q2 : Q := (.fit .i64 (.bi .add (.var 40) (.var 20)))
abbrev c_in_in_q3 : Q := (.fit .i64 (.var 30))
abbrev c_in_in_q4 : Q := (.fit .i64 (.bi .add (.bi .add (.var 40) (.var 20)) (.var 30)))
abbrev c_in_in_q5 : Q := (.fit .i64 (.var 50))
abbrev c_in_in_q6 : Q := (.le (.var 50) (.int 30))
abbrev c_in_in_q7 : Q := (.le (.bi .add (.bi .add (.var 40) (.var 20)) (.var 30)) (.int 4000))
abbrev c_in_in_q8 : Q := (.fit .i64 (.var 60))
abbrev c_in_in_q9 : Q := (.le (.var 60) (.int 100))
abbrev c_in_in_q10 : Q := (.eq (.var 0) (.int 3))
abbrev c_in_in_q11 : Q := (.eq (.var 0) (.int 4))
abbrev c_in_in_q12 : Q := (.eq (.var 0) (.int 5))
abbrev c_in_in_q13 : Q := (.eq (.var 0) (.int 6))
abbrev c_in_in_q14 : Q := (.eq (.var 0) (.int 7))
abbrev c_in_in_q15 : Q := (.eq (.var 0) (.int 8))
abbrev c_in_in_q16 : Q := (.eq (.var 0) (.int 9))
abbrev c_in_in_q17 : Q := (.fit .i64 (.bi .add (.bi (.iop .add .i64) (.var 40) (.var 20)) (.var 30)))
abbrev c_in_in_q18 : Q := (.le (.bi .add (.bi (.iop .add .i64) (.var 40) (.var 20)) (.var 30)) (.int 4000))
abbrev c_in_in_q19 : Q := (.le (.bi (.iop .add .i64) (.bi .add (.var 40) (.var 20)) (.var 30)) (.int 4000))
abbrev c_in_in_q20 : Q := (.le (.bi (.iop .add .i64) (.bi (.iop .add .i64) (.var 40) (.var 20)) (.var 30)) (.int 4000))
abbrev c_in_in_u0 : List (Q × Bool) := [(c_in_in_q0, true), (c_in_in_q1, true), (c_in_in_q2, true), (c_in_in_q3, true), (c_in_in_q4, true), (c_in_in_q5, true), (c_in_in_q6, true), (c_in_in_q7, true), (c_in_in_q8, true), (c_in_in_q9, true), (c_in_in_q10, false), (c_in_in_q11, false), (c_in_in_q12, false), (c_in_in_q13, false), (c_in_in_q14, false), (c_in_in_q15, false), (c_in_in_q16, false)]
set_option maxRecDepth 100000 in
theorem c_in_in_y0 : yesOf Try.prog (knownV (tellA c_in_in_u0) tab specs overs) 8000 80 3 [.agg [.sint .i64 (.var 0), .sint .i64 (.var 10), .sstr (.var 20) (.var 22), .sstr (.var 30) (.var 32), .sslice 1 (.int 0) (.var 40) (.var 41) false, .sslice 3 (.int 0) (.var 50) (.var 51) false], .sstr (.var 60) (.var 62)] (((globSt g0).newO (.eseq ⟨.u8, .var 40, .var 42⟩)).newO (.eseq ⟨.i64, .var 50, .var 52⟩)) = true := by kernel_rfl
abbrev c_in_in_u1 : List (Q × Bool) := [(c_in_in_q0, true), (c_in_in_q1, true), (c_in_in_q2, true), (c_in_in_q3, true), (c_in_in_q4, true), (c_in_in_q5, true), (c_in_in_q6, true), (c_in_in_q7, false)]
set_option maxRecDepth 100000 in
theorem c_in_in_y1 : yesOf Try.prog (knownV (tellA c_in_in_u1) tab specs overs) 8000 80 3 [.agg [.sint .i64 (.var 0), .sint .i64 (.var 10), .sstr (.var 20) (.var 22), .sstr (.var 30) (.var 32), .sslice 1 (.int 0) (.var 40) (.var 41) false, .sslice 3 (.int 0) (.var 50) (.var 51) false], .sstr (.var 60) (.var 62)] (((globSt g0).newO (.eseq ⟨.u8, .var 40, .var 42⟩)).newO (.eseq ⟨.i64, .var 50, .var 52⟩)) = true := by kernel_rfl
abbrev c_in_in_u2 : List (Q × Bool) := [(c_in_in_q0, true), (c_in_in_q1, true), (c_in_in_q2, true), (c_in_in_q3, true), (c_in_in_q4, true), (c_in_in_q5, true), (c_in_in_q6, false)]
set_option maxRecDepth 100000 in
theorem c_in_in_y2 : yesOf Try.prog (knownV (tellA c_in_in_u2) tab specs overs) 8000 80 3 [.agg [.sint .i64 (.var 0), .sint .i64 (.var 10), .sstr (.var 20) (.var 22), .sstr (.var 30) (.var 32), .sslice 1 (.int 0) (.var 40) (.var 41) false, .sslice 3 (.int 0) (.var 50) (.var 51) false], .sstr (.var 60) (.var 62)] (((globSt g0).newO (.eseq ⟨.u8, .var 40, .var 42⟩)).newO (.eseq ⟨.i64, .var 50, .var 52⟩)) = true := by kernel_rfl
abbrev c_in_in_u3 : List (Q × Bool) := [(c_in_in_q0, true), (c_in_in_q1, true), (c_in_in_q2, true), (c_in_in_q3, true), (c_in_in_q4, true), (c_in_in_q5, true), (c_in_in_q6, true), (c_in_in_q7, true), (c_in_in_q8, true), (c_in_in_q9, false)]
set_option maxRecDepth 100000 in
theorem c_in_in_y3 : yesOf Try.prog (knownV (tellA c_in_in_u3) tab specs overs) 8000 80 3 [.agg [.sint .i64 (.var 0), .sint .i64 (.var 10), .sstr (.var 20) (.var 22), .sstr (.var 30) (.var 32), .sslice 1 (.int 0) (.var 40) (.var 41) false, .sslice 3 (.int 0) (.var 50) (.var 51) false], .sstr (.var 60) (.var 62)] (((globSt g0).newO (.eseq ⟨.u8, .var 40, .var 42⟩)).newO (.eseq ⟨.i64, .var 50, .var 52⟩)) = true := by kernel_rfl
abbrev c_in_in_u4 : List (Q × Bool) := [(c_in_in_q0, true), (c_in_in_q1, true), (c_in_in_q2, false), (c_in_in_q3, true), (c_in_in_q17, true), (c_in_in_q5, true), (c_in_in_q6, true), (c_in_in_q18, true), (c_in_in_q8, true), (c_in_in_q9, true), (c_in_in_q10, false), (c_in_in_q11, false), (c_in_in_q12, false), (c_in_in_q13, false), (c_in_in_q14, false), (c_in_in_q15, false), (c_in_in_q16, false)]
set_option maxRecDepth 100000 in
theorem c_in_in_y4 : yesOf Try.prog (knownV (tellA c_in_in_u4) tab specs overs) 8000 80 3 [.agg [.sint .i64 (.var 0), .sint .i64 (.var 10), .sstr (.var 20) (.var 22), .sstr (.var 30) (.var 32), .sslice 1 (.int 0) (.var 40) (.var 41) false, .sslice 3 (.int 0) (.var 50) (.var 51) false], .sstr (.var 60) (.var 62)] (((globSt g0).newO (.eseq ⟨.u8, .var 40, .var 42⟩)).newO (.eseq ⟨.i64, .var 50, .var 52⟩)) = true := by kernel_rfl
abbrev c_in_in_u5 : List (Q × Bool) := [(c_in_in_q0, true), (c_in_in_q1, true), (c_in_in_q2, true), (c_in_in_q3, true), (c_in_in_q4, false), (c_in_in_q5, true), (c_in_in_q6, true), (c_in_in_q19, true), (c_in_in_q8, true), (c_in_in_q9, true), (c_in_in_q10, false), (c_in_in_q11, false), (c_in_in_q12, false), (c_in_in_q13, false), (c_in_in_q14, false), (c_in_in_q15, false), (c_in_in_q16, false)]
set_option maxRecDepth 100000 in
theorem c_in_in_y5 : yesOf Try.prog (knownV (tellA c_in_in_u5) tab specs overs) 8000 80 3 [.agg [.sint .i64 (.var 0), .sint .i64 (.var 10), .sstr (.var 20) (.var 22), .sstr (.var 30) (.var 32), .sslice 1 (.int 0) (.var 40) (.var 41) false, .sslice 3 (.int 0) (.var 50) (.var 51) false], .sstr (.var 60) (.var 62)] (((globSt g0).newO (.eseq ⟨.u8, .var 40, .var 42⟩)).newO (.eseq ⟨.i64, .var 50, .var 52⟩)) = true := by kernel_rfl
abbrev c_in_in_u6 : List (Q × Bool) := [(c_in_in_q0, true), (c_in_in_q1, true), (c_in_in_q2, true), (c_in_in_q3, true), (c_in_in_q4, true), (c_in_in_q5, true), (c_in_in_q6, true), (c_in_in_q7, true), (c_in_in_q8, true), (c_in_in_q9, true), (c_in_in_q10, true)]
set_option maxRecDepth 100000 in
theorem c_in_in_y6 : yesOf Try.prog (knownV (tellA c_in_in_u6) tab specs overs) 8000 80 3 [.agg [.sint .i64 (.var 0), .sint .i64 (.var 10), .sstr (.var 20) (.var 22), .sstr (.var 30) (.var 32), .sslice 1 (.int 0) (.var 40) (.var 41) false, .sslice 3 (.int 0) (.var 50) (.var 51) false], .sstr (.var 60) (.var 62)] (((globSt g0).newO (.eseq ⟨.u8, .var 40, .var 42⟩)).newO (.eseq ⟨.i64, .var 50, .var 52⟩)) = true := by kernel_rfl
abbrev c_in_in_u7 : List (Q × Bool) := [(c_in_in_q0, true), (c_in_in_q1, true), (c_in_in_q2, true), (c_in_in_q3, true), (c_in_in_q4, true), (c_in_in_q5, true), (c_in_in_q6, true), (c_in_in_q7, true), (c_in_in_q8, true), (c_in_in_q9, true), (c_in_in_q10, false), (c_in_in_q11, true)]
set_option maxRecDepth 100000 in
theorem c_in_in_y7 : yesOf Try.prog (knownV (tellA c_in_in_u7) tab specs overs) 8000 80 3 [.agg [.sint .i64 (.var 0), .sint .i64 (.var 10), .sstr (.var 20) (.var 22), .sstr (.var 30) (.var 32), .sslice 1 (.int 0) (.var 40) (.var 41) false, .sslice 3 (.int 0) (.var 50) (.var 51) false], .sstr (.var 60) (.var 62)] (((globSt g0).newO (.eseq ⟨.u8, .var 40, .var 42⟩)).newO (.eseq ⟨.i64, .var 50, .var 52⟩)) = true := by kernel_rfl
abbrev c_in_in_u8 : List (Q × Bool) := [(c_in_in_q0, true), (c_in_in_q1, true), (c_in_in_q2, true), (c_in_in_q3, true), (c_in_in_q4, true), (c_in_in_q5, true), (c_in_in_q6, true), (c_in_in_q7, true), (c_in_in_q8, true), (c_in_in_q9, true), (c_in_in_q10, false), (c_in_in_q11, false), (c_in_in_q12, true)]
set_option maxRecDepth 100000 in
theorem c_in_in_y8 : yesOf Try.prog (knownV (tellA c_in_in_u8) tab specs overs) 8000 80 3 [.agg [.sint .i64 (.var 0), .sint .i64 (.var 10), .sstr (.var 20) (.var 22), .sstr (.var 30) (.var 32), .sslice 1 (.int 0) (.var 40) (.var 41) false, .sslice 3 (.int 0) (.var 50) (.var 51) false], .sstr (.var 60) (.var 62)] (((globSt g0).newO (.eseq ⟨.u8, .var 40, .var 42⟩)).newO (.eseq ⟨.i64, .var 50, .var 52⟩)) = true := by kernel_rfl
abbrev c_in_in_u9 : List (Q × Bool) := [(c_in_in_q0, true), (c_in_in_q1, true), (c_in_in_q2, true), (c_in_in_q3, true), (c_in_in_q4, true), (c_in_in_q5, true), (c_in_in_q6, true), (c_in_in_q7, true), (c_in_in_q8, true), (c_in_in_q9, true), (c_in_in_q10, false), (c_in_in_q11, false), (c_in_in_q12, false), (c_in_in_q13, true)]
set_option maxRecDepth 100000 in
theorem c_in_in_y9 : yesOf Try.prog (knownV (tellA c_in_in_u9) tab specs overs) 8000 80 3 [.agg [.sint .i64 (.var 0), .sint .i64 (.var 10), .sstr (.var 20) (.var 22), .sstr (.var 30) (.var 32), .sslice 1 (.int 0) (.var 40) (.var 41) false, .sslice 3 (.int 0) (.var 50) (.var 51) false], .sstr (.var 60) (.var 62)] (((globSt g0).newO (.eseq ⟨.u8, .var 40, .var 42⟩)).newO (.eseq ⟨.i64, .var 50, .var 52⟩)) = true := by kernel_rfl
abbrev c_in_in_u10 : List (Q × Bool) := [(c_in_in_q0, true), (c_in_in_q1, true), (c_in_in_q2, true), (c_in_in_q3, true), (c_in_in_q4, true), (c_in_in_q5, true), (c_in_in_q6, true), (c_in_in_q7, true), (c_in_in_q8, true), (c_in_in_q9, true), (c_in_in_q10, false), (c_in_in_q11, false), (c_in_in_q12, false), (c_in_in_q13, false), (c_in_in_q14, true)]
set_option maxRecDepth 100000 in
theorem c_in_in_y10 : yesOf Try.prog (knownV (tellA c_in_in_u10) tab specs overs) 8000 80 3 [.agg [.sint .i64 (.var 0), .sint .i64 (.var 10), .sstr (.var 20) (.var 22), .sstr (.var 30) (.var 32), .sslice 1 (.int 0) (.var 40) (.var 41) false, .sslice 3 (.int 0) (.var 50) (.var 51) false], .sstr (.var 60) (.var 62)] (((globSt g0).newO (.eseq ⟨.u8, .var 40, .var 42⟩)).newO (.eseq ⟨.i64, .var 50, .var 52⟩)) = true := by kernel_rfl
abbrev c_in_in_u11 : List (Q × Bool) := [(c_in_in_q0, true), (c_in_in_q1, true), (c_in_in_q2, true), (c_in_in_q3, true), (c_in_in_q4, true), (c_in_in_q5, true), (c_in_in_q6, true), (c_in_in_q7, true), (c_in_in_q8, true), (c_in_in_q9, true), (c_in_in_q10, false), (c_in_in_q11, false), (c_in_in_q12, false), (c_in_in_q13, false), (c_in_in_q14, false), (c_in_in_q15, true)]
set_option maxRecDepth 100000 in
theorem c_in_in_y11 : yesOf Try.prog (knownV (tellA c_in_in_u11) tab specs overs) 8000 80 3 [.agg [.sint .i64 (.var 0), .sint .i64 (.var 10), .sstr (.var 20) (.var 22), .sstr (.var 30) (.var 32), .sslice 1 (.int 0) (.var 40) (.var 41) false, .sslice 3 (.int 0) (.var 50) (.var 51) false], .sstr (.var 60) (.var 62)] (((globSt g0).newO (.eseq ⟨.u8, .var 40, .var 42⟩)).newO (.eseq ⟨.i64, .var 50, .var 52⟩)) = true := by kernel_rfl
abbrev c_in_in_u12 : List (Q × Bool) := [(c_in_in_q0, true), (c_in_in_q1, true), (c_in_in_q2, true), (c_in_in_q3, true), (c_in_in_q4, true), (c_in_in_q5, true), (c_in_in_q6, true), (c_in_in_q7, true), (c_in_in_q8, true), (c_in_in_q9, true), (c_in_in_q10, false), (c_in_in_q11, false), (c_in_in_q12, false), (c_in_in_q13, false), (c_in_in_q14, false), (c_in_in_q15, false), (c_in_in_q16, true)]
set_option maxRecDepth 100000 in
theorem c_in_in_y12 : yesOf Try.prog (knownV (tellA c_in_in_u12) tab specs overs) 8000 80 3 [.agg [.sint .i64 (.var 0), .sint .i64 (.var 10), .sstr (.var 20) (.var 22), .sstr (.var 30) (.var 32), .sslice 1 (.int 0) (.var 40) (.var 41) false, .sslice 3 (.int 0) (.var 50) (.var 51) false], .sstr (.var 60) (.var 62)] (((globSt g0).newO (.eseq ⟨.u8, .var 40, .var 42⟩)).newO (.eseq ⟨.i64, .var 50, .var 52⟩)) = true := by kernel_rfl
abbrev c_in_in_u13 : List (Q × Bool) := [(c_in_in_q0, true), (c_in_in_q1, true), (c_in_in_q2, false), (c_in_in_q3, true), (c_in_in_q17, false), (c_in_in_q5, true), (c_in_in_q6, true), (c_in_in_q20, true), (c_in_in_q8, true), (c_in_in_q9, true), (c_in_in_q10, false), (c_in_in_q11, false), (c_in_in_q12, false), (c_in_in_q13, false), (c_in_in_q14, false), (c_in_in_q15, false), (c_in_in_q16, false)]
set_option maxRecDepth 100000 in
theorem c_in_in_y13 : yesOf Try.prog (knownV (tellA c_in_in_u13) tab specs overs) 8000 80 3 [.agg [.sint .i64 (.var 0), .sint .i64 (.var 10), .sstr (.var 20) (.var 22), .sstr (.var 30) (.var 32), .sslice 1 (.int 0) (.var 40) (.var 41) false, .sslice 3 (.int 0) (.var 50) (.var 51) false], .sstr (.var 60) (.var 62)] (((globSt g0).newO (.eseq ⟨.u8, .var 40, .var 42⟩)).newO (.eseq ⟨.i64, .var 50, .var 52⟩)) = true := by kernel_rfl
abbrev c_in_in_u14 : List (Q × Bool) := [(c_in_in_q0, true), (c_in_in_q1, true), (c_in_in_q2, false), (c_in_in_q3, true), (c_in_in_q17, true), (c_in_in_q5, true), (c_in_in_q6, false)]
set_option maxRecDepth 100000 in
theorem c_in_in_y14 : yesOf Try.prog (knownV (tellA c_in_in_u14) tab specs overs) 8000 80 3 [.agg [.sint .i64 (.var 0), .sint .i64 (.var 10), .sstr (.var 20) (.var 22), .sstr (.var 30) (.var 32), .sslice 1 (.int 0) (.var 40) (.var 41) false, .sslice 3 (.int 0) (.var 50) (.var 51) false], .sstr (.var 60) (.var 62)] (((globSt g0).newO (.eseq ⟨.u8, .var 40, .var 42⟩)).newO (.eseq ⟨.i64, .var 50, .var 52⟩)) = true := by kernel_rfl
abbrev c_in_in_u15 : List (Q × Bool) := [(c_in_in_q0, true), (c_in_in_q1, true), (c_in_in_q2, false), (c_in_in_q3, true), (c_in_in_q17, true), (c_in_in_q5, true), (c_in_in_q6, true), (c_in_in_q18, false)]
set_option maxRecDepth 100000 in
theorem c_in_in_y15 : yesOf Try.prog (knownV (tellA c_in_in_u15) tab specs overs) 8000 80 3 [.agg [.sint .i64 (.var 0), .sint .i64 (.var 10), .sstr (.var 20) (.var 22), .sstr (.var 30) (.var 32), .sslice 1 (.int 0) (.var 40) (.var 41) false, .sslice 3 (.int 0) (.var 50) (.var 51) false], .sstr (.var 60) (.var 62)] (((globSt g0).newO (.eseq ⟨.u8, .var 40, .var 42⟩)).newO (.eseq ⟨.i64, .var 50, .var 52⟩)) = true := by kernel_rfl
abbrev c_in_in_u16 : List (Q × Bool) := [(c_in_in_q0, true), (c_in_in_q1, true), (c_in_in_q2, false), (c_in_in_q3, true), (c_in_in_q17, true), (c_in_in_q5, true), (c_in_in_q6, true), (c_in_in_q18, true), (c_in_in_q8, true), (c_in_in_q9, false)]
set_option maxRecDepth 100000 in
theorem c_in_in_y16 : yesOf Try.prog (knownV (tellA c_in_in_u16) tab specs overs) 8000 80 3 [.agg [.sint .i64 (.var 0), .sint .i64 (.var 10), .sstr (.var 20) (.var 22), .sstr (.var 30) (.var 32), .sslice 1 (.int 0) (.var 40) (.var 41) false, .sslice 3 (.int 0) (.var 50) (.var 51) false], .sstr (.var 60) (.var 62)] (((globSt g0).newO (.eseq ⟨.u8, .var 40, .var 42⟩)).newO (.eseq ⟨.i64, .var 50, .var 52⟩)) = true := by kernel_rfl
abbrev c_in_in_u17 : List (Q × Bool) := [(c_in_in_q0, true), (c_in_in_q1, true), (c_in_in_q2, false), (c_in_in_q3, true), (c_in_in_q17, true), (c_in_in_q5, true), (c_in_in_q6, true), (c_in_in_q18, true), (c_in_in_q8, true), (c_in_in_q9, true), (c_in_in_q10, true)]
set_option maxRecDepth 100000 in
theorem c_in_in_y17 : yesOf Try.prog (knownV (tellA c_in_in_u17) tab specs overs) 8000 80 3 [.agg [.sint .i64 (.var 0), .sint .i64 (.var 10), .sstr (.var 20) (.var 22), .sstr (.var 30) (.var 32), .sslice 1 (.int 0) (.var 40) (.var 41) false, .sslice 3 (.int 0) (.var 50) (.var 51) false], .sstr (.var 60) (.var 62)] (((globSt g0).newO (.eseq ⟨.u8, .var 40, .var 42⟩)).newO (.eseq ⟨.i64, .var 50, .var 52⟩)) = true := by kernel_rfl
abbrev c_in_in_u18 : List (Q × Bool) := [(c_in_in_q0, true), (c_in_in_q1, true), (c_in_in_q2, false), (c_in_in_q3, true), (c_in_in_q17, true), (c_in_in_q5, true), (c_in_in_q6, true), (c_in_in_q18, true), (c_in_in_q8, true), (c_in_in_q9, true), (c_in_in_q10, false), (c_in_in_q11, true)]
set_option maxRecDepth 100000 in
theorem c_in_in_y18 : yesOf Try.prog (knownV (tellA c_in_in_u18) tab specs overs) 8000 80 3 [.agg [.sint .i64 (.var 0), .sint .i64 (.var 10), .sstr (.var 20) (.var 22), .sstr (.var 30) (.var 32), .sslice 1 (.int 0) (.var 40) (.var 41) false, .sslice 3 (.int 0) (.var 50) (.var 51) false], .sstr (.var 60) (.var 62)] (((globSt g0).newO (.eseq ⟨.u8, .var 40, .var 42⟩)).newO (.eseq ⟨.i64, .var 50, .var 52⟩)) = true := by kernel_rfl
abbrev c_in_in_u19 : List (Q × Bool) := [(c_in_in_q0, true), (c_in_in_q1, true), (c_in_in_q2, false), (c_in_in_q3, true), (c_in_in_q17, true), (c_in_in_q5, true), (c_in_in_q6, true), (c_in_in_q18, true), (c_in_in_q8, true), (c_in_in_q9, true), (c_in_in_q10, false), (c_in_in_q11, false), (c_in_in_q12, true)]
set_option maxRecDepth 100000 in
theorem c_in_in_y19 : yesOf Try.prog (knownV (tellA c_in_in_u19) tab specs overs) 8000 80 3 [.agg [.sint .i64 (.var 0), .sint .i64 (.var 10), .sstr (.var 20) (.var 22), .sstr (.var 30) (.var 32), .sslice 1 (.int 0) (.var 40) (.var 41) false, .sslice 3 (.int 0) (.var 50) (.var 51) false], .sstr (.var 60) (.var 62)] (((globSt g0).newO (.eseq ⟨.u8, .var 40, .var 42⟩)).newO (.eseq ⟨.i64, .var 50, .var 52⟩)) = true := by kernel_rfl
abbrev c_in_in_u20 : List (Q × Bool) := [(c_in_in_q0, true), (c_in_in_q1, true), (c_in_in_q2, false), (c_in_in_q3, true), (c_in_in_q17, true), (c_in_in_q5, true), (c_in_in_q6, true), (c_in_in_q18, true), (c_in_in_q8, true), (c_in_in_q9, true), (c_in_in_q10, false), (c_in_in_q11, false), (c_in_in_q12, false), (c_in_in_q13, true)]
set_option maxRecDepth 100000 in
theorem c_in_in_y20 : yesOf Try.prog (knownV (tellA c_in_in_u20) tab specs overs) 8000 80 3 [.agg [.sint .i64 (.var 0), .sint .i64 (.var 10), .sstr (.var 20) (.var 22), .sstr (.var 30) (.var 32), .sslice 1 (.int 0) (.var 40) (.var 41) false, .sslice 3 (.int 0) (.var 50) (.var 51) false], .sstr (.var 60) (.var 62)] (((globSt g0).newO (.eseq ⟨.u8, .var 40, .var 42⟩)).newO (.eseq ⟨.i64, .var 50, .var 52⟩)) = true := by kernel_rfl
abbrev c_in_in_u21 : List (Q × Bool) := [(c_in_in_q0, true), (c_in_in_q1, true), (c_in_in_q2, false), (c_in_in_q3, true), (c_in_in_q17, true), (c_in_in_q5, true), (c_in_in_q6, true), (c_in_in_q18, true), (c_in_in_q8, true), (c_in_in_q9, true), (c_in_in_q10, false), (c_in_in_q11, false), (c_in_in_q12, false), (c_in_in_q13, false), (c_in_in_q14, true)]
set_option maxRecDepth 100000 in
theorem c_in_in_y21 : yesOf Try.prog (knownV (tellA c_in_in_u21) tab specs overs) 8000 80 3 [.agg [.sint .i64 (.var 0), .sint .i64 (.var 10), .sstr (.var 20) (.var 22), .sstr (.var 30) (.var 32), .sslice 1 (.int 0) (.var 40) (.var 41) false, .sslice 3 (.int 0) (.var 50) (.var 51) false], .sstr (.var 60) (.var 62)] (((globSt g0).newO (.eseq ⟨.u8, .var 40, .var 42⟩)).newO (.eseq ⟨.i64, .var 50, .var 52⟩)) = true := by kernel_rfl
abbrev c_in_in_u22 : List (Q × Bool) := [(c_in_in_q0, true), (c_in_in_q1, true), (c_in_in_q2, false), (c_in_in_q3, true), (c_in_in_q17, true), (c_in_in_q5, true), (c_in_in_q6, true), (c_in_in_q18, true), (c_in_in_q8, true), (c_in_in_q9, true), (c_in_in_q10, false), (c_in_in_q11, false), (c_in_in_q12, false), (c_in_in_q13, false), (c_in_in_q14, false), (c_in_in_q15, true)]
set_option maxRecDepth 100000 in
theorem c_in_in_y22 : yesOf Try.prog (knownV (tellA c_in_in_u22) tab specs overs) 8000 80 3 [.agg [.sint .i64 (.var 0), .sint .i64 (.var 10), .sstr (.var 20) (.var 22), .sstr (.var 30) (.var 32), .sslice 1 (.int 0) (.var 40) (.var 41) false, .sslice 3 (.int 0) (.var 50) (.var 51) false], .sstr (.var 60) (.var 62)] (((globSt g0).newO (.eseq ⟨.u8, .var 40, .var 42⟩)).newO (.eseq ⟨.i64, .var 50, .var 52⟩)) = true := by kernel_rfl
abbrev c_in_in_u23 : List (Q × Bool) := [(c_in_in_q0, true), (c_in_in_q1, true), (c_in_in_q2, false), (c_in_in_q3, true), (c_in_in_q17, true), (c_in_in_q5, true), (c_in_in_q6, true), (c_in_in_q18, true), (c_in_in_q8, true), (c_in_in_q9, true), (c_in_in_q10, false), (c_in_in_q11, false), (c_in_in_q12, false), (c_in_in_q13, false), (c_in_in_q14, false), (c_in_in_q15, false), (c_in_in_q16, true)]
set_option maxRecDepth 100000 in
theorem c_in_in_y23 : yesOf Try.prog (knownV (tellA c_in_in_u23) tab specs overs) 8000 80 3 [.agg [.sint .i64 (.var 0), .sint .i64 (.var 10), .sstr (.var 20) (.var 22), .sstr (.var 30) (.var 32), .sslice 1 (.int 0) (.var 40) (.var 41) false, .sslice 3 (.int 0) (.var 50) (.var 51) false], .sstr (.var 60) (.var 62)] (((globSt g0).newO (.eseq ⟨.u8, .var 40, .var 42⟩)).newO (.eseq ⟨.i64, .var 50, .var 52⟩)) = true := by kernel_rfl
abbrev c_in_in_u24 : List (Q × Bool) := [(c_in_in_q0, true), (c_in_in_q1, true), (c_in_in_q2, true), (c_in_in_q3, true), (c_in_in_q4, false), (c_in_in_q5, true), (c_in_in_q6, false)]
set_option maxRecDepth 100000 in
theorem c_in_in_y24 : yesOf Try.prog (knownV (tellA c_in_in_u24) tab specs overs) 8000 80 3 [.agg [.sint .i64 (.var 0), .sint .i64 (.var 10), .sstr (.var 20) (.var 22), .sstr (.var 30) (.var 32), .sslice 1 (.int 0) (.var 40) (.var 41) false, .sslice 3 (.int 0) (.var 50) (.var 51) false], .sstr (.var 60) (.var 62)] (((globSt g0).newO (.eseq ⟨.u8, .var 40, .var 42⟩)).newO (.eseq ⟨.i64, .var 50, .var 52⟩)) = true := by kernel_rfl
abbrev c_in_in_u25 : List (Q × Bool) := [(c_in_in_q0, true), (c_in_in_q1, true), (c_in_in_q2, true), (c_in_in_q3, true), (c_in_in_q4, false), (c_in_in_q5, true), (c_in_in_q6, true), (c_in_in_q19, false)]
set_option maxRecDepth 100000 in
theorem c_in_in_y25 : yesOf Try.prog (knownV (tellA c_in_in_u25) tab specs overs) 8000 80 3 [.agg [.sint .i64 (.var 0), .sint .i64 (.var 10), .sstr (.var 20) (.var 22), .sstr (.var 30) (.var 32), .sslice 1 (.int 0) (.var 40) (.var 41) false, .sslice 3 (.int 0) (.var 50) (.var 51) false], .sstr (.var 60) (.var 62)] (((globSt g0).newO (.eseq ⟨.u8, .var 40, .var 42⟩)).newO (.eseq ⟨.i64, .var 50, .var 52⟩)) = true := by kernel_rfl
abbrev c_in_in_u26 : List (Q × Bool) := [(c_in_in_q0, true), (c_in_in_q1, true), (c_in_in_q2, true), (c_in_in_q3, true), (c_in_in_q4, false), (c_in_in_q5, true), (c_in_in_q6, true), (c_in_in_q19, true), (c_in_in_q8, true), (c_in_in_q9, false)]
set_option maxRecDepth 100000 in
theorem c_in_in_y26 : yesOf Try.prog (knownV (tellA c_in_in_u26) tab specs overs) 8000 80 3 [.agg [.sint .i64 (.var 0), .sint .i64 (.var 10), .sstr (.var 20) (.var 22), .sstr (.var 30) (.var 32), .sslice 1 (.int 0) (.var 40) (.var 41) false, .sslice 3 (.int 0) (.var 50) (.var 51) false], .sstr (.var 60) (.var 62)] (((globSt g0).newO (.eseq ⟨.u8, .var 40, .var 42⟩)).newO (.eseq ⟨.i64, .var 50, .var 52⟩)) = true := by kernel_rfl
abbrev c_in_in_u27 : List (Q × Bool) := [(c_in_in_q0, true), (c_in_in_q1, true), (c_in_in_q2, true), (c_in_in_q3, true), (c_in_in_q4, false), (c_in_in_q5, true), (c_in_in_q6, true), (c_in_in_q19, true), (c_in_in_q8, true), (c_in_in_q9, true), (c_in_in_q10, true)]
set_option maxRecDepth 100000 in
theorem c_in_in_y27 : yesOf Try.prog (knownV (tellA c_in_in_u27) tab specs overs) 8000 80 3 [.agg [.sint .i64 (.var 0), .sint .i64 (.var 10), .sstr (.var 20) (.var 22), .sstr (.var 30) (.var 32), .sslice 1 (.int 0) (.var 40) (.var 41) false, .sslice 3 (.int 0) (.var 50) (.var 51) false], .sstr (.var 60) (.var 62)] (((globSt g0).newO (.eseq ⟨.u8, .var 40, .var 42⟩)).newO (.eseq ⟨.i64, .var 50, .var 52⟩)) = true := by kernel_rfl
abbrev c_in_in_u28 : List (Q × Bool) := [(c_in_in_q0, true), (c_in_in_q1, true), (c_in_in_q2, true), (c_in_in_q3, true), (c_in_in_q4, false), (c_in_in_q5, true), (c_in_in_q6, true), (c_in_in_q19, true), (c_in_in_q8, true), (c_in_in_q9, true), (c_in_in_q10, false), (c_in_in_q11, true)]
set_option maxRecDepth 100000 in
theorem c_in_in_y28 : yesOf Try.prog (knownV (tellA c_in_in_u28) tab specs overs) 8000 80 3 [.agg [.sint .i64 (.var 0), .sint .i64 (.var 10), .sstr (.var 20) (.var 22), .sstr (.var 30) (.var 32), .sslice 1 (.int 0) (.var 40) (.var 41) false, .sslice 3 (.int 0) (.var 50) (.var 51) false], .sstr (.var 60) (.var 62)] (((globSt g0).newO (.eseq ⟨.u8, .var 40, .var 42⟩)).newO (.eseq ⟨.i64, .var 50, .var 52⟩)) = true := by kernel_rfl
abbrev c_in_in_u29 : List (Q × Bool) := [(c_in_in_q0, true), (c_in_in_q1, true), (c_in_in_q2, true), (c_in_in_q3, true), (c_in_in_q4, false), (c_in_in_q5, true), (c_in_in_q6, true), (c_in_in_q19, true), (c_in_in_q8, true), (c_in_in_q9, true), (c_in_in_q10, false), (c_in_in_q11, false), (c_in_in_q12, true)]
set_option maxRecDepth 100000 in
theorem c_in_in_y29 : yesOf Try.prog (knownV (tellA c_in_in_u29) tab specs overs) 8000 80 3 [.agg [.sint .i64 (.var 0), .sint .i64 (.var 10), .sstr (.var 20) (.var 22), .sstr (.var 30) (.var 32), .sslice 1 (.int 0) (.var 40) (.var 41) false, .sslice 3 (.int 0) (.var 50) (.var 51) false], .sstr (.var 60) (.var 62)] (((globSt g0).newO (.eseq ⟨.u8, .var 40, .var 42⟩)).newO (.eseq ⟨.i64, .var 50, .var 52⟩)) = true := by kernel_rfl
abbrev c_in_in_u30 : List (Q × Bool) := [(c_in_in_q0, true), (c_in_in_q1, true), (c_in_in_q2, true), (c_in_in_q3, true), (c_in_in_q4, false), (c_in_in_q5, true), (c_in_in_q6, true), (c_in_in_q19, true), (c_in_in_q8, true), (c_in_in_q9, true), (c_in_in_q10, false), (c_in_in_q11, false), (c_in_in_q12, false), (c_in_in_q13, true)]
set_option maxRecDepth 100000 in
theorem c_in_in_y30 : yesOf Try.prog (knownV (tellA c_in_in_u30) tab specs overs) 8000 80 3 [.agg [.sint .i64 (.var 0), .sint .i64 (.var 10), .sstr (.var 20) (.var 22), .sstr (.var 30) (.var 32), .sslice 1 (.int 0) (.var 40) (.var 41) false, .sslice 3 (.int 0) (.var 50) (.var 51) false], .sstr (.var 60) (.var 62)] (((globSt g0).newO (.eseq ⟨.u8, .var 40, .var 42⟩)).newO (.eseq ⟨.i64, .var 50, .var 52⟩)) = true := by kernel_rfl
abbrev c_in_in_u31 : List (Q × Bool) := [(c_in_in_q0, true), (c_in_in_q1, true), (c_in_in_q2, true), (c_in_in_q3, true), (c_in_in_q4, false), (c_in_in_q5, true), (c_in_in_q6, true), (c_in_in_q19, true), (c_in_in_q8, true), (c_in_in_q9, true), (c_in_in_q10, false), (c_in_in_q11, false), (c_in_in_q12, false), (c_in_in_q13, false), (c_in_in_q14, true)]
set_option maxRecDepth 100000 in
theorem c_in_in_y31 : yesOf Try.prog (knownV (tellA c_in_in_u31) tab specs overs) 8000 80 3 [.agg [.sint .i64 (.var 0), .sint .i64 (.var 10), .sstr (.var 20) (.var 22), .sstr (.var 30) (.var 32), .sslice 1 (.int 0) (.var 40) (.var 41) false, .sslice 3 (.int 0) (.var 50) (.var 51) false], .sstr (.var 60) (.var 62)] (((globSt g0).newO (.eseq ⟨.u8, .var 40, .var 42⟩)).newO (.eseq ⟨.i64, .var 50, .var 52⟩)) = true := by kernel_rfl
abbrev c_in_in_u32 : List (Q × Bool) := [(c_in_in_q0, true), (c_in_in_q1, true), (c_in_in_q2, true), (c_in_in_q3, true), (c_in_in_q4, false), (c_in_in_q5, true), (c_in_in_q6, true), (c_in_in_q19, true), (c_in_in_q8, true), (c_in_in_q9, true), (c_in_in_q10, false), (c_in_in_q11, false), (c_in_in_q12, false), (c_in_in_q13, false), (c_in_in_q14, false), (c_in_in_q15, true)]
set_option maxRecDepth 100000 in
theorem c_in_in_y32 : yesOf Try.prog (knownV (tellA c_in_in_u32) tab specs overs) 8000 80 3 [.agg [.sint .i64 (.var 0), .sint .i64 (.var 10), .sstr (.var 20) (.var 22), .sstr (.var 30) (.var 32), .sslice 1 (.int 0) (.var 40) (.var 41) false, .sslice 3 (.int 0) (.var 50) (.var 51) false], .sstr (.var 60) (.var 62)] (((globSt g0).newO (.eseq ⟨.u8, .var 40, .var 42⟩)).newO (.eseq ⟨.i64, .var 50, .var 52⟩)) = true := by kernel_rfl
abbrev c_in_in_u33 : List (Q × Bool) := [(c_in_in_q0, true), (c_in_in_q1, true), (c_in_in_q2, true), (c_in_in_q3, true), (c_in_in_q4, false), (c_in_in_q5, true), (c_in_in_q6, true), (c_in_in_q19, true), (c_in_in_q8, true), (c_in_in_q9, true), (c_in_in_q10, false), (c_in_in_q11, false), (c_in_in_q12, false), (c_in_in_q13, false), (c_in_in_q14, false), (c_in_in_q15, false), (c_in_in_q16, true)]
set_option maxRecDepth 100000 in
theorem c_in_in_y33 : yesOf Try.prog (knownV (tellA c_in_in_u33) tab specs overs) 8000 80 3 [.agg [.sint .i64 (.var 0), .sint .i64 (.var 10), .sstr (.var 20) (.var 22), .sstr (.var 30) (.var 32), .sslice 1 (.int 0) (.var 40) (.var 41) false, .sslice 3 (.int 0) (.var 50) (.var 51) false], .sstr (.var 60) (.var 62)] (((globSt g0).newO (.eseq ⟨.u8, .var 40, .var 42⟩)).newO (.eseq ⟨.i64, .var 50, .var 52⟩)) = true := by kernel_rfl
abbrev c_in_in_u34 : List (Q × Bool) := [(c_in_in_q0, true), (c_in_in_q1, true), (c_in_in_q2, false), (c_in_in_q3, true), (c_in_in_q17, false), (c_in_in_q5, true), (c_in_in_q6, false)]
set_option maxRecDepth 100000 in
theorem c_in_in_y34 : yesOf Try.prog (knownV (tellA c_in_in_u34) tab specs overs) 8000 80 3 [.agg [.sint .i64 (.var 0), .sint .i64 (.var 10), .sstr (.var 20) (.var 22), .sstr (.var 30) (.var 32), .sslice 1 (.int 0) (.var 40) (.var 41) false, .sslice 3 (.int 0) (.var 50) (.var 51) false], .sstr (.var 60) (.var 62)] (((globSt g0).newO (.eseq ⟨.u8, .var 40, .var 42⟩)).newO (.eseq ⟨.i64, .var 50, .var 52⟩)) = true := by kernel_rfl
abbrev c_in_in_u35 : List (Q × Bool) := [(c_in_in_q0, true), (c_in_in_q1, true), (c_in_in_q2, false), (c_in_in_q3, true), (c_in_in_q17, false), (c_in_in_q5, true), (c_in_in_q6, true), (c_in_in_q20, false)]
set_option maxRecDepth 100000 in
theorem c_in_in_y35 : yesOf Try.prog (knownV (tellA c_in_in_u35) tab specs overs) 8000 80 3 [.agg [.sint .i64 (.var 0), .sint .i64 (.var 10), .sstr (.var 20) (.var 22), .sstr (.var 30) (.var 32), .sslice 1 (.int 0) (.var 40) (.var 41) false, .sslice 3 (.int 0) (.var 50) (.var 51) false], .sstr (.var 60) (.var 62)] (((globSt g0).newO (.eseq ⟨.u8, .var 40, .var 42⟩)).newO (.eseq ⟨.i64, .var 50, .var 52⟩)) = true := by kernel_rfl
abbrev c_in_in_u36 : List (Q × Bool) := [(c_in_in_q0, true), (c_in_in_q1, true), (c_in_in_q2, false), (c_in_in_q3, true), (c_in_in_q17, false), (c_in_in_q5, true), (c_in_in_q6, true), (c_in_in_q20, true), (c_in_in_q8, true), (c_in_in_q9, false)]
set_option maxRecDepth 100000 in
theorem c_in_in_y36 : yesOf Try.prog (knownV (tellA c_in_in_u36) tab specs overs) 8000 80 3 [.agg [.sint .i64 (.var 0), .sint .i64 (.var 10), .sstr (.var 20) (.var 22), .sstr (.var 30) (.var 32), .sslice 1 (.int 0) (.var 40) (.var 41) false, .sslice 3 (.int 0) (.var 50) (.var 51) false], .sstr (.var 60) (.var 62)] (((globSt g0).newO (.eseq ⟨.u8, .var 40, .var 42⟩)).newO (.eseq ⟨.i64, .var 50, .var 52⟩)) = true := by kernel_rfl
abbrev c_in_in_u37 : List (Q × Bool) := [(c_in_in_q0, true), (c_in_in_q1, true), (c_in_in_q2, false), (c_in_in_q3, true), (c_in_in_q17, false), (c_in_in_q5, true), (c_in_in_q6, true), (c_in_in_q20, true), (c_in_in_q8, true), (c_in_in_q9, true), (c_in_in_q10, true)]
set_option maxRecDepth 100000 in
theorem c_in_in_y37 : yesOf Try.prog (knownV (tellA c_in_in_u37) tab specs overs) 8000 80 3 [.agg [.sint .i64 (.var 0), .sint .i64 (.var 10), .sstr (.var 20) (.var 22), .sstr (.var 30) (.var 32), .sslice 1 (.int 0) (.var 40) (.var 41) false, .sslice 3 (.int 0) (.var 50) (.var 51) false], .sstr (.var 60) (.var 62)] (((globSt g0).newO (.eseq ⟨.u8, .var 40, .var 42⟩)).newO (.eseq ⟨.i64, .var 50, .var 52⟩)) = true := by kernel_rfl
abbrev c_in_in_u38 : List (Q × Bool) := [(c_in_in_q0, true), (c_in_in_q1, true), (c_in_in_q2, false), (c_in_in_q3, true), (c_in_in_q17, false), (c_in_in_q5, true), (c_in_in_q6, true), (c_in_in_q20, true), (c_in_in_q8, true), (c_in_in_q9, true), (c_in_in_q10, false), (c_in_in_q11, true)]
set_option maxRecDepth 100000 in
theorem c_in_in_y38 : yesOf Try.prog (knownV (tellA c_in_in_u38) tab specs overs) 8000 80 3 [.agg [.sint .i64 (.var 0), .sint .i64 (.var 10), .sstr (.var 20) (.var 22), .sstr (.var 30) (.var 32), .sslice 1 (.int 0) (.var 40) (.var 41) false, .sslice 3 (.int 0) (.var 50) (.var 51) false], .sstr (.var 60) (.var 62)] (((globSt g0).newO (.eseq ⟨.u8, .var 40, .var 42⟩)).newO (.eseq ⟨.i64, .var 50, .var 52⟩)) = true := by kernel_rfl
abbrev c_in_in_u39 : List (Q × Bool) := [(c_in_in_q0, true), (c_in_in_q1, true), (c_in_in_q2, false), (c_in_in_q3, true), (c_in_in_q17, false), (c_in_in_q5, true), (c_in_in_q6, true), (c_in_in_q20, true), (c_in_in_q8, true), (c_in_in_q9, true), (c_in_in_q10, false), (c_in_in_q11, false), (c_in_in_q12, true)]
set_option maxRecDepth 100000 in
theorem c_in_in_y39 : yesOf Try.prog (knownV (tellA c_in_in_u39) tab specs overs) 8000 80 3 [.agg [.sint .i64 (.var 0), .sint .i64 (.var 10), .sstr (.var 20) (.var 22), .sstr (.var 30) (.var 32), .sslice 1 (.int 0) (.var 40) (.var 41) false, .sslice 3 (.int 0) (.var 50) (.var 51) false], .sstr (.var 60) (.var 62)] (((globSt g0).newO (.eseq ⟨.u8, .var 40, .var 42⟩)).newO (.eseq ⟨.i64, .var 50, .var 52⟩)) = true := by kernel_rfl
abbrev c_in_in_u40 : List (Q × Bool) := [(c_in_in_q0, true), (c_in_in_q1, true), (c_in_in_q2, false), (c_in_in_q3, true), (c_in_in_q17, false), (c_in_in_q5, true), (c_in_in_q6, true), (c_in_in_q20, true), (c_in_in_q8, true), (c_in_in_q9, true), (c_in_in_q10, false), (c_in_in_q11, false), (c_in_in_q12, false), (c_in_in_q13, true)]
set_option maxRecDepth 100000 in
theorem c_in_in_y40 : yesOf Try.prog (knownV (tellA c_in_in_u40) tab specs overs) 8000 80 3 [.agg [.sint .i64 (.var 0), .sint .i64 (.var 10), .sstr (.var 20) (.var 22), .sstr (.var 30) (.var 32), .sslice 1 (.int 0) (.var 40) (.var 41) false, .sslice 3 (.int 0) (.var 50) (.var 51) false], .sstr (.var 60) (.var 62)] (((globSt g0).newO (.eseq ⟨.u8, .var 40, .var 42⟩)).newO (.eseq ⟨.i64, .var 50, .var 52⟩)) = true := by kernel_rfl
abbrev c_in_in_u41 : List (Q × Bool) := [(c_in_in_q0, true), (c_in_in_q1, true), (c_in_in_q2, false), (c_in_in_q3, true), (c_in_in_q17, false), (c_in_in_q5, true), (c_in_in_q6, true), (c_in_in_q20, true), (c_in_in_q8, true), (c_in_in_q9, true), (c_in_in_q10, false), (c_in_in_q11, false), (c_in_in_q12, false), (c_in_in_q13, false), (c_in_in_q14, true)]
set_option maxRecDepth 100000 in
theorem c_in_in_y41 : yesOf Try.prog (knownV (tellA c_in_in_u41) tab specs overs) 8000 80 3 [.agg [.sint .i64 (.var 0), .sint .i64 (.var 10), .sstr (.var 20) (.var 22), .sstr (.var 30) (.var 32), .sslice 1 (.int 0) (.var 40) (.var 41) false, .sslice 3 (.int 0) (.var 50) (.var 51) false], .sstr (.var 60) (.var 62)] (((globSt g0).newO (.eseq ⟨.u8, .var 40, .var 42⟩)).newO (.eseq ⟨.i64, .var 50, .var 52⟩)) = true := by kernel_rfl
abbrev c_in_in_u42 : List (Q × Bool) := [(c_in_in_q0, true), (c_in_in_q1, true), (c_in_in_q2, false), (c_in_in_q3, true), (c_in_in_q17, false), (c_in_in_q5, true), (c_in_in_q6, true), (c_in_in_q20, true), (c_in_in_q8, true), (c_in_in_q9, true), (c_in_in_q10, false), (c_in_in_q11, false), (c_in_in_q12, false), (c_in_in_q13, false), (c_in_in_q14, false), (c_in_in_q15, true)]
set_option maxRecDepth 100000 in
theorem c_in_in_y42 : yesOf Try.prog (knownV (tellA c_in_in_u42) tab specs overs) 8000 80 3 [.agg [.sint .i64 (.var 0), .sint .i64 (.var 10), .sstr (.var 20) (.var 22), .sstr (.var 30) (.var 32), .sslice 1 (.int 0) (.var 40) (.var 41) false, .sslice 3 (.int 0) (.var 50) (.var 51) false], .sstr (.var 60) (.var 62)] (((globSt g0).newO (.eseq ⟨.u8, .var 40, .var 42⟩)).newO (.eseq ⟨.i64, .var 50, .var 52⟩)) = true := by kernel_rfl
abbrev c_in_in_u43 : List (Q × Bool) := [(c_in_in_q0, true), (c_in_in_q1, true), (c_in_in_q2, false), (c_in_in_q3, true), (c_in_in_q17, false), (c_in_in_q5, true), (c_in_in_q6, true), (c_in_in_q20, true), (c_in_in_q8, true), (c_in_in_q9, true), (c_in_in_q10, false), (c_in_in_q11, false), (c_in_in_q12, false), (c_in_in_q13, false), (c_in_in_q14, false), (c_in_in_q15, false), (c_in_in_q16, true)]
set_option maxRecDepth 100000 in
theorem c_in_in_y43 : yesOf Try.prog (knownV (tellA c_in_in_u43) tab specs overs) 8000 80 3 [.agg [.sint .i64 (.var 0), .sint .i64 (.var 10), .sstr (.var 20) (.var 22), .sstr (.var 30) (.var 32), .sslice 1 (.int 0) (.var 40) (.var 41) false, .sslice 3 (.int 0) (.var 50) (.var 51) false], .sstr (.var 60) (.var 62)] (((globSt g0).newO (.eseq ⟨.u8, .var 40, .var 42⟩)).newO (.eseq ⟨.i64, .var 50, .var 52⟩)) = true := by kernel_rfl
set_option maxRecDepth 100000 in
set_option maxHeartbeats 6000000 in
theorem c_in_in_walk {W : World} {n0 : Int} (hn0 : inK .i64 n0) {n1 : Int} (hn1 : inK .i64 n1) {s2 : ByteArray} (max2 : s2.size ≤ 9223372036854775807) {s3 : ByteArray} (max3 : s3.size ≤ 9223372036854775807) {v4 : Value} {b4 off4 len4 cap4 : Nat} {zs4 : List Int} (h4 : InSlice W .u8 v4 b4 off4 len4 cap4 zs4) {v5 : Value} {b5 off5 len5 cap5 : Nat} {zs5 : List Int} (h5 : InSlice W .i64 v5 b5 off5 len5 cap5 zs5) {s6 : ByteArray} (max6 : s6.size ≤ 9223372036854775807) (hG : GlobsR (om n0 n1 s2 s3 len4 cap4 zs4 len5 cap5 zs5 s6) W g0) : Calls Try.prog 3 #[.agg #[.int .i64 n0, .int .i64 n1, .string s2, .string s3, v4, v5], .string s6] W fun e w' => e = .returned (.bool true) ∧ Below W.heap.size W w' := by
 have r0 := Rel.globs (om n0 n1 s2 s3 len4 cap4 zs4 len5 cap5 zs5 s6) W g0 hG
 obtain ⟨le4, r1, x4⟩ := h4.open r0 (l := 40) (c := 41) (x := 42) rfl rfl rfl
 have pos4 := h4.pos
 have lec4 := h4.le
 have max4 := h4.max
 have zl4 := h4.len
 have rng4 := h4.rng
 obtain ⟨le5, r2, x5⟩ := h5.open r1 (l := 50) (c := 51) (x := 52) rfl rfl rfl
 replace x4 := VR.mono le5 _ _ x4
 have pos5 := h5.pos
 have lec5 := h5.le
 have max5 := h5.max
 have zl5 := h5.len
 have rng5 := h5.rng
 have hargs : VRs _ [.agg [.sint .i64 (.var 0), .sint .i64 (.var 10), .sstr (.var 20) (.var 22), .sstr (.var 30) (.var 32), .sslice 1 (.int 0) (.var 40) (.var 41) false, .sslice 3 (.int 0) (.var 50) (.var 51) false], .sstr (.var 60) (.var 62)] [.agg #[.int .i64 n0, .int .i64 n1, .string s2, .string s3, v4, v5], .string s6] := VRs_cons (vr_agg (VRs_cons (vr_sint (i := 0) hn0 (by rw [r2.opq]; rfl)) (VRs_cons (vr_sint (i := 10) hn1 (by rw [r2.opq]; rfl)) (VRs_cons (vr_str (l := 20) (x := 22) (by rw [r2.opq]; rfl) (by rw [r2.opq]; rfl)) (VRs_cons (vr_str (l := 30) (x := 32) (by rw [r2.opq]; rfl) (by rw [r2.opq]; rfl)) (VRs_cons (x4) (VRs_cons (x5) (VRs_nil)))))))) (VRs_cons (vr_str (l := 60) (x := 62) (by rw [r2.opq]; rfl) (by rw [r2.opq]; rfl)) (VRs_nil))
 simp only [inK, i64min, i64max, u8min, u8max, u32min, u32max, u64min, u64max] at hn0
 simp only [inK, i64min, i64max, u8min, u8max, u32min, u32max, u64min, u64max] at hn1
 have zl2 := strE_length s2
 have rng2 := strE_in s2
 have zl3 := strE_length s3
 have rng3 := strE_in s3
 have zl6 := strE_length s6
 have rng6 := strE_in s6
 have h0 : Q.val (om n0 n1 s2 s3 len4 cap4 zs4 len5 cap5 zs5 s6) c_in_in_q0 = true := (Q.holds'_iff _ _ _).1 (by
  simp only [c_in_in_q0, om_0, om_10, om_20, om_22, om_30, om_32, om_40, om_41, om_42, om_50, om_51, om_52, om_60, om_62, om_f, tl]
  all_goals (first | omega | trivial))
 have p0 := (Q.holds'_iff _ _ _).2 h0
 try (
  simp only [c_in_in_q0, om_0, om_10, om_20, om_22, om_30, om_32, om_40, om_41, om_42, om_50, om_51, om_52, om_60, om_62, om_f, tl] at p0)
 have h1 : Q.val (om n0 n1 s2 s3 len4 cap4 zs4 len5 cap5 zs5 s6) c_in_in_q1 = true := (Q.holds'_iff _ _ _).1 (by
  simp only [c_in_in_q1, om_0, om_10, om_20, om_22, om_30, om_32, om_40, om_41, om_42, om_50, om_51, om_52, om_60, om_62, om_f, tl]
  all_goals (first | omega | trivial))
 have p1 := (Q.holds'_iff _ _ _).2 h1
 try (
  simp only [c_in_in_q1, om_0, om_10, om_20, om_22, om_30, om_32, om_40, om_41, om_42, om_50, om_51, om_52, om_60, om_62, om_f, tl] at p1)
 cases h2 : Q.val (om n0 n1 s2 s3 len4 cap4 zs4 len5 cap5 zs5 s6) c_in_in_q2
 ·have p2 := (Q.holds'_iff _ _ _).2 h2
  simp only [c_in_in_q2, om_0, om_10, om_20, om_22, om_30, om_32, om_40, om_41, om_42, om_50, om_51, om_52, om_60, om_62, om_f, tl] at p2
  have h3 : Q.val (om n0 n1 s2 s3 len4 cap4 zs4 len5 cap5 zs5 s6) c_in_in_q3 = true := (Q.holds'_iff _ _ _).1 (by
   simp only [c_in_in_q3, om_0, om_10, om_20, om_22, om_30, om_32, om_40, om_41, om_42, om_50, om_51, om_52, om_60, om_62, om_f, tl]
   all_goals (first | omega | trivial))
  have p3 := (Q.holds'_iff _ _ _).2 h3
  try (
   simp only [c_in_in_q3, om_0, om_10, om_20, om_22, om_30, om_32, om_40, om_41, om_42, om_50, om_51, om_52, om_60, om_62, om_f, tl] at p3)
  cases h4 : Q.val (om n0 n1 s2 s3 len4 cap4 zs4 len5 cap5 zs5 s6) c_in_in_q17
  ·have p4 := (Q.holds'_iff _ _ _).2 h4
   simp only [c_in_in_q17, om_0, om_10, om_20, om_22, om_30, om_32, om_40, om_41, om_42, om_50, om_51, om_52, om_60, om_62, om_f, tl] at p4
   have h5 : Q.val (om n0 n1 s2 s3 len4 cap4 zs4 len5 cap5 zs5 s6) c_in_in_q5 = true := (Q.holds'_iff _ _ _).1 (by
    simp only [c_in_in_q5, om_0, om_10, om_20, om_22, om_30, om_32, om_40, om_41, om_42, om_50, om_51, om_52, om_60, om_62, om_f, tl]
    all_goals (first | omega | trivial))
   have p5 := (Q.holds'_iff _ _ _).2 h5
   try (
    simp only [c_in_in_q5, om_0, om_10, om_20, om_22, om_30, om_32, om_40, om_41, om_42, om_50, om_51, om_52, om_60, om_62, om_f, tl] at p5)
   cases h6 : Q.val (om n0 n1 s2 s3 len4 cap4 zs4 len5 cap5 zs5 s6) c_in_in_q6
   ·have p6 := (Q.holds'_iff _ _ _).2 h6
    simp only [c_in_in_q6, om_0, om_10, om_20, om_22, om_30, om_32, om_40, om_41, om_42, om_50, om_51, om_52, om_60, om_62, om_f, tl] at p6
    exact calls_of_yesV sound tab_ok specs_ok overs_ok c_in_in_y34 rfl (tellA_ok (by (repeat refine told_cons (by assumption) ?_); exact told_nil)) r2 hargs
   ·have p6 := (Q.holds'_iff _ _ _).2 h6
    simp only [c_in_in_q6, om_0, om_10, om_20, om_22, om_30, om_32, om_40, om_41, om_42, om_50, om_51, om_52, om_60, om_62, om_f, tl] at p6
    cases h7 : Q.val (om n0 n1 s2 s3 len4 cap4 zs4 len5 cap5 zs5 s6) c_in_in_q20
    ·have p7 := (Q.holds'_iff _ _ _).2 h7
     simp only [c_in_in_q20, om_0, om_10, om_20, om_22, om_30, om_32, om_40, om_41, om_42, om_50, om_51, om_52, om_60, om_62, om_f, tl] at p7
     exact calls_of_yesV sound tab_ok specs_ok overs_ok c_in_in_y35 rfl (tellA_ok (by (repeat refine told_cons (by assumption) ?_); exact told_nil)) r2 hargs
    ·have p7 := (Q.holds'_iff _ _ _).2 h7
     simp only [c_in_in_q20, om_0, om_10, om_20, om_22, om_30, om_32, om_40, om_41, om_42, om_50, om_51, om_52, om_60, om_62, om_f, tl] at p7
     have h8 : Q.val (om n0 n1 s2 s3 len4 cap4 zs4 len5 cap5 zs5 s6) c_in_in_q8 = true := (Q.holds'_iff _ _ _).1 (by
      simp only [c_in_in_q8, om_0, om_10, om_20, om_22, om_30, om_32, om_40, om_41, om_42, om_50, om_51, om_52, om_60, om_62, om_f, tl]
      all_goals (first | omega | trivial))
     have p8 := (Q.holds'_iff _ _ _).2 h8
     try (
      simp only [c_in_in_q8, om_0, om_10, om_20, om_22, om_30, om_32, om_40, om_41, om_42, om_50, om_51, om_52, om_60, om_62, om_f, tl] at p8)
     cases h9 : Q.val (om n0 n1 s2 s3 len4 cap4 zs4 len5 cap5 zs5 s6) c_in_in_q9
     ·have p9 := (Q.holds'_iff _ _ _).2 h9
      simp only [c_in_in_q9, om_0, om_10, om_20, om_22, om_30, om_32, om_40, om_41, om_42, om_50, om_51, om_52, om_60, om_62, om_f, tl] at p9
      exact calls_of_yesV sound tab_ok specs_ok overs_ok c_in_in_y36 rfl (tellA_ok (by (repeat refine told_cons (by assumption) ?_); exact told_nil)) r2 hargs
     ·have p9 := (Q.holds'_iff _ _ _).2 h9
      simp only [c_in_in_q9, om_0, om_10, om_20, om_22, om_30, om_32, om_40, om_41, om_42, om_50, om_51, om_52, om_60, om_62, om_f, tl] at p9
      cases h10 : Q.val (om n0 n1 s2 s3 len4 cap4 zs4 len5 cap5 zs5 s6) c_in_in_q10
      ·have p10 := (Q.holds'_iff _ _ _).2 h10
       simp only [c_in_in_q10, om_0, om_10, om_20, om_22, om_30, om_32, om_40, om_41, om_42, om_50, om_51, om_52, om_60, om_62, om_f, tl] at p10
       cases h11 : Q.val (om n0 n1 s2 s3 len4 cap4 zs4 len5 cap5 zs5 s6) c_in_in_q11
       ·have p11 := (Q.holds'_iff _ _ _).2 h11
        simp only [c_in_in_q11, om_0, om_10, om_20, om_22, om_30, om_32, om_40, om_41, om_42, om_50, om_51, om_52, om_60, om_62, om_f, tl] at p11
        cases h12 : Q.val (om n0 n1 s2 s3 len4 cap4 zs4 len5 cap5 zs5 s6) c_in_in_q12
        ·have p12 := (Q.holds'_iff _ _ _).2 h12
         simp only [c_in_in_q12, om_0, om_10, om_20, om_22, om_30, om_32, om_40, om_41, om_42, om_50, om_51, om_52, om_60, om_62, om_f, tl] at p12
         cases h13 : Q.val (om n0 n1 s2 s3 len4 cap4 zs4 len5 cap5 zs5 s6) c_in_in_q13
         ·have p13 := (Q.holds'_iff _ _ _).2 h13
          simp only [c_in_in_q13, om_0, om_10, om_20, om_22, om_30, om_32, om_40, om_41, om_42, om_50, om_51, om_52, om_60, om_62, om_f, tl] at p13
          cases h14 : Q.val (om n0 n1 s2 s3 len4 cap4 zs4 len5 cap5 zs5 s6) c_in_in_q14
          ·have p14 := (Q.holds'_iff _ _ _).2 h14
           simp only [c_in_in_q14, om_0, om_10, om_20, om_22, om_30, om_32, om_40, om_41, om_42, om_50, om_51, om_52, om_60, om_62, om_f, tl] at p14
           cases h15 : Q.val (om n0 n1 s2 s3 len4 cap4 zs4 len5 cap5 zs5 s6) c_in_in_q15
           ·have p15 := (Q.holds'_iff _ _ _).2 h15
            simp only [c_in_in_q15, om_0, om_10, om_20, om_22, om_30, om_32, om_40, om_41, om_42, om_50, om_51, om_52, om_60, om_62, om_f, tl] at p15
            cases h16 : Q.val (om n0 n1 s2 s3 len4 cap4 zs4 len5 cap5 zs5 s6) c_in_in_q16
            ·have p16 := (Q.holds'_iff _ _ _).2 h16
             simp only [c_in_in_q16, om_0, om_10, om_20, om_22, om_30, om_32, om_40, om_41, om_42, om_50, om_51, om_52, om_60, om_62, om_f, tl] at p16
             exact calls_of_yesV sound tab_ok specs_ok overs_ok c_in_in_y13 rfl (tellA_ok (by (repeat refine told_cons (by assumption) ?_); exact told_nil)) r2 hargs
            ·have p16 := (Q.holds'_iff _ _ _).2 h16
             simp only [c_in_in_q16, om_0, om_10, om_20, om_22, om_30, om_32, om_40, om_41, om_42, om_50, om_51, om_52, om_60, om_62, om_f, tl] at p16
             exact calls_of_yesV sound tab_ok specs_ok overs_ok c_in_in_y43 rfl (tellA_ok (by (repeat refine told_cons (by assumption) ?_); exact told_nil)) r2 hargs
           ·have p15 := (Q.holds'_iff _ _ _).2 h15
            simp only [c_in_in_q15, om_0, om_10, om_20, om_22, om_30, om_32, om_40, om_41, om_42, om_50, om_51, om_52, om_60, om_62, om_f, tl] at p15
            exact calls_of_yesV sound tab_ok specs_ok overs_ok c_in_in_y42 rfl (tellA_ok (by (repeat refine told_cons (by assumption) ?_); exact told_nil)) r2 hargs
          ·have p14 := (Q.holds'_iff _ _ _).2 h14
           simp only [c_in_in_q14, om_0, om_10, om_20, om_22, om_30, om_32, om_40, om_41, om_42, om_50, om_51, om_52, om_60, om_62, om_f, tl] at p14
           exact calls_of_yesV sound tab_ok specs_ok overs_ok c_in_in_y41 rfl (tellA_ok (by (repeat refine told_cons (by assumption) ?_); exact told_nil)) r2 hargs
         ·have p13 := (Q.holds'_iff _ _ _).2 h13
          simp only [c_in_in_q13, om_0, om_10, om_20, om_22, om_30, om_32, om_40, om_41, om_42, om_50, om_51, om_52, om_60, om_62, om_f, tl] at p13
          exact calls_of_yesV sound tab_ok specs_ok overs_ok c_in_in_y40 rfl (tellA_ok (by (repeat refine told_cons (by assumption) ?_); exact told_nil)) r2 hargs
        ·have p12 := (Q.holds'_iff _ _ _).2 h12
         simp only [c_in_in_q12, om_0, om_10, om_20, om_22, om_30, om_32, om_40, om_41, om_42, om_50, om_51, om_52, om_60, om_62, om_f, tl] at p12
         exact calls_of_yesV sound tab_ok specs_ok overs_ok c_in_in_y39 rfl (tellA_ok (by (repeat refine told_cons (by assumption) ?_); exact told_nil)) r2 hargs
       ·have p11 := (Q.holds'_iff _ _ _).2 h11
        simp only [c_in_in_q11, om_0, om_10, om_20, om_22, om_30, om_32, om_40, om_41, om_42, om_50, om_51, om_52, om_60, om_62, om_f, tl] at p11
        exact calls_of_yesV sound tab_ok specs_ok overs_ok c_in_in_y38 rfl (tellA_ok (by (repeat refine told_cons (by assumption) ?_); exact told_nil)) r2 hargs
      ·have p10 := (Q.holds'_iff _ _ _).2 h10
       simp only [c_in_in_q10, om_0, om_10, om_20, om_22, om_30, om_32, om_40, om_41, om_42, om_50, om_51, om_52, om_60, om_62, om_f, tl] at p10
       exact calls_of_yesV sound tab_ok specs_ok overs_ok c_in_in_y37 rfl (tellA_ok (by (repeat refine told_cons (by assumption) ?_); exact told_nil)) r2 hargs
  ·have p4 := (Q.holds'_iff _ _ _).2 h4
   simp only [c_in_in_q17, om_0, om_10, om_20, om_22, om_30, om_32, om_40, om_41, om_42, om_50, om_51, om_52, om_60, om_62, om_f, tl] at p4
   have h5 : Q.val (om n0 n1 s2 s3 len4 cap4 zs4 len5 cap5 zs5 s6) c_in_in_q5 = true := (Q.holds'_iff _ _ _).1 (by
    simp only [c_in_in_q5, om_0, om_10, om_20, om_22, om_30, om_32, om_40, om_41, om_42, om_50, om_51, om_52, om_60, om_62, om_f, tl]
    all_goals (first | omega | trivial))
   have p5 := (Q.holds'_iff _ _ _).2 h5
   try (
    simp only [c_in_in_q5, om_0, om_10, om_20, om_22, om_30, om_32, om_40, om_41, om_42, om_50, om_51, om_52, om_60, om_62, om_f, tl] at p5)
   cases h6 : Q.val (om n0 n1 s2 s3 len4 cap4 zs4 len5 cap5 zs5 s6) c_in_in_q6
   ·have p6 := (Q.holds'_iff _ _ _).2 h6
    simp only [c_in_in_q6, om_0, om_10, om_20, om_22, om_30, om_32, om_40, om_41, om_42, om_50, om_51, om_52, om_60, om_62, om_f, tl] at p6
    exact calls_of_yesV sound tab_ok specs_ok overs_ok c_in_in_y14 rfl (tellA_ok (by (repeat refine told_cons (by assumption) ?_); exact told_nil)) r2 hargs
   ·have p6 := (Q.holds'_iff _ _ _).2 h6
    simp only [c_in_in_q6, om_0, om_10, om_20, om_22, om_30, om_32, om_40, om_41, om_42, om_50, om_51, om_52, om_60, om_62, om_f, tl] at p6
    cases h7 : Q.val (om n0 n1 s2 s3 len4 cap4 zs4 len5 cap5 zs5 s6) c_in_in_q18
    ·have p7 := (Q.holds'_iff _ _ _).2 h7
     simp only [c_in_in_q18, om_0, om_10, om_20, om_22, om_30, om_32, om_40, om_41, om_42, om_50, om_51, om_52, om_60, om_62, om_f, tl] at p7
     exact calls_of_yesV sound tab_ok specs_ok overs_ok c_in_in_y15 rfl (tellA_ok (by (repeat refine told_cons (by assumption) ?_); exact told_nil)) r2 hargs
    ·have p7 := (Q.holds'_iff _ _ _).2 h7
     simp only [c_in_in_q18, om_0, om_10, om_20, om_22, om_30, om_32, om_40, om_41, om_42, om_50, om_51, om_52, om_60, om_62, om_f, tl] at p7
     have h8 : Q.val (om n0 n1 s2 s3 len4 cap4 zs4 len5 cap5 zs5 s6) c_in_in_q8 = true := (Q.holds'_iff _ _ _).1 (by
      simp only [c_in_in_q8, om_0, om_10, om_20, om_22, om_30, om_32, om_40, om_41, om_42, om_50, om_51, om_52, om_60, om_62, om_f, tl]
      all_goals (first | omega | trivial))
     have p8 := (Q.holds'_iff _ _ _).2 h8
     try (
      simp only [c_in_in_q8, om_0, om_10, om_20, om_22, om_30, om_32, om_40, om_41, om_42, om_50, om_51, om_52, om_60, om_62, om_f, tl] at p8)
     cases h9 : Q.val (om n0 n1 s2 s3 len4 cap4 zs4 len5 cap5 zs5 s6) c_in_in_q9
     ·have p9 := (Q.holds'_iff _ _ _).2 h9
      simp only [c_in_in_q9, om_0, om_10, om_20, om_22, om_30, om_32, om_40, om_41, om_42, om_50, om_51, om_52, om_60, om_62, om_f, tl] at p9
      exact calls_of_yesV sound tab_ok specs_ok overs_ok c_in_in_y16 rfl (tellA_ok (by (repeat refine told_cons (by assumption) ?_); exact told_nil)) r2 hargs
     ·have p9 := (Q.holds'_iff _ _ _).2 h9
      simp only [c_in_in_q9, om_0, om_10, om_20, om_22, om_30, om_32, om_40, om_41, om_42, om_50, om_51, om_52, om_60, om_62, om_f, tl] at p9
      cases h10 : Q.val (om n0 n1 s2 s3 len4 cap4 zs4 len5 cap5 zs5 s6) c_in_in_q10
      ·have p10 := (Q.holds'_iff _ _ _).2 h10
       simp only [c_in_in_q10, om_0, om_10, om_20, om_22, om_30, om_32, om_40, om_41, om_42, om_50, om_51, om_52, om_60, om_62, om_f, tl] at p10
       cases h11 : Q.val (om n0 n1 s2 s3 len4 cap4 zs4 len5 cap5 zs5 s6) c_in_in_q11
       ·have p11 := (Q.holds'_iff _ _ _).2 h11
        simp only [c_in_in_q11, om_0, om_10, om_20, om_22, om_30, om_32, om_40, om_41, om_42, om_50, om_51, om_52, om_60, om_62, om_f, tl] at p11
        cases h12 : Q.val (om n0 n1 s2 s3 len4 cap4 zs4 len5 cap5 zs5 s6) c_in_in_q12
        ·have p12 := (Q.holds'_iff _ _ _).2 h12
         simp only [c_in_in_q12, om_0, om_10, om_20, om_22, om_30, om_32, om_40, om_41, om_42, om_50, om_51, om_52, om_60, om_62, om_f, tl] at p12
         cases h13 : Q.val (om n0 n1 s2 s3 len4 cap4 zs4 len5 cap5 zs5 s6) c_in_in_q13
         ·have p13 := (Q.holds'_iff _ _ _).2 h13
          simp only [c_in_in_q13, om_0, om_10, om_20, om_22, om_30, om_32, om_40, om_41, om_42, om_50, om_51, om_52, om_60, om_62, om_f, tl] at p13
          cases h14 : Q.val (om n0 n1 s2 s3 len4 cap4 zs4 len5 cap5 zs5 s6) c_in_in_q14
          ·have p14 := (Q.holds'_iff _ _ _).2 h14
           simp only [c_in_in_q14, om_0, om_10, om_20, om_22, om_30, om_32, om_40, om_41, om_42, om_50, om_51, om_52, om_60, om_62, om_f, tl] at p14
           cases h15 : Q.val (om n0 n1 s2 s3 len4 cap4 zs4 len5 cap5 zs5 s6) c_in_in_q15
           ·have p15 := (Q.holds'_iff _ _ _).2 h15
            simp only [c_in_in_q15, om_0, om_10, om_20, om_22, om_30, om_32, om_40, om_41, om_42, om_50, om_51, om_52, om_60, om_62, om_f, tl] at p15
            cases h16 : Q.val (om n0 n1 s2 s3 len4 cap4 zs4 len5 cap5 zs5 s6) c_in_in_q16
            ·have p16 := (Q.holds'_iff _ _ _).2 h16
             simp only [c_in_in_q16, om_0, om_10, om_20, om_22, om_30, om_32, om_40, om_41, om_42, om_50, om_51, om_52, om_60, om_62, om_f, tl] at p16
             exact calls_of_yesV sound tab_ok specs_ok overs_ok c_in_in_y4 rfl (tellA_ok (by (repeat refine told_cons (by assumption) ?_); exact told_nil)) r2 hargs
            ·have p16 := (Q.holds'_iff _ _ _).2 h16
             simp only [c_in_in_q16, om_0, om_10, om_20, om_22, om_30, om_32, om_40, om_41, om_42, om_50, om_51, om_52, om_60, om_62, om_f, tl] at p16
             exact calls_of_yesV sound tab_ok specs_ok overs_ok c_in_in_y23 rfl (tellA_ok (by (repeat refine told_cons (by assumption) ?_); exact told_nil)) r2 hargs
           ·have p15 := (Q.holds'_iff _ _ _).2 h15
            simp only [c_in_in_q15, om_0, om_10, om_20, om_22, om_30, om_32, om_40, om_41, om_42, om_50, om_51, om_52, om_60, om_62, om_f, tl] at p15
            exact calls_of_yesV sound tab_ok specs_ok overs_ok c_in_in_y22 rfl (tellA_ok (by (repeat refine told_cons (by assumption) ?_); exact told_nil)) r2 hargs
          ·have p14 := (Q.holds'_iff _ _ _).2 h14
           simp only [c_in_in_q14, om_0, om_10, om_20, om_22, om_30, om_32, om_40, om_41, om_42, om_50, om_51, om_52, om_60, om_62, om_f, tl] at p14
           exact calls_of_yesV sound tab_ok specs_ok overs_ok c_in_in_y21 rfl (tellA_ok (by (repeat refine told_cons (by assumption) ?_); exact told_nil)) r2 hargs
         ·have p13 := (Q.holds'_iff _ _ _).2 h13
          simp only [c_in_in_q13, om_0, om_10, om_20, om_22, om_30, om_32, om_40, om_41, om_42, om_50, om_51, om_52, om_60, om_62, om_f, tl] at p13
          exact calls_of_yesV sound tab_ok specs_ok overs_ok c_in_in_y20 rfl (tellA_ok (by (repeat refine told_cons (by assumption) ?_); exact told_nil)) r2 hargs
        ·have p12 := (Q.holds'_iff _ _ _).2 h12
         simp only [c_in_in_q12, om_0, om_10, om_20, om_22, om_30, om_32, om_40, om_41, om_42, om_50, om_51, om_52, om_60, om_62, om_f, tl] at p12
         exact calls_of_yesV sound tab_ok specs_ok overs_ok c_in_in_y19 rfl (tellA_ok (by (repeat refine told_cons (by assumption) ?_); exact told_nil)) r2 hargs
       ·have p11 := (Q.holds'_iff _ _ _).2 h11
        simp only [c_in_in_q11, om_0, om_10, om_20, om_22, om_30, om_32, om_40, om_41, om_42, om_50, om_51, om_52, om_60, om_62, om_f, tl] at p11
        exact calls_of_yesV sound tab_ok specs_ok overs_ok c_in_in_y18 rfl (tellA_ok (by (repeat refine told_cons (by assumption) ?_); exact told_nil)) r2 hargs
      ·have p10 := (Q.holds'_iff _ _ _).2 h10
       simp only [c_in_in_q10, om_0, om_10, om_20, om_22, om_30, om_32, om_40, om_41, om_42, om_50, om_51, om_52, om_60, om_62, om_f, tl] at p10
       exact calls_of_yesV sound tab_ok specs_ok overs_ok c_in_in_y17 rfl (tellA_ok (by (repeat refine told_cons (by assumption) ?_); exact told_nil)) r2 hargs
 ·have p2 := (Q.holds'_iff _ _ _).2 h2
  simp only [c_in_in_q2, om_0, om_10, om_20, om_22, om_30, om_32, om_40, om_41, om_42, om_50, om_51, om_52, om_60, om_62, om_f, tl] at p2
  have h3 : Q.val (om n0 n1 s2 s3 len4 cap4 zs4 len5 cap5 zs5 s6) c_in_in_q3 = true := (Q.holds'_iff _ _ _).1 (by
   simp only [c_in_in_q3, om_0, om_10, om_20, om_22, om_30, om_32, om_40, om_41, om_42, om_50, om_51, om_52, om_60, om_62, om_f, tl]
   all_goals (first | omega | trivial))
  have p3 := (Q.holds'_iff _ _ _).2 h3
  try (
   simp only [c_in_in_q3, om_0, om_10, om_20, om_22, om_30, om_32, om_40, om_41, om_42, om_50, om_51, om_52, om_60, om_62, om_f, tl] at p3)
  cases h4 : Q.val (om n0 n1 s2 s3 len4 cap4 zs4 len5 cap5 zs5 s6) c_in_in_q4
  ·have p4 := (Q.holds'_iff _ _ _).2 h4
   simp only [c_in_in_q4, om_0, om_10, om_20, om_22, om_30, om_32, om_40, om_41, om_42, om_50, om_51, om_52, om_60, om_62, om_f, tl] at p4
   have h5 : Q.val (om n0 n1 s2 s3 len4 cap4 zs4 len5 cap5 zs5 s6) c_in_in_q5 = true := (Q.holds'_iff _ _ _).1 (by
    simp only [c_in_in_q5, om_0, om_10, om_20, om_22, om_30, om_32, om_40, om_41, om_42, om_50, om_51, om_52, om_60, om_62, om_f, tl]
    all_goals (first | omega | trivial))
   have p5 := (Q.holds'_iff _ _ _).2 h5
   try (
    simp only [c_in_in_q5, om_0, om_10, om_20, om_22, om_30, om_32, om_40, om_41, om_42, om_50, om_51, om_52, om_60, om_62, om_f, tl] at p5)
   cases h6 : Q.val (om n0 n1 s2 s3 len4 cap4 zs4 len5 cap5 zs5 s6) c_in_in_q6
   ·have p6 := (Q.holds'_iff _ _ _).2 h6
    simp only [c_in_in_q6, om_0, om_10, om_20, om_22, om_30, om_32, om_40, om_41, om_42, om_50, om_51, om_52, om_60, om_62, om_f, tl] at p6
    exact calls_of_yesV sound tab_ok specs_ok overs_ok c_in_in_y24 rfl (tellA_ok (by (repeat refine told_cons (by assumption) ?_); exact told_nil)) r2 hargs
   ·have p6 := (Q.holds'_iff _ _ _).2 h6
    simp only [c_in_in_q6, om_0, om_10, om_20, om_22, om_30, om_32, om_40, om_41, om_42, om_50, om_51, om_52, om_60, om_62, om_f, tl] at p6
    cases h7 : Q.val (om n0 n1 s2 s3 len4 cap4 zs4 len5 cap5 zs5 s6) c_in_in_q19
    ·have p7 := (Q.holds'_iff _ _ _).2 h7
     simp only [c_in_in_q19, om_0, om_10, om_20, om_22, om_30, om_32, om_40, om_41, om_42, om_50, om_51, om_52, om_60, om_62, om_f, tl] at p7
     exact calls_of_yesV sound tab_ok specs_ok overs_ok c_in_in_y25 rfl (tellA_ok (by (repeat refine told_cons (by assumption) ?_); exact told_nil)) r2 hargs
    ·have p7 := (Q.holds'_iff _ _ _).2 h7
     simp only [c_in_in_q19, om_0, om_10, om_20, om_22, om_30, om_32, om_40, om_41, om_42, om_50, om_51, om_52, om_60, om_62, om_f, tl] at p7
     have h8 : Q.val (om n0 n1 s2 s3 len4 cap4 zs4 len5 cap5 zs5 s6) c_in_in_q8 = true := (Q.holds'_iff _ _ _).1 (by
      simp only [c_in_in_q8, om_0, om_10, om_20, om_22, om_30, om_32, om_40, om_41, om_42, om_50, om_51, om_52, om_60, om_62, om_f, tl]
      all_goals (first | omega | trivial))
     have p8 := (Q.holds'_iff _ _ _).2 h8
     try (
      simp only [c_in_in_q8, om_0, om_10, om_20, om_22, om_30, om_32, om_40, om_41, om_42, om_50, om_51, om_52, om_60, om_62, om_f, tl] at p8)
     cases h9 : Q.val (om n0 n1 s2 s3 len4 cap4 zs4 len5 cap5 zs5 s6) c_in_in_q9
     ·have p9 := (Q.holds'_iff _ _ _).2 h9
      simp only [c_in_in_q9, om_0, om_10, om_20, om_22, om_30, om_32, om_40, om_41, om_42, om_50, om_51, om_52, om_60, om_62, om_f, tl] at p9
      exact calls_of_yesV sound tab_ok specs_ok overs_ok c_in_in_y26 rfl (tellA_ok (by (repeat refine told_cons (by assumption) ?_); exact told_nil)) r2 hargs
     ·have p9 := (Q.holds'_iff _ _ _).2 h9
      simp only [c_in_in_q9, om_0, om_10, om_20, om_22, om_30, om_32, om_40, om_41, om_42, om_50, om_51, om_52, om_60, om_62, om_f, tl] at p9
      cases h10 : Q.val (om n0 n1 s2 s3 len4 cap4 zs4 len5 cap5 zs5 s6) c_in_in_q10
      ·have p10 := (Q.holds'_iff _ _ _).2 h10
       simp only [c_in_in_q10, om_0, om_10, om_20, om_22, om_30, om_32, om_40, om_41, om_42, om_50, om_51, om_52, om_60, om_62, om_f, tl] at p10
       cases h11 : Q.val (om n0 n1 s2 s3 len4 cap4 zs4 len5 cap5 zs5 s6) c_in_in_q11
       ·have p11 := (Q.holds'_iff _ _ _).2 h11
        simp only [c_in_in_q11, om_0, om_10, om_20, om_22, om_30, om_32, om_40, om_41, om_42, om_50, om_51, om_52, om_60, om_62, om_f, tl] at p11
        cases h12 : Q.val (om n0 n1 s2 s3 len4 cap4 zs4 len5 cap5 zs5 s6) c_in_in_q12
        ·have p12 := (Q.holds'_iff _ _ _).2 h12
         simp only [c_in_in_q12, om_0, om_10, om_20, om_22, om_30, om_32, om_40, om_41, om_42, om_50, om_51, om_52, om_60, om_62, om_f, tl] at p12
         cases h13 : Q.val (om n0 n1 s2 s3 len4 cap4 zs4 len5 cap5 zs5 s6) c_in_in_q13
         ·have p13 := (Q.holds'_iff _ _ _).2 h13
          simp only [c_in_in_q13, om_0, om_10, om_20, om_22, om_30, om_32, om_40, om_41, om_42, om_50, om_51, om_52, om_60, om_62, om_f, tl] at p13
          cases h14 : Q.val (om n0 n1 s2 s3 len4 cap4 zs4 len5 cap5 zs5 s6) c_in_in_q14
          ·have p14 := (Q.holds'_iff _ _ _).2 h14
           simp only [c_in_in_q14, om_0, om_10, om_20, om_22, om_30, om_32, om_40, om_41, om_42, om_50, om_51, om_52, om_60, om_62, om_f, tl] at p14
           cases h15 : Q.val (om n0 n1 s2 s3 len4 cap4 zs4 len5 cap5 zs5 s6) c_in_in_q15
           ·have p15 := (Q.holds'_iff _ _ _).2 h15
            simp only [c_in_in_q15, om_0, om_10, om_20, om_22, om_30, om_32, om_40, om_41, om_42, om_50, om_51, om_52, om_60, om_62, om_f, tl] at p15
            cases h16 : Q.val (om n0 n1 s2 s3 len4 cap4 zs4 len5 cap5 zs5 s6) c_in_in_q16
            ·have p16 := (Q.holds'_iff _ _ _).2 h16
             simp only [c_in_in_q16, om_0, om_10, om_20, om_22, om_30, om_32, om_40, om_41, om_42, om_50, om_51, om_52, om_60, om_62, om_f, tl] at p16
             exact calls_of_yesV sound tab_ok specs_ok overs_ok c_in_in_y5 rfl (tellA_ok (by (repeat refine told_cons (by assumption) ?_); exact told_nil)) r2 hargs
            ·have p16 := (Q.holds'_iff _ _ _).2 h16
             simp only [c_in_in_q16, om_0, om_10, om_20, om_22, om_30, om_32, om_40, om_41, om_42, om_50, om_51, om_52, om_60, om_62, om_f, tl] at p16
             exact calls_of_yesV sound tab_ok specs_ok overs_ok c_in_in_y33 rfl (tellA_ok (by (repeat refine told_cons (by assumption) ?_); exact told_nil)) r2 hargs
           ·have p15 := (Q.holds'_iff _ _ _).2 h15
            simp only [c_in_in_q15, om_0, om_10, om_20, om_22, om_30, om_32, om_40, om_41, om_42, om_50, om_51, om_52, om_60, om_62, om_f, tl] at p15
            exact calls_of_yesV sound tab_ok specs_ok overs_ok c_in_in_y32 rfl (tellA_ok (by (repeat refine told_cons (by assumption) ?_); exact told_nil)) r2 hargs
          ·have p14 := (Q.holds'_iff _ _ _).2 h14
           simp only [c_in_in_q14, om_0, om_10, om_20, om_22, om_30, om_32, om_40, om_41, om_42, om_50, om_51, om_52, om_60, om_62, om_f, tl] at p14
           exact calls_of_yesV sound tab_ok specs_ok overs_ok c_in_in_y31 rfl (tellA_ok (by (repeat refine told_cons (by assumption) ?_); exact told_nil)) r2 hargs
         ·have p13 := (Q.holds'_iff _ _ _).2 h13
          simp only [c_in_in_q13, om_0, om_10, om_20, om_22, om_30, om_32, om_40, om_41, om_42, om_50, om_51, om_52, om_60, om_62, om_f, tl] at p13
          exact calls_of_yesV sound tab_ok specs_ok overs_ok c_in_in_y30 rfl (tellA_ok (by (repeat refine told_cons (by assumption) ?_); exact told_nil)) r2 hargs
        ·have p12 := (Q.holds'_iff _ _ _).2 h12
         simp only [c_in_in_q12, om_0, om_10, om_20, om_22, om_30, om_32, om_40, om_41, om_42, om_50, om_51, om_52, om_60, om_62, om_f, tl] at p12
         exact calls_of_yesV sound tab_ok specs_ok overs_ok c_in_in_y29 rfl (tellA_ok (by (repeat refine told_cons (by assumption) ?_); exact told_nil)) r2 hargs
       ·have p11 := (Q.holds'_iff _ _ _).2 h11
        simp only [c_in_in_q11, om_0, om_10, om_20, om_22, om_30, om_32, om_40, om_41, om_42, om_50, om_51, om_52, om_60, om_62, om_f, tl] at p11
        exact calls_of_yesV sound tab_ok specs_ok overs_ok c_in_in_y28 rfl (tellA_ok (by (repeat refine told_cons (by assumption) ?_); exact told_nil)) r2 hargs
      ·have p10 := (Q.holds'_iff _ _ _).2 h10
       simp only [c_in_in_q10, om_0, om_10, om_20, om_22, om_30, om_32, om_40, om_41, om_42, om_50, om_51, om_52, om_60, om_62, om_f, tl] at p10
       exact calls_of_yesV sound tab_ok specs_ok overs_ok c_in_in_y27 rfl (tellA_ok (by (repeat refine told_cons (by assumption) ?_); exact told_nil)) r2 hargs
  ·have p4 := (Q.holds'_iff _ _ _).2 h4
   simp only [c_in_in_q4, om_0, om_10, om_20, om_22, om_30, om_32, om_40, om_41, om_42, om_50, om_51, om_52, om_60, om_62, om_f, tl] at p4
   have h5 : Q.val (om n0 n1 s2 s3 len4 cap4 zs4 len5 cap5 zs5 s6) c_in_in_q5 = true := (Q.holds'_iff _ _ _).1 (by
    simp only [c_in_in_q5, om_0, om_10, om_20, om_22, om_30, om_32, om_40, om_41, om_42, om_50, om_51, om_52, om_60, om_62, om_f, tl]
    all_goals (first | omega | trivial))
   have p5 := (Q.holds'_iff _ _ _).2 h5
   try (
    simp only [c_in_in_q5, om_0, om_10, om_20, om_22, om_30, om_32, om_40, om_41, om_42, om_50, om_51, om_52, om_60, om_62, om_f, tl] at p5)
   cases h6 : Q.val (om n0 n1 s2 s3 len4 cap4 zs4 len5 cap5 zs5 s6) c_in_in_q6
   ·have p6 := (Q.holds'_iff _ _ _).2 h6
    simp only [c_in_in_q6, om_0, om_10, om_20, om_22, om_30, om_32, om_40, om_41, om_42, om_50, om_51, om_52, om_60, om_62, om_f, tl] at p6
    exact calls_of_yesV sound tab_ok specs_ok overs_ok c_in_in_y2 rfl (tellA_ok (by (repeat refine told_cons (by assumption) ?_); exact told_nil)) r2 hargs
   ·have p6 := (Q.holds'_iff _ _ _).2 h6
    simp only [c_in_in_q6, om_0, om_10, om_20, om_22, om_30, om_32, om_40, om_41, om_42, om_50, om_51, om_52, om_60, om_62, om_f, tl] at p6
    cases h7 : Q.val (om n0 n1 s2 s3 len4 cap4 zs4 len5 cap5 zs5 s6) c_in_in_q7
    ·have p7 := (Q.holds'_iff _ _ _).2 h7
     simp only [c_in_in_q7, om_0, om_10, om_20, om_22, om_30, om_32, om_40, om_41, om_42, om_50, om_51, om_52, om_60, om_62, om_f, tl] at p7
     exact calls_of_yesV sound tab_ok specs_ok overs_ok c_in_in_y1 rfl (tellA_ok (by (repeat refine told_cons (by assumption) ?_); exact told_nil)) r2 hargs
    ·have p7 := (Q.holds'_iff _ _ _).2 h7
     simp only [c_in_in_q7, om_0, om_10, om_20, om_22, om_30, om_32, om_40, om_41, om_42, om_50, om_51, om_52, om_60, om_62, om_f, tl] at p7
     have h8 : Q.val (om n0 n1 s2 s3 len4 cap4 zs4 len5 cap5 zs5 s6) c_in_in_q8 = true := (Q.holds'_iff _ _ _).1 (by
      simp only [c_in_in_q8, om_0, om_10, om_20, om_22, om_30, om_32, om_40, om_41, om_42, om_50, om_51, om_52, om_60, om_62, om_f, tl]
      all_goals (first | omega | trivial))
     have p8 := (Q.holds'_iff _ _ _).2 h8
     try (
      simp only [c_in_in_q8, om_0, om_10, om_20, om_22, om_30, om_32, om_40, om_41, om_42, om_50, om_51, om_52, om_60, om_62, om_f, tl] at p8)
     cases h9 : Q.val (om n0 n1 s2 s3 len4 cap4 zs4 len5 cap5 zs5 s6) c_in_in_q9
     ·have p9 := (Q.holds'_iff _ _ _).2 h9
      simp only [c_in_in_q9, om_0, om_10, om_20, om_22, om_30, om_32, om_40, om_41, om_42, om_50, om_51, om_52, om_60, om_62, om_f, tl] at p9
      exact calls_of_yesV sound tab_ok specs_ok overs_ok c_in_in_y3 rfl (tellA_ok (by (repeat refine told_cons (by assumption) ?_); exact told_nil)) r2 hargs
     ·have p9 := (Q.holds'_iff _ _ _).2 h9
      simp only [c_in_in_q9, om_0, om_10, om_20, om_22, om_30, om_32, om_40, om_41, om_42, om_50, om_51, om_52, om_60, om_62, om_f, tl] at p9
      cases h10 : Q.val (om n0 n1 s2 s3 len4 cap4 zs4 len5 cap5 zs5 s6) c_in_in_q10
      ·have p10 := (Q.holds'_iff _ _ _).2 h10
       simp only [c_in_in_q10, om_0, om_10, om_20, om_22, om_30, om_32, om_40, om_41, om_42, om_50, om_51, om_52, om_60, om_62, om_f, tl] at p10
       cases h11 : Q.val (om n0 n1 s2 s3 len4 cap4 zs4 len5 cap5 zs5 s6) c_in_in_q11
       ·have p11 := (Q.holds'_iff _ _ _).2 h11
        simp only [c_in_in_q11, om_0, om_10, om_20, om_22, om_30, om_32, om_40, om_41, om_42, om_50, om_51, om_52, om_60, om_62, om_f, tl] at p11
        cases h12 : Q.val (om n0 n1 s2 s3 len4 cap4 zs4 len5 cap5 zs5 s6) c_in_in_q12
        ·have p12 := (Q.holds'_iff _ _ _).2 h12
         simp only [c_in_in_q12, om_0, om_10, om_20, om_22, om_30, om_32, om_40, om_41, om_42, om_50, om_51, om_52, om_60, om_62, om_f, tl] at p12
         cases h13 : Q.val (om n0 n1 s2 s3 len4 cap4 zs4 len5 cap5 zs5 s6) c_in_in_q13
         ·have p13 := (Q.holds'_iff _ _ _).2 h13
          simp only [c_in_in_q13, om_0, om_10, om_20, om_22, om_30, om_32, om_40, om_41, om_42, om_50, om_51, om_52, om_60, om_62, om_f, tl] at p13
          cases h14 : Q.val (om n0 n1 s2 s3 len4 cap4 zs4 len5 cap5 zs5 s6) c_in_in_q14
          ·have p14 := (Q.holds'_iff _ _ _).2 h14
           simp only [c_in_in_q14, om_0, om_10, om_20, om_22, om_30, om_32, om_40, om_41, om_42, om_50, om_51, om_52, om_60, om_62, om_f, tl] at p14
           cases h15 : Q.val (om n0 n1 s2 s3 len4 cap4 zs4 len5 cap5 zs5 s6) c_in_in_q15
           ·have p15 := (Q.holds'_iff _ _ _).2 h15
            simp only [c_in_in_q15, om_0, om_10, om_20, om_22, om_30, om_32, om_40, om_41, om_42, om_50, om_51, om_52, om_60, om_62, om_f, tl] at p15
            cases h16 : Q.val (om n0 n1 s2 s3 len4 cap4 zs4 len5 cap5 zs5 s6) c_in_in_q16
            ·have p16 := (Q.holds'_iff _ _ _).2 h16
             simp only [c_in_in_q16, om_0, om_10, om_20, om_22, om_30, om_32, om_40, om_41, om_42, om_50, om_51, om_52, om_60, om_62, om_f, tl] at p16
             exact calls_of_yesV sound tab_ok specs_ok overs_ok c_in_in_y0 rfl (tellA_ok (by (repeat refine told_cons (by assumption) ?_); exact told_nil)) r2 hargs
            ·have p16 := (Q.holds'_iff _ _ _).2 h16
             simp only [c_in_in_q16, om_0, om_10, om_20, om_22, om_30, om_32, om_40, om_41, om_42, om_50, om_51, om_52, om_60, om_62, om_f, tl] at p16
             exact calls_of_yesV sound tab_ok specs_ok overs_ok c_in_in_y12 rfl (tellA_ok (by (repeat refine told_cons (by assumption) ?_); exact told_nil)) r2 hargs
           ·have p15 := (Q.holds'_iff _ _ _).2 h15
            simp only [c_in_in_q15, om_0, om_10, om_20, om_22, om_30, om_32, om_40, om_41, om_42, om_50, om_51, om_52, om_60, om_62, om_f, tl] at p15
            exact calls_of_yesV sound tab_ok specs_ok overs_ok c_in_in_y11 rfl (tellA_ok (by (repeat refine told_cons (by assumption) ?_); exact told_nil)) r2 hargs
          ·have p14 := (Q.holds'_iff _ _ _).2 h14
           simp only [c_in_in_q14, om_0, om_10, om_20, om_22, om_30, om_32, om_40, om_41, om_42, om_50, om_51, om_52, om_60, om_62, om_f, tl] at p14
           exact calls_of_yesV sound tab_ok specs_ok overs_ok c_in_in_y10 rfl (tellA_ok (by (repeat refine told_cons (by assumption) ?_); exact told_nil)) r2 hargs
         ·have p13 := (Q.holds'_iff _ _ _).2 h13
          simp only [c_in_in_q13, om_0, om_10, om_20, om_22, om_30, om_32, om_40, om_41, om_42, om_50, om_51, om_52, om_60, om_62, om_f, tl] at p13
          exact calls_of_yesV sound tab_ok specs_ok overs_ok c_in_in_y9 rfl (tellA_ok (by (repeat refine told_cons (by assumption) ?_); exact told_nil)) r2 hargs
        ·have p12 := (Q.holds'_iff _ _ _).2 h12
         simp only [c_in_in_q12, om_0, om_10, om_20, om_22, om_30, om_32, om_40, om_41, om_42, om_50, om_51, om_52, om_60, om_62, om_f, tl] at p12
         exact calls_of_yesV sound tab_ok specs_ok overs_ok c_in_in_y8 rfl (tellA_ok (by (repeat refine told_cons (by assumption) ?_); exact told_nil)) r2 hargs
       ·have p11 := (Q.holds'_iff _ _ _).2 h11
        simp only [c_in_in_q11, om_0, om_10, om_20, om_22, om_30, om_32, om_40, om_41, om_42, om_50, om_51, om_52, om_60, om_62, om_f, tl] at p11
        exact calls_of_yesV sound tab_ok specs_ok overs_ok c_in_in_y7 rfl (tellA_ok (by (repeat refine told_cons (by assumption) ?_); exact told_nil)) r2 hargs
      ·have p10 := (Q.holds'_iff _ _ _).2 h10
       simp only [c_in_in_q10, om_0, om_10, om_20, om_22, om_30, om_32, om_40, om_41, om_42, om_50, om_51, om_52, om_60, om_62, om_f, tl] at p10
       exact calls_of_yesV sound tab_ok specs_ok overs_ok c_in_in_y6 rfl (tellA_ok (by (repeat refine told_cons (by assumption) ?_); exact told_nil)) r2 hargs

theorem underS23 : Try.prog.underlying 23 = some (.slice 3) := by kernel_rfl
theorem underE3 : Try.prog.underlying 3 = some (.int .i64) := by kernel_rfl
theorem cellsE3 : Try.prog.cellsOf 3 = 1 := by kernel_rfl
theorem underS22 : Try.prog.underlying 22 = some (.slice 5) := by kernel_rfl
theorem underE5 : Try.prog.underlying 5 = some (.int .u8) := by kernel_rfl
theorem cellsE5 : Try.prog.cellsOf 5 = 1 := by kernel_rfl
theorem underI3 : Try.prog.underlying 3 = some (.int .i64) := by kernel_rfl
theorem underStr9 : Try.prog.underlying 9 = some .string := by kernel_rfl
theorem len6 {l : List Value} (h : l.length = 6) : ∃ c0 c1 c2 c3 c4 c5, l = [c0, c1, c2, c3, c4, c5] := by
 match l, h with
 | [c0, c1, c2, c3, c4, c5], _ => exact ⟨_, _, _, _, _, _, rfl⟩

set_option maxRecDepth 100000 in
theorem lifted (os : Os) (started : os.Started) (H : Type) (enc : TypeId × Value → H) :
  ReturnsInHanded {} Try.checked os 3 .any (Rows.diskNoneSpec.pre6 enc Try.prog Try.f3 Rows.diskNoneRow.domain false) (Rows.diskNoneSpec.post enc Try.prog Try.f3 false true false false) := by
 refine returnsInHanded_of_change (C := Try.checked) own started (by kernel_rfl) Try.func3
  (ChangeSpec.witness6 (enc := enc) (C := Try.checked) false ⟨#[], #[.agg #[.int .i64 0, .int .i64 0, .string ByteArray.empty, .string ByteArray.empty, .slice none 0 0, .slice none 0 0], .string ByteArray.empty], []⟩ 8 (by kernel_rfl) (by kernel_rfl) (by kernel_rfl) (by kernel_rfl)) ?_
 intro W base args ds gs before hval0 hW hcnd _
 have hval : ∀ (j : Nat) t v, Try.f3.params[j]? = some t → args[j]? = some v → Value.okWide Try.prog W .any base t v := hval0
 have hW' := hW
 have hlt := hW.lt
 obtain ⟨p, q, hA0, hV, rfl, hfz, hnd⟩ := hW
 have hA : DataW.TrodAll enc Try.prog W 0 (fun _ => true) true Try.f3.params.toList args.toList ds p := hA0
 have hAll := hA
 rw [Try.params3] at hA hval hAll
 obtain ⟨rfl, rfl⟩ := trodVars_none hV
 obtain ⟨pv0, pv1, d0, d1, p0, p1, rfl, rfl, rfl, h0, h1⟩ := trodAll_two hA
 obtain ⟨cs0, rfl, hl0, ht0⟩ := in_struct (L := [(3, 0, 1), (3, 1, 1), (9, 2, 1), (9, 3, 1), (22, 4, 1), (23, 5, 1)]) (n := 6) (by kernel_rfl) (by kernel_rfl) (hval 0 25 _ rfl rfl) h0
 obtain ⟨x0_0, x0_1, x0_2, x0_3, x0_4, x0_5, rfl⟩ := len6 hl0
 have q_ht0 := trod_pieces (L := [(3, 0, 1), (3, 1, 1), (9, 2, 1), (9, 3, 1), (22, 4, 1), (23, 5, 1)]) (by kernel_rfl) ht0
 obtain ⟨n0, rfl, wn0⟩ := leaf_int underI3 (show ∃ m y, DataW.trod enc Try.prog W 0 (fun _ => true) true m 3 [x0_0] = some y from q_ht0 (3, 0, 1) (by simp))
 obtain ⟨n1, rfl, wn1⟩ := leaf_int underI3 (show ∃ m y, DataW.trod enc Try.prog W 0 (fun _ => true) true m 3 [x0_1] = some y from q_ht0 (3, 1, 1) (by simp))
 obtain ⟨s2, rfl, max2⟩ := leaf_str underStr9 (show ∃ m y, DataW.trod enc Try.prog W 0 (fun _ => true) true m 9 [x0_2] = some y from q_ht0 (9, 2, 1) (by simp))
 obtain ⟨s3, rfl, max3⟩ := leaf_str underStr9 (show ∃ m y, DataW.trod enc Try.prog W 0 (fun _ => true) true m 9 [x0_3] = some y from q_ht0 (9, 3, 1) (by simp))
 have s4 := leaf_slice (k := .u8) underS22 underE5 cellsE5 (show ∃ m y, DataW.trod enc Try.prog W 0 (fun _ => true) true m 22 [x0_4] = some y from q_ht0 (22, 4, 1) (by simp))
 have s5 := leaf_slice (k := .i64) underS23 underE3 cellsE3 (show ∃ m y, DataW.trod enc Try.prog W 0 (fun _ => true) true m 23 [x0_5] = some y from q_ht0 (23, 5, 1) (by simp))
 obtain ⟨s6, rfl, rfl, max6⟩ := in_str underStr9 (hval 1 9 _ rfl rfl) h1
 clear hA0 hval0
 have hcall : Calls Try.prog 3 #[.agg #[.int .i64 n0, .int .i64 n1, .string s2, .string s3, x0_4, x0_5], .string s6] W fun e w' => e = .returned (.bool true) ∧ Below W.heap.size W w' := by
  rcases s4 with rfl | ⟨a4, c4, rfl⟩ | ⟨_, _, _, _, _, s4⟩
  ·rcases s5 with rfl | ⟨a5, c5, rfl⟩ | ⟨_, _, _, _, _, s5⟩
   ·exact c_emp_emp_walk wn0 wn1 max2 max3 (fun _ => vr_emptyN) (fun _ => vr_emptyN) max6 (globs0 _ W)
   ·exact c_emp_emp_walk wn0 wn1 max2 max3 (fun _ => vr_emptyN) (fun _ => vr_emptyH a5 c5) max6 (globs0 _ W)
   ·exact c_emp_in_walk wn0 wn1 max2 max3 (fun _ => vr_emptyN) s5 max6 (globs0 _ W)
  ·rcases s5 with rfl | ⟨a5, c5, rfl⟩ | ⟨_, _, _, _, _, s5⟩
   ·exact c_emp_emp_walk wn0 wn1 max2 max3 (fun _ => vr_emptyH a4 c4) (fun _ => vr_emptyN) max6 (globs0 _ W)
   ·exact c_emp_emp_walk wn0 wn1 max2 max3 (fun _ => vr_emptyH a4 c4) (fun _ => vr_emptyH a5 c5) max6 (globs0 _ W)
   ·exact c_emp_in_walk wn0 wn1 max2 max3 (fun _ => vr_emptyH a4 c4) s5 max6 (globs0 _ W)
  ·rcases s5 with rfl | ⟨a5, c5, rfl⟩ | ⟨_, _, _, _, _, s5⟩
   ·exact c_in_emp_walk wn0 wn1 max2 max3 s4 (fun _ => vr_emptyN) max6 (globs0 _ W)
   ·exact c_in_emp_walk wn0 wn1 max2 max3 s4 (fun _ => vr_emptyH a5 c5) max6 (globs0 _ W)
   ·exact c_in_in_walk wn0 wn1 max2 max3 s4 s5 max6 (globs0 _ W)
 refine hcall.mono fun e W' ⟨he, hg⟩ => ?_
 subst he
 exact ⟨_, rfl, _, [], _, [], _, [], hW', trodAll_cons_mk (shut_bool Try.underlying4 _) trodAll_mk0, trodAll_stays laid hg _ _ _ _ hAll (fun x hx => hlt x (by simpa using hx)) (by kernel_rfl), rfl, hg.frame _, fun h => by cases h⟩

theorem over : Rows.diskNoneRow.holds Try.pinned (OpenSpec.ofChange Rows.diskNoneSpec) :=
 OpenClaim.holds_of_wide 3 Try.f3 rfl rfl rfl rfl rfl rfl rfl ⟨rfl, rfl, rfl, rfl, rfl⟩ rfl rfl rfl rfl rfl (by kernel_rfl) Try.func3 (by kernel_rfl)
  (of_decide_eq_true (by kernel_rfl)) (by unfold Func.isWrapper; first | (rw [if_pos (by decide +kernel)]; kernel_rfl) | (rw [if_neg (by decide +kernel)]; exact ⟨rfl, rfl⟩))
  (fun os started H enc _ => lifted os started H enc)

theorem proved : Rows.DiskNoneSaid :=
 over
#print axioms proved
end Go.Proofs.Ytmlocknojpmfpaa.diskNone
