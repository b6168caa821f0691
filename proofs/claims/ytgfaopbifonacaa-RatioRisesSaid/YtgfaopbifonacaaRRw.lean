/-
  What is asked on the ways of the law RatioRises of the layer ratio holds of the code: for all inputs the call returns true, and the arguments read as they did. No condition.
-/
import Derived.Test.YtgfaopbifonacaaCo
import Derived.Test.YtgfaopbifonacaaSycp
import Derived.Test.YtgfaopbifonacaaRa
import Derived.Test.YtgfaopbifonacaaRm
import Derived.Test.YtgfaopbifonacaaRs
import Derived.WalkKit
import Derived.ProofKit
import Derived.OpenShut
set_option linter.unusedSimpArgs false
set_option linter.unusedVariables false
namespace Go.Proofs.Ytgfaopbifonacaa.ratioRises
open Go.ChangeShapes Go.WideShapes Go.ChangeAt Go.RowKit Go.Ev Go.Proofs.Ytgfaopbifonacaa.Co Go.Proofs.Ytgfaopbifonacaa.Ra Go.Proofs.Ytgfaopbifonacaa.Rm Go.Proofs.Ytgfaopbifonacaa.Rs

def om (n0 : Nat) (n1 : Nat) (n2 : Nat) : Om := ⟨fun _ => .bool false, fun i => if i = 0 then .int n0 else if i = 10 then .int n1 else if i = 20 then .int n2 else .int 0, F⟩
theorem om_0 (n0 : Nat) (n1 : Nat) (n2 : Nat) : (om n0 n1 n2).d 0 = .int n0 := rfl
theorem om_10 (n0 : Nat) (n1 : Nat) (n2 : Nat) : (om n0 n1 n2).d 10 = .int n1 := rfl
theorem om_20 (n0 : Nat) (n1 : Nat) (n2 : Nat) : (om n0 n1 n2).d 20 = .int n2 := rfl
theorem om_f (n0 : Nat) (n1 : Nat) (n2 : Nat) : (om n0 n1 n2).f = F := rfl
open Go.Flo

abbrev c_q0 : Q := (.le (.int 0) (.bi (.fop .mul) (.int 4616189618054758400) (.un .nrm (.var 10))))
abbrev c_q1 : Q := (.le (.int 0) (.bi (.fop .add) (.un .nrm (.var 0)) (.int (-1))))
abbrev c_q2 : Q := (.le (.int 0) (.bi (.fop .add) (.un .nrm (.var 0)) (.un .nrm (.bi (.iop .andNot .u64) (.var 20) (.int 9223372036854775808)))))
abbrev c_q3 : Q := (.le (.int 0) (.bi (.fop .add) (.un .nrm (.var 10)) (.un .nrm (.bi (.iop .andNot .u64) (.var 20) (.int 9223372036854775808)))))
abbrev c_q4 : Q := (.le (.int 0) (.bi (.fop .add) (.un .nrm (.var 0)) (.bi (.fop .mul) (.int 4616189618054758400) (.un .nrm (.var 10)))))
abbrev c_q5 : Q := (.eq (.bi .fcm (.bi (.fop .add) (.un .nrm (.var 0)) (.bi (.fop .mul) (.int 4616189618054758400) (.un .nrm (.var 10)))) (.bi (.fop .add) (.un .nrm (.var 0)) (.bi (.fop .mul) (.int 4616189618054758400) (.un .nrm (.var 10))))) (.int 0))
abbrev c_q6 : Q := (.eq (.bi .fcm (.bi (.fop .add) (.un .nrm (.var 0)) (.bi (.fop .mul) (.int 4616189618054758400) (.un .nrm (.var 10)))) (.int 4633641066610819072)) (.int 1))
abbrev c_q7 : Q := (.eq (.bi .fcm (.int (-1)) (.un .nrm (.var 0))) (.int 1))
abbrev c_q8 : Q := (.eq (.bi .fcm (.int (-1)) (.un .nrm (.var 0))) (.int 0))
abbrev c_q9 : Q := (.eq (.bi .fcm (.bi (.fop .add) (.un .nrm (.var 0)) (.un .nrm (.bi (.iop .andNot .u64) (.var 20) (.int 9223372036854775808)))) (.un .nrm (.var 0))) (.int 1))
abbrev c_q10 : Q := (.eq (.bi .fcm (.bi (.fop .add) (.un .nrm (.var 0)) (.un .nrm (.bi (.iop .andNot .u64) (.var 20) (.int 9223372036854775808)))) (.un .nrm (.var 0))) (.int 0))
abbrev c_q11 : Q := (.eq (.bi .fcm (.bi (.fop .add) (.un .nrm (.var 10)) (.un .nrm (.bi (.iop .andNot .u64) (.var 20) (.int 9223372036854775808)))) (.un .nrm (.var 10))) (.int 1))
abbrev c_q12 : Q := (.eq (.bi .fcm (.bi (.fop .add) (.un .nrm (.var 10)) (.un .nrm (.bi (.iop .andNot .u64) (.var 20) (.int 9223372036854775808)))) (.un .nrm (.var 10))) (.int 0))
abbrev c_q13 : Q := (.le (.int 0) (.bi (.fop .add) (.bi (.fop .add) (.un .nrm (.var 0)) (.un .nrm (.bi (.iop .andNot .u64) (.var 20) (.int 9223372036854775808)))) (.bi (.fop .mul) (.int 4616189618054758400) (.un .nrm (.var 10)))))
abbrev c_q14 : Q := (.eq (.bi .fcm (.bi (.fop .add) (.bi (.fop .add) (.un .nrm (.var 0)) (.un .nrm (.bi (.iop .andNot .u64) (.var 20) (.int 9223372036854775808)))) (.bi (.fop .mul) (.int 4616189618054758400) (.un .nrm (.var 10)))) (.bi (.fop .add) (.bi (.fop .add) (.un .nrm (.var 0)) (.un .nrm (.bi (.iop .andNot .u64) (.var 20) (.int 9223372036854775808)))) (.bi (.fop .mul) (.int 4616189618054758400) (.un .nrm (.var 10))))) (.int 0))
abbrev c_q15 : Q := (.eq (.bi .fcm (.bi (.fop .add) (.bi (.fop .add) (.un .nrm (.var 0)) (.un .nrm (.bi (.iop .andNot .u64) (.var 20) (.int 9223372036854775808)))) (.bi (.fop .mul) (.int 4616189618054758400) (.un .nrm (.var 10)))) (.int 4633641066610819072)) (.int 1))
abbrev c_q16 : Q := (.le (.int 0) (.bi (.fop .mul) (.int 4616189618054758400) (.bi (.fop .add) (.un .nrm (.var 10)) (.un .nrm (.bi (.iop .andNot .u64) (.var 20) (.int 9223372036854775808))))))
abbrev c_q17 : Q := (.le (.int 0) (.bi (.fop .add) (.un .nrm (.var 0)) (.bi (.fop .mul) (.int 4616189618054758400) (.bi (.fop .add) (.un .nrm (.var 10)) (.un .nrm (.bi (.iop .andNot .u64) (.var 20) (.int 9223372036854775808)))))))
abbrev c_q18 : Q := (.eq (.bi .fcm (.bi (.fop .add) (.un .nrm (.var 0)) (.bi (.fop .mul) (.int 4616189618054758400) (.bi (.fop .add) (.un .nrm (.var 10)) (.un .nrm (.bi (.iop .andNot .u64) (.var 20) (.int 9223372036854775808)))))) (.bi (.fop .add) (.un .nrm (.var 0)) (.bi (.fop .mul) (.int 4616189618054758400) (.bi (.fop .add) (.un .nrm (.var 10)) (.un .nrm (.bi (.iop .andNot .u64) (.var 20) (.int 9223372036854775808))))))) (.int 0))
abbrev c_q19 : Q := (.eq (.bi .fcm (.bi (.fop .add) (.un .nrm (.var 0)) (.bi (.fop .mul) (.int 4616189618054758400) (.bi (.fop .add) (.un .nrm (.var 10)) (.un .nrm (.bi (.iop .andNot .u64) (.var 20) (.int 9223372036854775808)))))) (.int 4633641066610819072)) (.int 1))
abbrev c_q20 : Q := (.eq (.bi .fcm (.int 4633641066610819072) (.un .nrm (.var 0))) (.int 1))
abbrev c_q21 : Q := (.eq (.bi .fcm (.int 4633641066610819072) (.un .nrm (.var 0))) (.int 0))
abbrev c_q22 : Q := (.eq (.bi .fcm (.bi (.fop .add) (.un .nrm (.var 0)) (.bi (.fop .mul) (.int 4616189618054758400) (.un .nrm (.var 10)))) (.int 4611686018427387904)) (.int (-1)))
abbrev c_q23 : Q := (.eq (.bi .fcm (.bi (.fop .add) (.bi (.fop .add) (.un .nrm (.var 0)) (.un .nrm (.bi (.iop .andNot .u64) (.var 20) (.int 9223372036854775808)))) (.bi (.fop .mul) (.int 4616189618054758400) (.un .nrm (.var 10)))) (.int 4611686018427387904)) (.int (-1)))
abbrev c_q24 : Q := (.eq (.bi .fcm (.bi (.fop .add) (.un .nrm (.var 0)) (.bi (.fop .mul) (.int 4616189618054758400) (.bi (.fop .add) (.un .nrm (.var 10)) (.un .nrm (.bi (.iop .andNot .u64) (.var 20) (.int 9223372036854775808)))))) (.int 4611686018427387904)) (.int (-1)))
abbrev c_q25 : Q := (.eq (.bi .fcm (.int 4611686018427387904) (.un .nrm (.var 0))) (.int 1))
abbrev c_q26 : Q := (.eq (.bi .fcm (.int 4611686018427387904) (.un .nrm (.var 0))) (.int 0))
abbrev c_q27 : Q := (.eq (.bi .fcm (.int (-1)) (.un .nrm (.var 10))) (.int 1))
abbrev c_q28 : Q := (.eq (.bi .fcm (.int (-1)) (.un .nrm (.var 10))) (.int 0))
abbrev c_q29 : Q := (.eq (.un .fok (.un .fceil (.bi (.fop .add) (.un .nrm (.var 0)) (.bi (.fop .mul) (.int 4616189618054758400) (.bi (.fop .add) (.un .nrm (.var 10)) (.un .nrm (.bi (.iop .andNot .u64) (.var 20) (.int 9223372036854775808)))))))) (.int 1))
abbrev c_q30 : Q := (.fit .i64 (.un .fint (.un .fceil (.bi (.fop .add) (.un .nrm (.var 0)) (.bi (.fop .mul) (.int 4616189618054758400) (.bi (.fop .add) (.un .nrm (.var 10)) (.un .nrm (.bi (.iop .andNot .u64) (.var 20) (.int 9223372036854775808)))))))))
abbrev c_q31 : Q := (.le (.int 2) (.un .fint (.un .fceil (.bi (.fop .add) (.un .nrm (.var 0)) (.bi (.fop .mul) (.int 4616189618054758400) (.bi (.fop .add) (.un .nrm (.var 10)) (.un .nrm (.bi (.iop .andNot .u64) (.var 20) (.int 9223372036854775808)))))))))
abbrev c_q32 : Q := (.eq (.un .fok (.un .fceil (.bi (.fop .add) (.bi (.fop .add) (.un .nrm (.var 0)) (.un .nrm (.bi (.iop .andNot .u64) (.var 20) (.int 9223372036854775808)))) (.bi (.fop .mul) (.int 4616189618054758400) (.un .nrm (.var 10)))))) (.int 1))
abbrev c_q33 : Q := (.fit .i64 (.un .fint (.un .fceil (.bi (.fop .add) (.bi (.fop .add) (.un .nrm (.var 0)) (.un .nrm (.bi (.iop .andNot .u64) (.var 20) (.int 9223372036854775808)))) (.bi (.fop .mul) (.int 4616189618054758400) (.un .nrm (.var 10)))))))
abbrev c_q34 : Q := (.le (.int 2) (.un .fint (.un .fceil (.bi (.fop .add) (.bi (.fop .add) (.un .nrm (.var 0)) (.un .nrm (.bi (.iop .andNot .u64) (.var 20) (.int 9223372036854775808)))) (.bi (.fop .mul) (.int 4616189618054758400) (.un .nrm (.var 10)))))))
abbrev c_q35 : Q := (.eq (.un .fok (.un .fceil (.bi (.fop .add) (.un .nrm (.var 0)) (.bi (.fop .mul) (.int 4616189618054758400) (.un .nrm (.var 10)))))) (.int 1))
abbrev c_q36 : Q := (.fit .i64 (.un .fint (.un .fceil (.bi (.fop .add) (.un .nrm (.var 0)) (.bi (.fop .mul) (.int 4616189618054758400) (.un .nrm (.var 10)))))))
abbrev c_q37 : Q := (.le (.int 2) (.un .fint (.un .fceil (.bi (.fop .add) (.un .nrm (.var 0)) (.bi (.fop .mul) (.int 4616189618054758400) (.un .nrm (.var 10)))))))
abbrev c_q38 : Q := (.le (.un .fint (.un .fceil (.bi (.fop .add) (.un .nrm (.var 0)) (.bi (.fop .mul) (.int 4616189618054758400) (.un .nrm (.var 10)))))) (.int 60))
abbrev c_q39 : Q := (.eq (.bi .fcm (.un .fof (.un .fint (.un .fceil (.bi (.fop .add) (.un .nrm (.var 0)) (.bi (.fop .mul) (.int 4616189618054758400) (.un .nrm (.var 10))))))) (.un .nrm (.var 0))) (.int 1))
abbrev c_q40 : Q := (.eq (.bi .fcm (.un .fof (.un .fint (.un .fceil (.bi (.fop .add) (.un .nrm (.var 0)) (.bi (.fop .mul) (.int 4616189618054758400) (.un .nrm (.var 10))))))) (.un .nrm (.var 0))) (.int 0))
abbrev c_q41 : Q := (.le (.un .fint (.un .fceil (.bi (.fop .add) (.un .nrm (.var 0)) (.bi (.fop .mul) (.int 4616189618054758400) (.un .nrm (.var 10)))))) (.un .fint (.un .fceil (.bi (.fop .add) (.bi (.fop .add) (.un .nrm (.var 0)) (.un .nrm (.bi (.iop .andNot .u64) (.var 20) (.int 9223372036854775808)))) (.bi (.fop .mul) (.int 4616189618054758400) (.un .nrm (.var 10)))))))
abbrev c_q42 : Q := (.le (.un .fint (.un .fceil (.bi (.fop .add) (.un .nrm (.var 0)) (.bi (.fop .mul) (.int 4616189618054758400) (.un .nrm (.var 10)))))) (.un .fint (.un .fceil (.bi (.fop .add) (.un .nrm (.var 0)) (.bi (.fop .mul) (.int 4616189618054758400) (.bi (.fop .add) (.un .nrm (.var 10)) (.un .nrm (.bi (.iop .andNot .u64) (.var 20) (.int 9223372036854775808)))))))))
abbrev c_q43 : Q := (.eq (.bi .fcm (.un .nrm (.var 10)) (.int 0)) (.int (-1)))
abbrev c_q44 : Q := (.eq (.un .fint (.un .fceil (.bi (.fop .add) (.un .nrm (.var 0)) (.bi (.fop .mul) (.int 4616189618054758400) (.un .nrm (.var 10)))))) (.int 60))
abbrev c_u0 : List (Q × Bool) := [(c_q0, false), (c_q1, false), (c_q2, false), (c_q3, false)]
set_option maxRecDepth 100000 in
theorem c_y0 : yesOf Try.prog (knownV (tellA c_u0) tab specs overs) 8000 80 5 [.sbits (.var 0), .sbits (.var 10), .sbits (.var 20)] (globSt g0) = true := by kernel_rfl
abbrev c_u1 : List (Q × Bool) := [(c_q0, true), (c_q4, false), (c_q2, false), (c_q3, false)]
set_option maxRecDepth 100000 in
theorem c_y1 : yesOf Try.prog (knownV (tellA c_u1) tab specs overs) 8000 80 5 [.sbits (.var 0), .sbits (.var 10), .sbits (.var 20)] (globSt g0) = true := by kernel_rfl
abbrev c_u2 : List (Q × Bool) := [(c_q0, true), (c_q4, false), (c_q2, false), (c_q3, true)]
set_option maxRecDepth 100000 in
theorem c_y2 : yesOf Try.prog (knownV (tellA c_u2) tab specs overs) 8000 80 5 [.sbits (.var 0), .sbits (.var 10), .sbits (.var 20)] (globSt g0) = true := by kernel_rfl
abbrev c_u3 : List (Q × Bool) := [(c_q0, false), (c_q1, false), (c_q2, true), (c_q3, false)]
set_option maxRecDepth 100000 in
theorem c_y3 : yesOf Try.prog (knownV (tellA c_u3) tab specs overs) 8000 80 5 [.sbits (.var 0), .sbits (.var 10), .sbits (.var 20)] (globSt g0) = true := by kernel_rfl
abbrev c_u4 : List (Q × Bool) := [(c_q0, true), (c_q4, true), (c_q5, true), (c_q6, true), (c_q2, false), (c_q3, false), (c_q7, false), (c_q8, false)]
set_option maxRecDepth 100000 in
theorem c_y4 : yesOf Try.prog (knownV (tellA c_u4) tab specs overs) 8000 80 5 [.sbits (.var 0), .sbits (.var 10), .sbits (.var 20)] (globSt g0) = true := by kernel_rfl
abbrev c_u5 : List (Q × Bool) := [(c_q0, true), (c_q4, true), (c_q5, true), (c_q6, true), (c_q2, true), (c_q3, true), (c_q9, false), (c_q10, true), (c_q11, false), (c_q12, true), (c_q13, true), (c_q14, true), (c_q15, true), (c_q16, true), (c_q17, true), (c_q18, true), (c_q19, true), (c_q20, false), (c_q21, false)]
set_option maxRecDepth 100000 in
theorem c_y5 : yesOf Try.prog (knownV (tellA c_u5) tab specs overs) 8000 80 5 [.sbits (.var 0), .sbits (.var 10), .sbits (.var 20)] (globSt g0) = true := by kernel_rfl
abbrev c_u6 : List (Q × Bool) := [(c_q0, true), (c_q4, false), (c_q2, true), (c_q3, false)]
set_option maxRecDepth 100000 in
theorem c_y6 : yesOf Try.prog (knownV (tellA c_u6) tab specs overs) 8000 80 5 [.sbits (.var 0), .sbits (.var 10), .sbits (.var 20)] (globSt g0) = true := by kernel_rfl
abbrev c_u7 : List (Q × Bool) := [(c_q0, true), (c_q4, false), (c_q2, true), (c_q3, true)]
set_option maxRecDepth 100000 in
theorem c_y7 : yesOf Try.prog (knownV (tellA c_u7) tab specs overs) 8000 80 5 [.sbits (.var 0), .sbits (.var 10), .sbits (.var 20)] (globSt g0) = true := by kernel_rfl
abbrev c_u8 : List (Q × Bool) := [(c_q0, true), (c_q4, true), (c_q5, true), (c_q6, true), (c_q2, true), (c_q3, true), (c_q9, false), (c_q10, true), (c_q11, true), (c_q12, false), (c_q13, true), (c_q14, true), (c_q15, true), (c_q16, true), (c_q17, true), (c_q18, true), (c_q19, true), (c_q20, false), (c_q21, false)]
set_option maxRecDepth 100000 in
theorem c_y8 : yesOf Try.prog (knownV (tellA c_u8) tab specs overs) 8000 80 5 [.sbits (.var 0), .sbits (.var 10), .sbits (.var 20)] (globSt g0) = true := by kernel_rfl
abbrev c_u9 : List (Q × Bool) := [(c_q0, true), (c_q4, true), (c_q5, true), (c_q6, false), (c_q22, true), (c_q2, false), (c_q3, false), (c_q7, false), (c_q8, false)]
set_option maxRecDepth 100000 in
theorem c_y9 : yesOf Try.prog (knownV (tellA c_u9) tab specs overs) 8000 80 5 [.sbits (.var 0), .sbits (.var 10), .sbits (.var 20)] (globSt g0) = true := by kernel_rfl
abbrev c_u10 : List (Q × Bool) := [(c_q0, true), (c_q4, true), (c_q5, true), (c_q6, false), (c_q22, true), (c_q2, true), (c_q3, true), (c_q9, false), (c_q10, true), (c_q11, false), (c_q12, true), (c_q13, true), (c_q14, true), (c_q15, false), (c_q23, true), (c_q16, true), (c_q17, true), (c_q18, true), (c_q19, false), (c_q24, true), (c_q25, true), (c_q26, false)]
set_option maxRecDepth 100000 in
theorem c_y10 : yesOf Try.prog (knownV (tellA c_u10) tab specs overs) 8000 80 5 [.sbits (.var 0), .sbits (.var 10), .sbits (.var 20)] (globSt g0) = true := by kernel_rfl
abbrev c_u11 : List (Q × Bool) := [(c_q0, true), (c_q4, true), (c_q5, true), (c_q6, false), (c_q22, true), (c_q2, false), (c_q3, true), (c_q7, false), (c_q8, false)]
set_option maxRecDepth 100000 in
theorem c_y11 : yesOf Try.prog (knownV (tellA c_u11) tab specs overs) 8000 80 5 [.sbits (.var 0), .sbits (.var 10), .sbits (.var 20)] (globSt g0) = true := by kernel_rfl
abbrev c_u12 : List (Q × Bool) := [(c_q0, true), (c_q4, true), (c_q5, true), (c_q6, false), (c_q22, true), (c_q2, true), (c_q3, true), (c_q9, false), (c_q10, true), (c_q11, true), (c_q12, false), (c_q13, true), (c_q14, true), (c_q15, false), (c_q23, true), (c_q16, true), (c_q17, true), (c_q18, true), (c_q19, false), (c_q24, true), (c_q25, true), (c_q26, false)]
set_option maxRecDepth 100000 in
theorem c_y12 : yesOf Try.prog (knownV (tellA c_u12) tab specs overs) 8000 80 5 [.sbits (.var 0), .sbits (.var 10), .sbits (.var 20)] (globSt g0) = true := by kernel_rfl
abbrev c_u13 : List (Q × Bool) := [(c_q0, true), (c_q4, true), (c_q5, true), (c_q6, false), (c_q22, true), (c_q2, true), (c_q3, true), (c_q9, false), (c_q10, true), (c_q11, true), (c_q12, false), (c_q13, true), (c_q14, true), (c_q15, false), (c_q23, true), (c_q16, true), (c_q17, false), (c_q25, true), (c_q26, false)]
set_option maxRecDepth 100000 in
theorem c_y13 : yesOf Try.prog (knownV (tellA c_u13) tab specs overs) 8000 80 5 [.sbits (.var 0), .sbits (.var 10), .sbits (.var 20)] (globSt g0) = true := by kernel_rfl
abbrev c_u14 : List (Q × Bool) := [(c_q0, true), (c_q4, true), (c_q5, true), (c_q6, true), (c_q2, true), (c_q3, true), (c_q9, true), (c_q10, false), (c_q11, false), (c_q12, true), (c_q13, true), (c_q14, true), (c_q15, true), (c_q16, true), (c_q17, true), (c_q18, true), (c_q19, true), (c_q20, true), (c_q21, false)]
set_option maxRecDepth 100000 in
theorem c_y14 : yesOf Try.prog (knownV (tellA c_u14) tab specs overs) 8000 80 5 [.sbits (.var 0), .sbits (.var 10), .sbits (.var 20)] (globSt g0) = true := by kernel_rfl
abbrev c_u15 : List (Q × Bool) := [(c_q0, true), (c_q4, true), (c_q5, true), (c_q6, true), (c_q2, true), (c_q3, true), (c_q9, false), (c_q10, true), (c_q11, false), (c_q12, true), (c_q13, true), (c_q14, true), (c_q15, true), (c_q16, true), (c_q17, true), (c_q18, true), (c_q19, true), (c_q20, true), (c_q21, false)]
set_option maxRecDepth 100000 in
theorem c_y15 : yesOf Try.prog (knownV (tellA c_u15) tab specs overs) 8000 80 5 [.sbits (.var 0), .sbits (.var 10), .sbits (.var 20)] (globSt g0) = true := by kernel_rfl
abbrev c_u16 : List (Q × Bool) := [(c_q0, true), (c_q4, true), (c_q5, true), (c_q6, false), (c_q22, true), (c_q2, true), (c_q3, false), (c_q9, true), (c_q10, false), (c_q27, false), (c_q28, false)]
set_option maxRecDepth 100000 in
theorem c_y16 : yesOf Try.prog (knownV (tellA c_u16) tab specs overs) 8000 80 5 [.sbits (.var 0), .sbits (.var 10), .sbits (.var 20)] (globSt g0) = true := by kernel_rfl
abbrev c_u17 : List (Q × Bool) := [(c_q0, true), (c_q4, true), (c_q5, true), (c_q6, false), (c_q22, true), (c_q2, true), (c_q3, true), (c_q9, true), (c_q10, false), (c_q11, false), (c_q12, true), (c_q13, true), (c_q14, true), (c_q15, false), (c_q23, true), (c_q16, true), (c_q17, true), (c_q18, true), (c_q19, false), (c_q24, true), (c_q25, true), (c_q26, false)]
set_option maxRecDepth 100000 in
theorem c_y17 : yesOf Try.prog (knownV (tellA c_u17) tab specs overs) 8000 80 5 [.sbits (.var 0), .sbits (.var 10), .sbits (.var 20)] (globSt g0) = true := by kernel_rfl
abbrev c_u18 : List (Q × Bool) := [(c_q0, true), (c_q4, true), (c_q5, true), (c_q6, false), (c_q22, true), (c_q2, true), (c_q3, true), (c_q9, true), (c_q10, false), (c_q11, true), (c_q12, false), (c_q13, true), (c_q14, true), (c_q15, true), (c_q16, true), (c_q17, true), (c_q18, true), (c_q19, true), (c_q25, true), (c_q26, false)]
set_option maxRecDepth 100000 in
theorem c_y18 : yesOf Try.prog (knownV (tellA c_u18) tab specs overs) 8000 80 5 [.sbits (.var 0), .sbits (.var 10), .sbits (.var 20)] (globSt g0) = true := by kernel_rfl
abbrev c_u19 : List (Q × Bool) := [(c_q0, true), (c_q4, true), (c_q5, true), (c_q6, false), (c_q22, true), (c_q2, true), (c_q3, true), (c_q9, true), (c_q10, false), (c_q11, true), (c_q12, false), (c_q13, true), (c_q14, true), (c_q15, false), (c_q23, true), (c_q16, true), (c_q17, true), (c_q18, true), (c_q19, false), (c_q24, true), (c_q25, true), (c_q26, false)]
set_option maxRecDepth 100000 in
theorem c_y19 : yesOf Try.prog (knownV (tellA c_u19) tab specs overs) 8000 80 5 [.sbits (.var 0), .sbits (.var 10), .sbits (.var 20)] (globSt g0) = true := by kernel_rfl
abbrev c_u20 : List (Q × Bool) := [(c_q0, true), (c_q4, true), (c_q5, true), (c_q6, false), (c_q22, true), (c_q2, true), (c_q3, true), (c_q9, true), (c_q10, false), (c_q11, true), (c_q12, false), (c_q13, true), (c_q14, true), (c_q15, false), (c_q23, true), (c_q16, true), (c_q17, true), (c_q18, true), (c_q19, false), (c_q24, false), (c_q29, true), (c_q30, true), (c_q31, true), (c_q25, true), (c_q26, false)]
set_option maxRecDepth 100000 in
theorem c_y20 : yesOf Try.prog (knownV (tellA c_u20) tab specs overs) 8000 80 5 [.sbits (.var 0), .sbits (.var 10), .sbits (.var 20)] (globSt g0) = true := by kernel_rfl
abbrev c_u21 : List (Q × Bool) := [(c_q0, true), (c_q4, true), (c_q5, true), (c_q6, false), (c_q22, true), (c_q2, true), (c_q3, true), (c_q9, true), (c_q10, false), (c_q11, true), (c_q12, false), (c_q13, true), (c_q14, true), (c_q15, false), (c_q23, false), (c_q32, true), (c_q33, true), (c_q34, true), (c_q16, true), (c_q17, true), (c_q18, true), (c_q19, false), (c_q24, false), (c_q29, true), (c_q30, true), (c_q31, true), (c_q25, true), (c_q26, false)]
set_option maxRecDepth 100000 in
theorem c_y21 : yesOf Try.prog (knownV (tellA c_u21) tab specs overs) 8000 80 5 [.sbits (.var 0), .sbits (.var 10), .sbits (.var 20)] (globSt g0) = true := by kernel_rfl
abbrev c_u22 : List (Q × Bool) := [(c_q0, true), (c_q4, true), (c_q5, true), (c_q6, false), (c_q22, true), (c_q2, true), (c_q3, true), (c_q9, true), (c_q10, false), (c_q11, true), (c_q12, false), (c_q13, true), (c_q14, true), (c_q15, false), (c_q23, false), (c_q32, true), (c_q33, true), (c_q34, true), (c_q16, true), (c_q17, true), (c_q18, true), (c_q19, true), (c_q25, true), (c_q26, false)]
set_option maxRecDepth 100000 in
theorem c_y22 : yesOf Try.prog (knownV (tellA c_u22) tab specs overs) 8000 80 5 [.sbits (.var 0), .sbits (.var 10), .sbits (.var 20)] (globSt g0) = true := by kernel_rfl
abbrev c_u23 : List (Q × Bool) := [(c_q0, true), (c_q4, true), (c_q5, true), (c_q6, false), (c_q22, false), (c_q35, true), (c_q36, true), (c_q37, true), (c_q38, true), (c_q2, false), (c_q3, false), (c_q7, false), (c_q8, false)]
set_option maxRecDepth 100000 in
theorem c_y23 : yesOf Try.prog (knownV (tellA c_u23) tab specs overs) 8000 80 5 [.sbits (.var 0), .sbits (.var 10), .sbits (.var 20)] (globSt g0) = true := by kernel_rfl
abbrev c_u24 : List (Q × Bool) := [(c_q0, true), (c_q4, true), (c_q5, true), (c_q6, false), (c_q22, false), (c_q35, true), (c_q36, true), (c_q37, true), (c_q38, true), (c_q2, true), (c_q3, true), (c_q9, true), (c_q10, false), (c_q11, true), (c_q12, false), (c_q13, true), (c_q14, true), (c_q15, true), (c_q16, true), (c_q17, true), (c_q18, true), (c_q19, true), (c_q39, true), (c_q40, false)]
set_option maxRecDepth 100000 in
theorem c_y24 : yesOf Try.prog (knownV (tellA c_u24) tab specs overs) 8000 80 5 [.sbits (.var 0), .sbits (.var 10), .sbits (.var 20)] (globSt g0) = true := by kernel_rfl
abbrev c_u25 : List (Q × Bool) := [(c_q0, true), (c_q4, true), (c_q5, true), (c_q6, false), (c_q22, false), (c_q35, true), (c_q36, true), (c_q37, true), (c_q38, true), (c_q2, true), (c_q3, true), (c_q9, false), (c_q10, true), (c_q11, false), (c_q12, true), (c_q13, true), (c_q14, true), (c_q15, false), (c_q23, false), (c_q32, true), (c_q33, true), (c_q41, true), (c_q16, true), (c_q17, true), (c_q18, true), (c_q19, false), (c_q24, false), (c_q29, true), (c_q30, true), (c_q42, true), (c_q39, true), (c_q40, false)]
set_option maxRecDepth 100000 in
theorem c_y25 : yesOf Try.prog (knownV (tellA c_u25) tab specs overs) 8000 80 5 [.sbits (.var 0), .sbits (.var 10), .sbits (.var 20)] (globSt g0) = true := by kernel_rfl
abbrev c_u26 : List (Q × Bool) := [(c_q0, true), (c_q4, true), (c_q5, true), (c_q6, false), (c_q22, false), (c_q35, true), (c_q36, true), (c_q37, true), (c_q38, true), (c_q2, true), (c_q3, true), (c_q9, true), (c_q10, false), (c_q11, true), (c_q12, false), (c_q13, true), (c_q14, true), (c_q15, false), (c_q23, false), (c_q32, true), (c_q33, true), (c_q41, true), (c_q16, true), (c_q17, true), (c_q18, true), (c_q19, false), (c_q24, false), (c_q29, true), (c_q30, true), (c_q42, true), (c_q39, true), (c_q40, false)]
set_option maxRecDepth 100000 in
theorem c_y26 : yesOf Try.prog (knownV (tellA c_u26) tab specs overs) 8000 80 5 [.sbits (.var 0), .sbits (.var 10), .sbits (.var 20)] (globSt g0) = true := by kernel_rfl
abbrev c_u27 : List (Q × Bool) := [(c_q0, true), (c_q4, true), (c_q5, true), (c_q6, false), (c_q22, false), (c_q35, true), (c_q36, true), (c_q37, true), (c_q38, true), (c_q2, true), (c_q3, true), (c_q9, true), (c_q10, false), (c_q11, true), (c_q12, false), (c_q13, true), (c_q14, true), (c_q15, false), (c_q23, false), (c_q32, true), (c_q33, true), (c_q41, true), (c_q16, true), (c_q17, true), (c_q18, true), (c_q19, true), (c_q39, true), (c_q40, false)]
set_option maxRecDepth 100000 in
theorem c_y27 : yesOf Try.prog (knownV (tellA c_u27) tab specs overs) 8000 80 5 [.sbits (.var 0), .sbits (.var 10), .sbits (.var 20)] (globSt g0) = true := by kernel_rfl
abbrev c_u28 : List (Q × Bool) := [(c_q0, true), (c_q4, true), (c_q5, true), (c_q6, false), (c_q22, false), (c_q35, true), (c_q36, true), (c_q37, true), (c_q38, true), (c_q2, true), (c_q3, true), (c_q9, true), (c_q10, false), (c_q11, false), (c_q12, true), (c_q13, true), (c_q14, true), (c_q15, false), (c_q23, false), (c_q32, true), (c_q33, true), (c_q41, true), (c_q16, true), (c_q17, true), (c_q18, true), (c_q19, false), (c_q24, false), (c_q29, true), (c_q30, true), (c_q42, true), (c_q39, true), (c_q40, false)]
set_option maxRecDepth 100000 in
theorem c_y28 : yesOf Try.prog (knownV (tellA c_u28) tab specs overs) 8000 80 5 [.sbits (.var 0), .sbits (.var 10), .sbits (.var 20)] (globSt g0) = true := by kernel_rfl
abbrev c_u29 : List (Q × Bool) := [(c_q0, true), (c_q4, true), (c_q5, true), (c_q6, true), (c_q2, true), (c_q3, true), (c_q9, true), (c_q10, false), (c_q11, true), (c_q12, false), (c_q13, true), (c_q14, true), (c_q15, true), (c_q16, true), (c_q17, true), (c_q18, true), (c_q19, true), (c_q20, true), (c_q21, false)]
set_option maxRecDepth 100000 in
theorem c_y29 : yesOf Try.prog (knownV (tellA c_u29) tab specs overs) 8000 80 5 [.sbits (.var 0), .sbits (.var 10), .sbits (.var 20)] (globSt g0) = true := by kernel_rfl
abbrev c_u30 : List (Q × Bool) := [(c_q0, true), (c_q4, true), (c_q5, true), (c_q6, false), (c_q22, true), (c_q2, true), (c_q3, true), (c_q9, true), (c_q10, false), (c_q11, true), (c_q12, false), (c_q13, true), (c_q14, true), (c_q15, false), (c_q23, true), (c_q16, true), (c_q17, true), (c_q18, true), (c_q19, true), (c_q25, true), (c_q26, false)]
set_option maxRecDepth 100000 in
theorem c_y30 : yesOf Try.prog (knownV (tellA c_u30) tab specs overs) 8000 80 5 [.sbits (.var 0), .sbits (.var 10), .sbits (.var 20)] (globSt g0) = true := by kernel_rfl
abbrev c_u31 : List (Q × Bool) := [(c_q0, true), (c_q4, true), (c_q5, true), (c_q6, false), (c_q22, true), (c_q2, true), (c_q3, true), (c_q9, true), (c_q10, false), (c_q11, true), (c_q12, false), (c_q13, false), (c_q16, true), (c_q17, true), (c_q18, true), (c_q19, true), (c_q25, true), (c_q26, false)]
set_option maxRecDepth 100000 in
theorem c_y31 : yesOf Try.prog (knownV (tellA c_u31) tab specs overs) 8000 80 5 [.sbits (.var 0), .sbits (.var 10), .sbits (.var 20)] (globSt g0) = true := by kernel_rfl
abbrev c_u32 : List (Q × Bool) := [(c_q0, true), (c_q4, true), (c_q5, true), (c_q6, false), (c_q22, false), (c_q35, true), (c_q36, true), (c_q37, true), (c_q38, true), (c_q2, true), (c_q3, true), (c_q9, false), (c_q10, true), (c_q11, true), (c_q12, false), (c_q13, true), (c_q14, true), (c_q15, false), (c_q23, false), (c_q32, true), (c_q33, true), (c_q41, true), (c_q16, true), (c_q17, true), (c_q18, true), (c_q19, false), (c_q24, false), (c_q29, true), (c_q30, true), (c_q42, true), (c_q39, true), (c_q40, false)]
set_option maxRecDepth 100000 in
theorem c_y32 : yesOf Try.prog (knownV (tellA c_u32) tab specs overs) 8000 80 5 [.sbits (.var 0), .sbits (.var 10), .sbits (.var 20)] (globSt g0) = true := by kernel_rfl
abbrev c_u33 : List (Q × Bool) := [(c_q0, true), (c_q4, true), (c_q5, true), (c_q6, false), (c_q22, true), (c_q2, true), (c_q3, true), (c_q9, false), (c_q10, true), (c_q11, false), (c_q12, true), (c_q13, true), (c_q14, true), (c_q15, false), (c_q23, true), (c_q16, true), (c_q17, true), (c_q18, true), (c_q19, false), (c_q24, true), (c_q25, false), (c_q26, true)]
set_option maxRecDepth 100000 in
theorem c_y33 : yesOf Try.prog (knownV (tellA c_u33) tab specs overs) 8000 80 5 [.sbits (.var 0), .sbits (.var 10), .sbits (.var 20)] (globSt g0) = true := by kernel_rfl
abbrev c_u34 : List (Q × Bool) := [(c_q0, true), (c_q4, true), (c_q5, true), (c_q6, false), (c_q22, true), (c_q2, true), (c_q3, true), (c_q9, true), (c_q10, false), (c_q11, false), (c_q12, true), (c_q13, true), (c_q14, true), (c_q15, false), (c_q23, true), (c_q16, true), (c_q17, true), (c_q18, true), (c_q19, false), (c_q24, true), (c_q25, false), (c_q26, true)]
set_option maxRecDepth 100000 in
theorem c_y34 : yesOf Try.prog (knownV (tellA c_u34) tab specs overs) 8000 80 5 [.sbits (.var 0), .sbits (.var 10), .sbits (.var 20)] (globSt g0) = true := by kernel_rfl
abbrev c_u35 : List (Q × Bool) := [(c_q0, true), (c_q4, true), (c_q5, true), (c_q6, false), (c_q22, false), (c_q35, true), (c_q36, true), (c_q37, true), (c_q38, true), (c_q2, true), (c_q3, true), (c_q9, true), (c_q10, false), (c_q11, true), (c_q12, false), (c_q13, true), (c_q14, true), (c_q15, true), (c_q16, true), (c_q17, true), (c_q18, true), (c_q19, true), (c_q39, false), (c_q40, true)]
set_option maxRecDepth 100000 in
theorem c_y35 : yesOf Try.prog (knownV (tellA c_u35) tab specs overs) 8000 80 5 [.sbits (.var 0), .sbits (.var 10), .sbits (.var 20)] (globSt g0) = true := by kernel_rfl
abbrev c_u36 : List (Q × Bool) := [(c_q0, true), (c_q4, true), (c_q5, true), (c_q6, false), (c_q22, false), (c_q35, true), (c_q36, true), (c_q37, true), (c_q38, true), (c_q2, true), (c_q3, true), (c_q9, false), (c_q10, true), (c_q11, false), (c_q12, true), (c_q13, true), (c_q14, true), (c_q15, false), (c_q23, false), (c_q32, true), (c_q33, true), (c_q41, true), (c_q16, true), (c_q17, true), (c_q18, true), (c_q19, false), (c_q24, false), (c_q29, true), (c_q30, true), (c_q42, true), (c_q39, false), (c_q40, true)]
set_option maxRecDepth 100000 in
theorem c_y36 : yesOf Try.prog (knownV (tellA c_u36) tab specs overs) 8000 80 5 [.sbits (.var 0), .sbits (.var 10), .sbits (.var 20)] (globSt g0) = true := by kernel_rfl
abbrev c_u37 : List (Q × Bool) := [(c_q0, true), (c_q4, true), (c_q5, true), (c_q6, false), (c_q22, false), (c_q35, true), (c_q36, true), (c_q37, true), (c_q38, true), (c_q2, true), (c_q3, true), (c_q9, true), (c_q10, false), (c_q11, true), (c_q12, false), (c_q13, true), (c_q14, true), (c_q15, false), (c_q23, false), (c_q32, true), (c_q33, true), (c_q41, true), (c_q16, true), (c_q17, true), (c_q18, true), (c_q19, false), (c_q24, false), (c_q29, true), (c_q30, true), (c_q42, true), (c_q39, false), (c_q40, true)]
set_option maxRecDepth 100000 in
theorem c_y37 : yesOf Try.prog (knownV (tellA c_u37) tab specs overs) 8000 80 5 [.sbits (.var 0), .sbits (.var 10), .sbits (.var 20)] (globSt g0) = true := by kernel_rfl
abbrev c_u38 : List (Q × Bool) := [(c_q0, true), (c_q4, true), (c_q5, true), (c_q6, false), (c_q22, false), (c_q35, true), (c_q36, true), (c_q37, true), (c_q38, true), (c_q2, true), (c_q3, true), (c_q9, true), (c_q10, false), (c_q11, true), (c_q12, false), (c_q13, true), (c_q14, true), (c_q15, false), (c_q23, false), (c_q32, true), (c_q33, true), (c_q41, true), (c_q16, true), (c_q17, true), (c_q18, true), (c_q19, true), (c_q39, false), (c_q40, true)]
set_option maxRecDepth 100000 in
theorem c_y38 : yesOf Try.prog (knownV (tellA c_u38) tab specs overs) 8000 80 5 [.sbits (.var 0), .sbits (.var 10), .sbits (.var 20)] (globSt g0) = true := by kernel_rfl
abbrev c_u39 : List (Q × Bool) := [(c_q0, true), (c_q4, true), (c_q5, true), (c_q6, false), (c_q22, false), (c_q35, true), (c_q36, true), (c_q37, true), (c_q38, true), (c_q2, true), (c_q3, true), (c_q9, false), (c_q10, true), (c_q11, true), (c_q12, false), (c_q13, true), (c_q14, true), (c_q15, false), (c_q23, false), (c_q32, true), (c_q33, true), (c_q41, true), (c_q16, true), (c_q17, true), (c_q18, true), (c_q19, false), (c_q24, false), (c_q29, true), (c_q30, true), (c_q42, true), (c_q39, false), (c_q40, true)]
set_option maxRecDepth 100000 in
theorem c_y39 : yesOf Try.prog (knownV (tellA c_u39) tab specs overs) 8000 80 5 [.sbits (.var 0), .sbits (.var 10), .sbits (.var 20)] (globSt g0) = true := by kernel_rfl
abbrev c_u40 : List (Q × Bool) := [(c_q0, true), (c_q4, true), (c_q5, true), (c_q6, false), (c_q22, true), (c_q2, true), (c_q3, true), (c_q9, true), (c_q10, false), (c_q11, true), (c_q12, false), (c_q13, true), (c_q14, true), (c_q15, true), (c_q16, true), (c_q17, true), (c_q18, true), (c_q19, true), (c_q25, false), (c_q26, true)]
set_option maxRecDepth 100000 in
theorem c_y40 : yesOf Try.prog (knownV (tellA c_u40) tab specs overs) 8000 80 5 [.sbits (.var 0), .sbits (.var 10), .sbits (.var 20)] (globSt g0) = true := by kernel_rfl
abbrev c_u41 : List (Q × Bool) := [(c_q0, true), (c_q4, true), (c_q5, true), (c_q6, false), (c_q22, true), (c_q2, true), (c_q3, true), (c_q9, true), (c_q10, false), (c_q11, true), (c_q12, false), (c_q13, true), (c_q14, true), (c_q15, false), (c_q23, true), (c_q16, true), (c_q17, true), (c_q18, true), (c_q19, false), (c_q24, true), (c_q25, false), (c_q26, true)]
set_option maxRecDepth 100000 in
theorem c_y41 : yesOf Try.prog (knownV (tellA c_u41) tab specs overs) 8000 80 5 [.sbits (.var 0), .sbits (.var 10), .sbits (.var 20)] (globSt g0) = true := by kernel_rfl
abbrev c_u42 : List (Q × Bool) := [(c_q0, true), (c_q4, true), (c_q5, true), (c_q6, false), (c_q22, true), (c_q2, true), (c_q3, true), (c_q9, true), (c_q10, false), (c_q11, true), (c_q12, false), (c_q13, true), (c_q14, true), (c_q15, false), (c_q23, true), (c_q16, true), (c_q17, true), (c_q18, true), (c_q19, false), (c_q24, false), (c_q29, true), (c_q30, true), (c_q31, true), (c_q25, false), (c_q26, true)]
set_option maxRecDepth 100000 in
theorem c_y42 : yesOf Try.prog (knownV (tellA c_u42) tab specs overs) 8000 80 5 [.sbits (.var 0), .sbits (.var 10), .sbits (.var 20)] (globSt g0) = true := by kernel_rfl
abbrev c_u43 : List (Q × Bool) := [(c_q0, true), (c_q4, true), (c_q5, true), (c_q6, false), (c_q22, true), (c_q2, true), (c_q3, true), (c_q9, true), (c_q10, false), (c_q11, true), (c_q12, false), (c_q13, true), (c_q14, true), (c_q15, false), (c_q23, false), (c_q32, true), (c_q33, true), (c_q34, true), (c_q16, true), (c_q17, true), (c_q18, true), (c_q19, false), (c_q24, false), (c_q29, true), (c_q30, true), (c_q31, true), (c_q25, false), (c_q26, true)]
set_option maxRecDepth 100000 in
theorem c_y43 : yesOf Try.prog (knownV (tellA c_u43) tab specs overs) 8000 80 5 [.sbits (.var 0), .sbits (.var 10), .sbits (.var 20)] (globSt g0) = true := by kernel_rfl
abbrev c_u44 : List (Q × Bool) := [(c_q0, true), (c_q4, true), (c_q5, true), (c_q6, false), (c_q22, true), (c_q2, true), (c_q3, true), (c_q9, true), (c_q10, false), (c_q11, true), (c_q12, false), (c_q13, true), (c_q14, true), (c_q15, false), (c_q23, false), (c_q32, true), (c_q33, true), (c_q34, true), (c_q16, true), (c_q17, true), (c_q18, true), (c_q19, true), (c_q25, false), (c_q26, true)]
set_option maxRecDepth 100000 in
theorem c_y44 : yesOf Try.prog (knownV (tellA c_u44) tab specs overs) 8000 80 5 [.sbits (.var 0), .sbits (.var 10), .sbits (.var 20)] (globSt g0) = true := by kernel_rfl
abbrev c_u45 : List (Q × Bool) := [(c_q0, true), (c_q4, true), (c_q5, true), (c_q6, false), (c_q22, true), (c_q2, true), (c_q3, true), (c_q9, false), (c_q10, true), (c_q11, true), (c_q12, false), (c_q13, true), (c_q14, true), (c_q15, false), (c_q23, true), (c_q16, true), (c_q17, true), (c_q18, true), (c_q19, false), (c_q24, true), (c_q25, false), (c_q26, true)]
set_option maxRecDepth 100000 in
theorem c_y45 : yesOf Try.prog (knownV (tellA c_u45) tab specs overs) 8000 80 5 [.sbits (.var 0), .sbits (.var 10), .sbits (.var 20)] (globSt g0) = true := by kernel_rfl
abbrev c_u46 : List (Q × Bool) := [(c_q0, true), (c_q4, true), (c_q5, true), (c_q6, false), (c_q22, true), (c_q2, true), (c_q3, true), (c_q9, true), (c_q10, false), (c_q11, true), (c_q12, false), (c_q13, true), (c_q14, true), (c_q15, false), (c_q23, true), (c_q16, true), (c_q17, true), (c_q18, true), (c_q19, true), (c_q25, false), (c_q26, true)]
set_option maxRecDepth 100000 in
theorem c_y46 : yesOf Try.prog (knownV (tellA c_u46) tab specs overs) 8000 80 5 [.sbits (.var 0), .sbits (.var 10), .sbits (.var 20)] (globSt g0) = true := by kernel_rfl
abbrev c_u47 : List (Q × Bool) := [(c_q0, true), (c_q4, true), (c_q5, true), (c_q6, false), (c_q22, true), (c_q2, true), (c_q3, true), (c_q9, true), (c_q10, false), (c_q11, true), (c_q12, false), (c_q13, false), (c_q16, true), (c_q17, true), (c_q18, true), (c_q19, true), (c_q25, false), (c_q26, true)]
set_option maxRecDepth 100000 in
theorem c_y47 : yesOf Try.prog (knownV (tellA c_u47) tab specs overs) 8000 80 5 [.sbits (.var 0), .sbits (.var 10), .sbits (.var 20)] (globSt g0) = true := by kernel_rfl
abbrev c_u48 : List (Q × Bool) := [(c_q0, true), (c_q4, true), (c_q5, true), (c_q6, false), (c_q22, true), (c_q2, true), (c_q3, true), (c_q9, false), (c_q10, true), (c_q11, false), (c_q12, true), (c_q13, true), (c_q14, true), (c_q15, false), (c_q23, true), (c_q16, true), (c_q17, true), (c_q18, true), (c_q19, false), (c_q24, true), (c_q25, false), (c_q26, false), (c_q43, true)]
set_option maxRecDepth 100000 in
theorem c_y48 : yesOf Try.prog (knownV (tellA c_u48) tab specs overs) 8000 80 5 [.sbits (.var 0), .sbits (.var 10), .sbits (.var 20)] (globSt g0) = true := by kernel_rfl
abbrev c_u49 : List (Q × Bool) := [(c_q0, true), (c_q4, true), (c_q5, true), (c_q6, false), (c_q22, true), (c_q2, true), (c_q3, true), (c_q9, true), (c_q10, false), (c_q11, false), (c_q12, true), (c_q13, true), (c_q14, true), (c_q15, false), (c_q23, true), (c_q16, true), (c_q17, true), (c_q18, true), (c_q19, false), (c_q24, true), (c_q25, false), (c_q26, false), (c_q43, true)]
set_option maxRecDepth 100000 in
theorem c_y49 : yesOf Try.prog (knownV (tellA c_u49) tab specs overs) 8000 80 5 [.sbits (.var 0), .sbits (.var 10), .sbits (.var 20)] (globSt g0) = true := by kernel_rfl
abbrev c_u50 : List (Q × Bool) := [(c_q0, true), (c_q4, true), (c_q5, true), (c_q6, false), (c_q22, true), (c_q2, true), (c_q3, true), (c_q9, true), (c_q10, false), (c_q11, true), (c_q12, false), (c_q13, true), (c_q14, true), (c_q15, true), (c_q16, true), (c_q17, true), (c_q18, true), (c_q19, true), (c_q25, false), (c_q26, false), (c_q43, true)]
set_option maxRecDepth 100000 in
theorem c_y50 : yesOf Try.prog (knownV (tellA c_u50) tab specs overs) 8000 80 5 [.sbits (.var 0), .sbits (.var 10), .sbits (.var 20)] (globSt g0) = true := by kernel_rfl
abbrev c_u51 : List (Q × Bool) := [(c_q0, true), (c_q4, true), (c_q5, true), (c_q6, false), (c_q22, true), (c_q2, true), (c_q3, true), (c_q9, true), (c_q10, false), (c_q11, true), (c_q12, false), (c_q13, true), (c_q14, true), (c_q15, false), (c_q23, true), (c_q16, true), (c_q17, true), (c_q18, true), (c_q19, false), (c_q24, false), (c_q29, true), (c_q30, true), (c_q31, true), (c_q25, false), (c_q26, false), (c_q43, true)]
set_option maxRecDepth 100000 in
theorem c_y51 : yesOf Try.prog (knownV (tellA c_u51) tab specs overs) 8000 80 5 [.sbits (.var 0), .sbits (.var 10), .sbits (.var 20)] (globSt g0) = true := by kernel_rfl
abbrev c_u52 : List (Q × Bool) := [(c_q0, true), (c_q4, true), (c_q5, true), (c_q6, false), (c_q22, true), (c_q2, true), (c_q3, true), (c_q9, true), (c_q10, false), (c_q11, true), (c_q12, false), (c_q13, true), (c_q14, true), (c_q15, false), (c_q23, false), (c_q32, true), (c_q33, true), (c_q34, true), (c_q16, true), (c_q17, true), (c_q18, true), (c_q19, false), (c_q24, false), (c_q29, true), (c_q30, true), (c_q31, true), (c_q25, false), (c_q26, false), (c_q43, true)]
set_option maxRecDepth 100000 in
theorem c_y52 : yesOf Try.prog (knownV (tellA c_u52) tab specs overs) 8000 80 5 [.sbits (.var 0), .sbits (.var 10), .sbits (.var 20)] (globSt g0) = true := by kernel_rfl
abbrev c_u53 : List (Q × Bool) := [(c_q0, true), (c_q4, true), (c_q5, true), (c_q6, false), (c_q22, true), (c_q2, true), (c_q3, true), (c_q9, true), (c_q10, false), (c_q11, true), (c_q12, false), (c_q13, true), (c_q14, true), (c_q15, false), (c_q23, false), (c_q32, true), (c_q33, true), (c_q34, true), (c_q16, true), (c_q17, true), (c_q18, true), (c_q19, true), (c_q25, false), (c_q26, false), (c_q43, true)]
set_option maxRecDepth 100000 in
theorem c_y53 : yesOf Try.prog (knownV (tellA c_u53) tab specs overs) 8000 80 5 [.sbits (.var 0), .sbits (.var 10), .sbits (.var 20)] (globSt g0) = true := by kernel_rfl
abbrev c_u54 : List (Q × Bool) := [(c_q0, true), (c_q4, true), (c_q5, true), (c_q6, false), (c_q22, true), (c_q2, true), (c_q3, true), (c_q9, true), (c_q10, false), (c_q11, true), (c_q12, false), (c_q13, true), (c_q14, true), (c_q15, false), (c_q23, true), (c_q16, true), (c_q17, true), (c_q18, true), (c_q19, false), (c_q24, true), (c_q25, false), (c_q26, false), (c_q43, true)]
set_option maxRecDepth 100000 in
theorem c_y54 : yesOf Try.prog (knownV (tellA c_u54) tab specs overs) 8000 80 5 [.sbits (.var 0), .sbits (.var 10), .sbits (.var 20)] (globSt g0) = true := by kernel_rfl
abbrev c_u55 : List (Q × Bool) := [(c_q0, true), (c_q4, true), (c_q5, true), (c_q6, false), (c_q22, true), (c_q2, true), (c_q3, true), (c_q9, false), (c_q10, true), (c_q11, true), (c_q12, false), (c_q13, true), (c_q14, true), (c_q15, false), (c_q23, true), (c_q16, true), (c_q17, true), (c_q18, true), (c_q19, false), (c_q24, true), (c_q25, false), (c_q26, false), (c_q43, true)]
set_option maxRecDepth 100000 in
theorem c_y55 : yesOf Try.prog (knownV (tellA c_u55) tab specs overs) 8000 80 5 [.sbits (.var 0), .sbits (.var 10), .sbits (.var 20)] (globSt g0) = true := by kernel_rfl
abbrev c_u56 : List (Q × Bool) := [(c_q0, true), (c_q4, true), (c_q5, true), (c_q6, false), (c_q22, true), (c_q2, true), (c_q3, true), (c_q9, true), (c_q10, false), (c_q11, true), (c_q12, false), (c_q13, true), (c_q14, true), (c_q15, false), (c_q23, true), (c_q16, true), (c_q17, true), (c_q18, true), (c_q19, true), (c_q25, false), (c_q26, false), (c_q43, true)]
set_option maxRecDepth 100000 in
theorem c_y56 : yesOf Try.prog (knownV (tellA c_u56) tab specs overs) 8000 80 5 [.sbits (.var 0), .sbits (.var 10), .sbits (.var 20)] (globSt g0) = true := by kernel_rfl
abbrev c_u57 : List (Q × Bool) := [(c_q0, true), (c_q4, true), (c_q5, true), (c_q6, false), (c_q22, false), (c_q35, true), (c_q36, true), (c_q37, true), (c_q38, true), (c_q2, true), (c_q3, true), (c_q9, true), (c_q10, false), (c_q11, true), (c_q12, false), (c_q13, true), (c_q14, true), (c_q15, true), (c_q16, true), (c_q17, true), (c_q18, true), (c_q19, true), (c_q39, false), (c_q40, false), (c_q44, false), (c_q43, true)]
set_option maxRecDepth 100000 in
theorem c_y57 : yesOf Try.prog (knownV (tellA c_u57) tab specs overs) 8000 80 5 [.sbits (.var 0), .sbits (.var 10), .sbits (.var 20)] (globSt g0) = true := by kernel_rfl
abbrev c_u58 : List (Q × Bool) := [(c_q0, true), (c_q4, true), (c_q5, true), (c_q6, false), (c_q22, false), (c_q35, true), (c_q36, true), (c_q37, true), (c_q38, true), (c_q2, true), (c_q3, true), (c_q9, false), (c_q10, true), (c_q11, false), (c_q12, true), (c_q13, true), (c_q14, true), (c_q15, false), (c_q23, false), (c_q32, true), (c_q33, true), (c_q41, true), (c_q16, true), (c_q17, true), (c_q18, true), (c_q19, false), (c_q24, false), (c_q29, true), (c_q30, true), (c_q42, true), (c_q39, false), (c_q40, false), (c_q44, false), (c_q43, true)]
set_option maxRecDepth 100000 in
theorem c_y58 : yesOf Try.prog (knownV (tellA c_u58) tab specs overs) 8000 80 5 [.sbits (.var 0), .sbits (.var 10), .sbits (.var 20)] (globSt g0) = true := by kernel_rfl
abbrev c_u59 : List (Q × Bool) := [(c_q0, true), (c_q4, true), (c_q5, true), (c_q6, false), (c_q22, false), (c_q35, true), (c_q36, true), (c_q37, true), (c_q38, true), (c_q2, true), (c_q3, true), (c_q9, true), (c_q10, false), (c_q11, true), (c_q12, false), (c_q13, true), (c_q14, true), (c_q15, false), (c_q23, false), (c_q32, true), (c_q33, true), (c_q41, true), (c_q16, true), (c_q17, true), (c_q18, true), (c_q19, false), (c_q24, false), (c_q29, true), (c_q30, true), (c_q42, true), (c_q39, false), (c_q40, false), (c_q44, false), (c_q43, true)]
set_option maxRecDepth 100000 in
theorem c_y59 : yesOf Try.prog (knownV (tellA c_u59) tab specs overs) 8000 80 5 [.sbits (.var 0), .sbits (.var 10), .sbits (.var 20)] (globSt g0) = true := by kernel_rfl
abbrev c_u60 : List (Q × Bool) := [(c_q0, true), (c_q4, true), (c_q5, true), (c_q6, false), (c_q22, false), (c_q35, true), (c_q36, true), (c_q37, true), (c_q38, true), (c_q2, true), (c_q3, true), (c_q9, true), (c_q10, false), (c_q11, true), (c_q12, false), (c_q13, true), (c_q14, true), (c_q15, false), (c_q23, false), (c_q32, true), (c_q33, true), (c_q41, true), (c_q16, true), (c_q17, true), (c_q18, true), (c_q19, true), (c_q39, false), (c_q40, false), (c_q44, false), (c_q43, true)]
set_option maxRecDepth 100000 in
theorem c_y60 : yesOf Try.prog (knownV (tellA c_u60) tab specs overs) 8000 80 5 [.sbits (.var 0), .sbits (.var 10), .sbits (.var 20)] (globSt g0) = true := by kernel_rfl
abbrev c_u61 : List (Q × Bool) := [(c_q0, true), (c_q4, true), (c_q5, true), (c_q6, false), (c_q22, false), (c_q35, true), (c_q36, true), (c_q37, true), (c_q38, true), (c_q2, true), (c_q3, true), (c_q9, false), (c_q10, true), (c_q11, true), (c_q12, false), (c_q13, true), (c_q14, true), (c_q15, false), (c_q23, false), (c_q32, true), (c_q33, true), (c_q41, true), (c_q16, true), (c_q17, true), (c_q18, true), (c_q19, false), (c_q24, false), (c_q29, true), (c_q30, true), (c_q42, true), (c_q39, false), (c_q40, false), (c_q44, false), (c_q43, true)]
set_option maxRecDepth 100000 in
theorem c_y61 : yesOf Try.prog (knownV (tellA c_u61) tab specs overs) 8000 80 5 [.sbits (.var 0), .sbits (.var 10), .sbits (.var 20)] (globSt g0) = true := by kernel_rfl
abbrev c_u62 : List (Q × Bool) := [(c_q0, true), (c_q4, true), (c_q5, true), (c_q6, false), (c_q22, true), (c_q2, true), (c_q3, true), (c_q9, true), (c_q10, false), (c_q11, true), (c_q12, false), (c_q13, false), (c_q16, true), (c_q17, true), (c_q18, true), (c_q19, true), (c_q25, false), (c_q26, false), (c_q43, true)]
set_option maxRecDepth 100000 in
theorem c_y62 : yesOf Try.prog (knownV (tellA c_u62) tab specs overs) 8000 80 5 [.sbits (.var 0), .sbits (.var 10), .sbits (.var 20)] (globSt g0) = true := by kernel_rfl
abbrev c_u63 : List (Q × Bool) := [(c_q0, true), (c_q4, true), (c_q5, true), (c_q6, true), (c_q2, true), (c_q3, true), (c_q9, false), (c_q10, true), (c_q11, true), (c_q12, false), (c_q13, true), (c_q14, true), (c_q15, true), (c_q16, true), (c_q17, true), (c_q18, true), (c_q19, true), (c_q20, true), (c_q21, false)]
set_option maxRecDepth 100000 in
theorem c_y63 : yesOf Try.prog (knownV (tellA c_u63) tab specs overs) 8000 80 5 [.sbits (.var 0), .sbits (.var 10), .sbits (.var 20)] (globSt g0) = true := by kernel_rfl
abbrev c_u64 : List (Q × Bool) := [(c_q0, true), (c_q4, true), (c_q5, true), (c_q6, true), (c_q2, true), (c_q3, true), (c_q9, true), (c_q10, false), (c_q11, false), (c_q12, true), (c_q13, true), (c_q14, true), (c_q15, true), (c_q16, true), (c_q17, true), (c_q18, true), (c_q19, true), (c_q20, false), (c_q21, true)]
set_option maxRecDepth 100000 in
theorem c_y64 : yesOf Try.prog (knownV (tellA c_u64) tab specs overs) 8000 80 5 [.sbits (.var 0), .sbits (.var 10), .sbits (.var 20)] (globSt g0) = true := by kernel_rfl
abbrev c_u65 : List (Q × Bool) := [(c_q0, true), (c_q4, true), (c_q5, true), (c_q6, true), (c_q2, true), (c_q3, true), (c_q9, false), (c_q10, true), (c_q11, false), (c_q12, true), (c_q13, true), (c_q14, true), (c_q15, true), (c_q16, true), (c_q17, true), (c_q18, true), (c_q19, true), (c_q20, false), (c_q21, true)]
set_option maxRecDepth 100000 in
theorem c_y65 : yesOf Try.prog (knownV (tellA c_u65) tab specs overs) 8000 80 5 [.sbits (.var 0), .sbits (.var 10), .sbits (.var 20)] (globSt g0) = true := by kernel_rfl
abbrev c_u66 : List (Q × Bool) := [(c_q0, true), (c_q4, true), (c_q5, true), (c_q6, false), (c_q22, false), (c_q35, true), (c_q36, true), (c_q37, true), (c_q38, true), (c_q2, true), (c_q3, true), (c_q9, false), (c_q10, true), (c_q11, true), (c_q12, false), (c_q13, true), (c_q14, true), (c_q15, false), (c_q23, false), (c_q32, true), (c_q33, true), (c_q41, true), (c_q16, true), (c_q17, true), (c_q18, true), (c_q19, true), (c_q39, false), (c_q40, true)]
set_option maxRecDepth 100000 in
theorem c_y66 : yesOf Try.prog (knownV (tellA c_u66) tab specs overs) 8000 80 5 [.sbits (.var 0), .sbits (.var 10), .sbits (.var 20)] (globSt g0) = true := by kernel_rfl
abbrev c_u67 : List (Q × Bool) := [(c_q0, true), (c_q4, true), (c_q5, true), (c_q6, true), (c_q2, true), (c_q3, true), (c_q9, true), (c_q10, false), (c_q11, true), (c_q12, false), (c_q13, true), (c_q14, true), (c_q15, true), (c_q16, true), (c_q17, true), (c_q18, true), (c_q19, true), (c_q20, false), (c_q21, true)]
set_option maxRecDepth 100000 in
theorem c_y67 : yesOf Try.prog (knownV (tellA c_u67) tab specs overs) 8000 80 5 [.sbits (.var 0), .sbits (.var 10), .sbits (.var 20)] (globSt g0) = true := by kernel_rfl
abbrev c_u68 : List (Q × Bool) := [(c_q0, true), (c_q4, true), (c_q5, true), (c_q6, true), (c_q2, true), (c_q3, true), (c_q9, false), (c_q10, true), (c_q11, true), (c_q12, false), (c_q13, true), (c_q14, true), (c_q15, true), (c_q16, true), (c_q17, true), (c_q18, true), (c_q19, true), (c_q20, false), (c_q21, true)]
set_option maxRecDepth 100000 in
theorem c_y68 : yesOf Try.prog (knownV (tellA c_u68) tab specs overs) 8000 80 5 [.sbits (.var 0), .sbits (.var 10), .sbits (.var 20)] (globSt g0) = true := by kernel_rfl
abbrev c_u69 : List (Q × Bool) := [(c_q0, true), (c_q4, true), (c_q5, true), (c_q6, true), (c_q2, true), (c_q3, true), (c_q9, true), (c_q10, false), (c_q11, false), (c_q12, true), (c_q13, true), (c_q14, true), (c_q15, true), (c_q16, true), (c_q17, true), (c_q18, true), (c_q19, true), (c_q20, false), (c_q21, false)]
set_option maxRecDepth 100000 in
theorem c_y69 : yesOf Try.prog (knownV (tellA c_u69) tab specs overs) 8000 80 5 [.sbits (.var 0), .sbits (.var 10), .sbits (.var 20)] (globSt g0) = true := by kernel_rfl
abbrev c_u70 : List (Q × Bool) := [(c_q0, true), (c_q4, true), (c_q5, true), (c_q6, true), (c_q2, true), (c_q3, true), (c_q9, true), (c_q10, false), (c_q11, true), (c_q12, false), (c_q13, true), (c_q14, true), (c_q15, true), (c_q16, true), (c_q17, true), (c_q18, true), (c_q19, true), (c_q20, false), (c_q21, false)]
set_option maxRecDepth 100000 in
theorem c_y70 : yesOf Try.prog (knownV (tellA c_u70) tab specs overs) 8000 80 5 [.sbits (.var 0), .sbits (.var 10), .sbits (.var 20)] (globSt g0) = true := by kernel_rfl
abbrev c_u71 : List (Q × Bool) := [(c_q0, true), (c_q4, true), (c_q5, true), (c_q6, false), (c_q22, false), (c_q35, true), (c_q36, true), (c_q37, true), (c_q38, true), (c_q2, true), (c_q3, true), (c_q9, true), (c_q10, false), (c_q11, true), (c_q12, false), (c_q13, true), (c_q14, true), (c_q15, true), (c_q16, true), (c_q17, true), (c_q18, true), (c_q19, true), (c_q39, false), (c_q40, false), (c_q44, true)]
set_option maxRecDepth 100000 in
theorem c_y71 : yesOf Try.prog (knownV (tellA c_u71) tab specs overs) 8000 80 5 [.sbits (.var 0), .sbits (.var 10), .sbits (.var 20)] (globSt g0) = true := by kernel_rfl
abbrev c_u72 : List (Q × Bool) := [(c_q0, true), (c_q4, true), (c_q5, true), (c_q6, false), (c_q22, false), (c_q35, true), (c_q36, true), (c_q37, true), (c_q38, true), (c_q2, true), (c_q3, true), (c_q9, false), (c_q10, true), (c_q11, false), (c_q12, true), (c_q13, true), (c_q14, true), (c_q15, false), (c_q23, false), (c_q32, true), (c_q33, true), (c_q41, true), (c_q16, true), (c_q17, true), (c_q18, true), (c_q19, false), (c_q24, false), (c_q29, true), (c_q30, true), (c_q42, true), (c_q39, false), (c_q40, false), (c_q44, true)]
set_option maxRecDepth 100000 in
theorem c_y72 : yesOf Try.prog (knownV (tellA c_u72) tab specs overs) 8000 80 5 [.sbits (.var 0), .sbits (.var 10), .sbits (.var 20)] (globSt g0) = true := by kernel_rfl
abbrev c_u73 : List (Q × Bool) := [(c_q0, true), (c_q4, true), (c_q5, true), (c_q6, false), (c_q22, false), (c_q35, true), (c_q36, true), (c_q37, true), (c_q38, true), (c_q2, true), (c_q3, true), (c_q9, true), (c_q10, false), (c_q11, true), (c_q12, false), (c_q13, true), (c_q14, true), (c_q15, false), (c_q23, false), (c_q32, true), (c_q33, true), (c_q41, true), (c_q16, true), (c_q17, true), (c_q18, true), (c_q19, true), (c_q39, false), (c_q40, false), (c_q44, true)]
set_option maxRecDepth 100000 in
theorem c_y73 : yesOf Try.prog (knownV (tellA c_u73) tab specs overs) 8000 80 5 [.sbits (.var 0), .sbits (.var 10), .sbits (.var 20)] (globSt g0) = true := by kernel_rfl
abbrev c_u74 : List (Q × Bool) := [(c_q0, true), (c_q4, true), (c_q5, true), (c_q6, false), (c_q22, false), (c_q35, true), (c_q36, true), (c_q37, true), (c_q38, true), (c_q2, true), (c_q3, true), (c_q9, false), (c_q10, true), (c_q11, true), (c_q12, false), (c_q13, true), (c_q14, true), (c_q15, false), (c_q23, false), (c_q32, true), (c_q33, true), (c_q41, true), (c_q16, true), (c_q17, true), (c_q18, true), (c_q19, false), (c_q24, false), (c_q29, true), (c_q30, true), (c_q42, true), (c_q39, false), (c_q40, false), (c_q44, true)]
set_option maxRecDepth 100000 in
theorem c_y74 : yesOf Try.prog (knownV (tellA c_u74) tab specs overs) 8000 80 5 [.sbits (.var 0), .sbits (.var 10), .sbits (.var 20)] (globSt g0) = true := by kernel_rfl
abbrev c_u75 : List (Q × Bool) := [(c_q0, true), (c_q4, true), (c_q5, true), (c_q6, false), (c_q22, false), (c_q35, true), (c_q36, true), (c_q37, true), (c_q38, true), (c_q2, true), (c_q3, true), (c_q9, false), (c_q10, true), (c_q11, true), (c_q12, false), (c_q13, true), (c_q14, true), (c_q15, false), (c_q23, false), (c_q32, true), (c_q33, true), (c_q41, true), (c_q16, true), (c_q17, true), (c_q18, true), (c_q19, true), (c_q39, false), (c_q40, false), (c_q44, true)]
set_option maxRecDepth 100000 in
theorem c_y75 : yesOf Try.prog (knownV (tellA c_u75) tab specs overs) 8000 80 5 [.sbits (.var 0), .sbits (.var 10), .sbits (.var 20)] (globSt g0) = true := by kernel_rfl
abbrev c_u76 : List (Q × Bool) := [(c_q0, true), (c_q4, true), (c_q5, true), (c_q6, false), (c_q22, true), (c_q2, true), (c_q3, true), (c_q9, true), (c_q10, false), (c_q11, false), (c_q12, true), (c_q13, false), (c_q16, true), (c_q17, true), (c_q18, true), (c_q19, false), (c_q24, true), (c_q25, false), (c_q26, false), (c_q43, true)]
set_option maxRecDepth 100000 in
theorem c_y76 : yesOf Try.prog (knownV (tellA c_u76) tab specs overs) 8000 80 5 [.sbits (.var 0), .sbits (.var 10), .sbits (.var 20)] (globSt g0) = true := by kernel_rfl
abbrev c_u77 : List (Q × Bool) := [(c_q0, true), (c_q4, true), (c_q5, true), (c_q6, false), (c_q22, true), (c_q2, true), (c_q3, true), (c_q9, true), (c_q10, false), (c_q11, true), (c_q12, false), (c_q13, false), (c_q16, true), (c_q17, true), (c_q18, true), (c_q19, false), (c_q24, true), (c_q25, false), (c_q26, false), (c_q43, true)]
set_option maxRecDepth 100000 in
theorem c_y77 : yesOf Try.prog (knownV (tellA c_u77) tab specs overs) 8000 80 5 [.sbits (.var 0), .sbits (.var 10), .sbits (.var 20)] (globSt g0) = true := by kernel_rfl
abbrev c_u78 : List (Q × Bool) := [(c_q0, true), (c_q4, true), (c_q5, true), (c_q6, false), (c_q22, false), (c_q35, true), (c_q36, true), (c_q37, true), (c_q38, true), (c_q2, true), (c_q3, true), (c_q9, true), (c_q10, false), (c_q11, true), (c_q12, false), (c_q13, true), (c_q14, true), (c_q15, false), (c_q23, false), (c_q32, true), (c_q33, true), (c_q41, true), (c_q16, true), (c_q17, true), (c_q18, true), (c_q19, false), (c_q24, false), (c_q29, true), (c_q30, true), (c_q42, true), (c_q39, false), (c_q40, false), (c_q44, true)]
set_option maxRecDepth 100000 in
theorem c_y78 : yesOf Try.prog (knownV (tellA c_u78) tab specs overs) 8000 80 5 [.sbits (.var 0), .sbits (.var 10), .sbits (.var 20)] (globSt g0) = true := by kernel_rfl
abbrev c_u79 : List (Q × Bool) := [(c_q0, true), (c_q4, true), (c_q5, true), (c_q6, false), (c_q22, true), (c_q2, true), (c_q3, true), (c_q9, false), (c_q10, true), (c_q11, true), (c_q12, false), (c_q13, true), (c_q14, true), (c_q15, false), (c_q23, true), (c_q16, true), (c_q17, true), (c_q18, true), (c_q19, true), (c_q25, false), (c_q26, false), (c_q43, true)]
set_option maxRecDepth 100000 in
theorem c_y79 : yesOf Try.prog (knownV (tellA c_u79) tab specs overs) 8000 80 5 [.sbits (.var 0), .sbits (.var 10), .sbits (.var 20)] (globSt g0) = true := by kernel_rfl
abbrev c_u80 : List (Q × Bool) := [(c_q0, true), (c_q4, true), (c_q5, true), (c_q6, false), (c_q22, true), (c_q2, true), (c_q3, true), (c_q9, false), (c_q10, true), (c_q11, true), (c_q12, false), (c_q13, true), (c_q14, true), (c_q15, false), (c_q23, true), (c_q16, true), (c_q17, true), (c_q18, true), (c_q19, false), (c_q24, false), (c_q29, true), (c_q30, true), (c_q31, true), (c_q25, false), (c_q26, false), (c_q43, true)]
set_option maxRecDepth 100000 in
theorem c_y80 : yesOf Try.prog (knownV (tellA c_u80) tab specs overs) 8000 80 5 [.sbits (.var 0), .sbits (.var 10), .sbits (.var 20)] (globSt g0) = true := by kernel_rfl
abbrev c_u81 : List (Q × Bool) := [(c_q0, true), (c_q4, true), (c_q5, true), (c_q6, false), (c_q22, true), (c_q2, true), (c_q3, true), (c_q9, false), (c_q10, true), (c_q11, true), (c_q12, false), (c_q13, true), (c_q14, true), (c_q15, false), (c_q23, true), (c_q16, true), (c_q17, true), (c_q18, true), (c_q19, false), (c_q24, false), (c_q29, true), (c_q30, true), (c_q31, true), (c_q25, true), (c_q26, false)]
set_option maxRecDepth 100000 in
theorem c_y81 : yesOf Try.prog (knownV (tellA c_u81) tab specs overs) 8000 80 5 [.sbits (.var 0), .sbits (.var 10), .sbits (.var 20)] (globSt g0) = true := by kernel_rfl
abbrev c_u82 : List (Q × Bool) := [(c_q0, true), (c_q4, true), (c_q5, true), (c_q6, false), (c_q22, false), (c_q35, true), (c_q36, true), (c_q37, true), (c_q38, true), (c_q2, true), (c_q3, true), (c_q9, false), (c_q10, true), (c_q11, true), (c_q12, false), (c_q13, true), (c_q14, true), (c_q15, false), (c_q23, false), (c_q32, true), (c_q33, true), (c_q41, true), (c_q16, true), (c_q17, true), (c_q18, true), (c_q19, true), (c_q39, true), (c_q40, false)]
set_option maxRecDepth 100000 in
theorem c_y82 : yesOf Try.prog (knownV (tellA c_u82) tab specs overs) 8000 80 5 [.sbits (.var 0), .sbits (.var 10), .sbits (.var 20)] (globSt g0) = true := by kernel_rfl
abbrev c_u83 : List (Q × Bool) := [(c_q0, true), (c_q4, true), (c_q5, true), (c_q6, false), (c_q22, false), (c_q35, true), (c_q36, true), (c_q37, true), (c_q38, true), (c_q2, true), (c_q3, true), (c_q9, false), (c_q10, true), (c_q11, true), (c_q12, false), (c_q13, true), (c_q14, true), (c_q15, false), (c_q23, false), (c_q32, true), (c_q33, true), (c_q41, true), (c_q16, true), (c_q17, true), (c_q18, true), (c_q19, true), (c_q39, false), (c_q40, false), (c_q44, false), (c_q43, true)]
set_option maxRecDepth 100000 in
theorem c_y83 : yesOf Try.prog (knownV (tellA c_u83) tab specs overs) 8000 80 5 [.sbits (.var 0), .sbits (.var 10), .sbits (.var 20)] (globSt g0) = true := by kernel_rfl
abbrev c_u84 : List (Q × Bool) := [(c_q0, true), (c_q4, true), (c_q5, true), (c_q6, false), (c_q22, true), (c_q2, true), (c_q3, true), (c_q9, false), (c_q10, true), (c_q11, true), (c_q12, false), (c_q13, true), (c_q14, true), (c_q15, false), (c_q23, true), (c_q16, true), (c_q17, true), (c_q18, true), (c_q19, false), (c_q24, false), (c_q29, true), (c_q30, true), (c_q31, true), (c_q25, false), (c_q26, true)]
set_option maxRecDepth 100000 in
theorem c_y84 : yesOf Try.prog (knownV (tellA c_u84) tab specs overs) 8000 80 5 [.sbits (.var 0), .sbits (.var 10), .sbits (.var 20)] (globSt g0) = true := by kernel_rfl
abbrev c_u85 : List (Q × Bool) := [(c_q0, true), (c_q4, true), (c_q5, true), (c_q6, false), (c_q22, false), (c_q35, true), (c_q36, true), (c_q37, true), (c_q38, true), (c_q2, true), (c_q3, true), (c_q9, true), (c_q10, false), (c_q11, false), (c_q12, true), (c_q13, true), (c_q14, true), (c_q15, true), (c_q16, true), (c_q17, true), (c_q18, true), (c_q19, false), (c_q24, false), (c_q29, true), (c_q30, true), (c_q42, true), (c_q39, true), (c_q40, false)]
set_option maxRecDepth 100000 in
theorem c_y85 : yesOf Try.prog (knownV (tellA c_u85) tab specs overs) 8000 80 5 [.sbits (.var 0), .sbits (.var 10), .sbits (.var 20)] (globSt g0) = true := by kernel_rfl
abbrev c_u86 : List (Q × Bool) := [(c_q0, true), (c_q4, true), (c_q5, true), (c_q6, false), (c_q22, true), (c_q2, true), (c_q3, true), (c_q9, true), (c_q10, false), (c_q11, false), (c_q12, true), (c_q13, true), (c_q14, true), (c_q15, false), (c_q23, false), (c_q32, true), (c_q33, true), (c_q34, true), (c_q16, true), (c_q17, true), (c_q18, true), (c_q19, false), (c_q24, true), (c_q25, true), (c_q26, false)]
set_option maxRecDepth 100000 in
theorem c_y86 : yesOf Try.prog (knownV (tellA c_u86) tab specs overs) 8000 80 5 [.sbits (.var 0), .sbits (.var 10), .sbits (.var 20)] (globSt g0) = true := by kernel_rfl
abbrev c_u87 : List (Q × Bool) := [(c_q0, true), (c_q4, true), (c_q5, true), (c_q6, false), (c_q22, false), (c_q35, true), (c_q36, true), (c_q37, true), (c_q38, true), (c_q2, true), (c_q3, true), (c_q9, false), (c_q10, true), (c_q11, false), (c_q12, true), (c_q13, true), (c_q14, true), (c_q15, false), (c_q23, false), (c_q32, true), (c_q33, true), (c_q41, true), (c_q16, true), (c_q17, true), (c_q18, true), (c_q19, false), (c_q24, false), (c_q29, true), (c_q30, true), (c_q42, true), (c_q39, true), (c_q40, true)]
set_option maxRecDepth 100000 in
theorem c_y87 : yesOf Try.prog (knownV (tellA c_u87) tab specs overs) 8000 80 5 [.sbits (.var 0), .sbits (.var 10), .sbits (.var 20)] (globSt g0) = true := by kernel_rfl
abbrev c_u88 : List (Q × Bool) := [(c_q0, true), (c_q4, true), (c_q5, true), (c_q6, false), (c_q22, false), (c_q35, true), (c_q36, true), (c_q37, true), (c_q38, true), (c_q2, true), (c_q3, true), (c_q9, false), (c_q10, true), (c_q11, true), (c_q12, false), (c_q13, true), (c_q14, true), (c_q15, false), (c_q23, false), (c_q32, true), (c_q33, true), (c_q41, true), (c_q16, true), (c_q17, true), (c_q18, true), (c_q19, false), (c_q24, false), (c_q29, true), (c_q30, true), (c_q42, true), (c_q39, true), (c_q40, true)]
set_option maxRecDepth 100000 in
theorem c_y88 : yesOf Try.prog (knownV (tellA c_u88) tab specs overs) 8000 80 5 [.sbits (.var 0), .sbits (.var 10), .sbits (.var 20)] (globSt g0) = true := by kernel_rfl
abbrev c_u89 : List (Q × Bool) := [(c_q0, true), (c_q4, true), (c_q5, true), (c_q6, false), (c_q22, false), (c_q35, true), (c_q36, true), (c_q37, true), (c_q38, true), (c_q2, true), (c_q3, true), (c_q9, false), (c_q10, true), (c_q11, true), (c_q12, false), (c_q13, true), (c_q14, true), (c_q15, false), (c_q23, false), (c_q32, true), (c_q33, true), (c_q41, true), (c_q16, true), (c_q17, true), (c_q18, true), (c_q19, true), (c_q39, true), (c_q40, true)]
set_option maxRecDepth 100000 in
theorem c_y89 : yesOf Try.prog (knownV (tellA c_u89) tab specs overs) 8000 80 5 [.sbits (.var 0), .sbits (.var 10), .sbits (.var 20)] (globSt g0) = true := by kernel_rfl
abbrev c_u90 : List (Q × Bool) := [(c_q0, true), (c_q4, true), (c_q5, true), (c_q6, false), (c_q22, false), (c_q35, true), (c_q36, true), (c_q37, true), (c_q38, true), (c_q2, true), (c_q3, true), (c_q9, true), (c_q10, false), (c_q11, false), (c_q12, true), (c_q13, true), (c_q14, true), (c_q15, false), (c_q23, false), (c_q32, true), (c_q33, true), (c_q41, true), (c_q16, true), (c_q17, true), (c_q18, true), (c_q19, false), (c_q24, false), (c_q29, true), (c_q30, true), (c_q42, true), (c_q39, true), (c_q40, true)]
set_option maxRecDepth 100000 in
theorem c_y90 : yesOf Try.prog (knownV (tellA c_u90) tab specs overs) 8000 80 5 [.sbits (.var 0), .sbits (.var 10), .sbits (.var 20)] (globSt g0) = true := by kernel_rfl
abbrev c_u91 : List (Q × Bool) := [(c_q0, true), (c_q4, true), (c_q5, true), (c_q6, false), (c_q22, false), (c_q35, true), (c_q36, true), (c_q37, true), (c_q38, true), (c_q2, true), (c_q3, true), (c_q9, true), (c_q10, false), (c_q11, false), (c_q12, true), (c_q13, true), (c_q14, true), (c_q15, true), (c_q16, true), (c_q17, true), (c_q18, true), (c_q19, false), (c_q24, false), (c_q29, true), (c_q30, true), (c_q42, true), (c_q39, false), (c_q40, false), (c_q44, true)]
set_option maxRecDepth 100000 in
theorem c_y91 : yesOf Try.prog (knownV (tellA c_u91) tab specs overs) 8000 80 5 [.sbits (.var 0), .sbits (.var 10), .sbits (.var 20)] (globSt g0) = true := by kernel_rfl
abbrev c_u92 : List (Q × Bool) := [(c_q0, true), (c_q4, true), (c_q5, true), (c_q6, false), (c_q22, false), (c_q35, true), (c_q36, true), (c_q37, true), (c_q38, true), (c_q2, true), (c_q3, true), (c_q9, true), (c_q10, false), (c_q11, false), (c_q12, true), (c_q13, true), (c_q14, true), (c_q15, true), (c_q16, true), (c_q17, true), (c_q18, true), (c_q19, false), (c_q24, false), (c_q29, true), (c_q30, true), (c_q42, true), (c_q39, true), (c_q40, true)]
set_option maxRecDepth 100000 in
theorem c_y92 : yesOf Try.prog (knownV (tellA c_u92) tab specs overs) 8000 80 5 [.sbits (.var 0), .sbits (.var 10), .sbits (.var 20)] (globSt g0) = true := by kernel_rfl
abbrev c_u93 : List (Q × Bool) := [(c_q0, true), (c_q4, true), (c_q5, true), (c_q6, false), (c_q22, false), (c_q35, true), (c_q36, true), (c_q37, true), (c_q38, true), (c_q2, true), (c_q3, true), (c_q9, true), (c_q10, false), (c_q11, true), (c_q12, false), (c_q13, true), (c_q14, true), (c_q15, false), (c_q23, false), (c_q32, true), (c_q33, true), (c_q41, true), (c_q16, true), (c_q17, true), (c_q18, true), (c_q19, false), (c_q24, false), (c_q29, true), (c_q30, true), (c_q42, true), (c_q39, true), (c_q40, true)]
set_option maxRecDepth 100000 in
theorem c_y93 : yesOf Try.prog (knownV (tellA c_u93) tab specs overs) 8000 80 5 [.sbits (.var 0), .sbits (.var 10), .sbits (.var 20)] (globSt g0) = true := by kernel_rfl
abbrev c_u94 : List (Q × Bool) := [(c_q0, true), (c_q4, true), (c_q5, true), (c_q6, false), (c_q22, false), (c_q35, true), (c_q36, true), (c_q37, true), (c_q38, true), (c_q2, true), (c_q3, true), (c_q9, true), (c_q10, false), (c_q11, true), (c_q12, false), (c_q13, true), (c_q14, true), (c_q15, false), (c_q23, false), (c_q32, true), (c_q33, true), (c_q41, true), (c_q16, true), (c_q17, true), (c_q18, true), (c_q19, true), (c_q39, true), (c_q40, true)]
set_option maxRecDepth 100000 in
theorem c_y94 : yesOf Try.prog (knownV (tellA c_u94) tab specs overs) 8000 80 5 [.sbits (.var 0), .sbits (.var 10), .sbits (.var 20)] (globSt g0) = true := by kernel_rfl
abbrev c_u95 : List (Q × Bool) := [(c_q0, true), (c_q4, true), (c_q5, true), (c_q6, false), (c_q22, false), (c_q35, true), (c_q36, true), (c_q37, true), (c_q38, true), (c_q2, true), (c_q3, true), (c_q9, true), (c_q10, false), (c_q11, true), (c_q12, false), (c_q13, true), (c_q14, true), (c_q15, true), (c_q16, true), (c_q17, true), (c_q18, true), (c_q19, true), (c_q39, true), (c_q40, true)]
set_option maxRecDepth 100000 in
theorem c_y95 : yesOf Try.prog (knownV (tellA c_u95) tab specs overs) 8000 80 5 [.sbits (.var 0), .sbits (.var 10), .sbits (.var 20)] (globSt g0) = true := by kernel_rfl
abbrev c_u96 : List (Q × Bool) := [(c_q0, true), (c_q4, true), (c_q5, true), (c_q6, false), (c_q22, true), (c_q2, true), (c_q3, true), (c_q9, false), (c_q10, true), (c_q11, false), (c_q12, true), (c_q13, true), (c_q14, true), (c_q15, false), (c_q23, true), (c_q16, true), (c_q17, true), (c_q18, true), (c_q19, false), (c_q24, true), (c_q25, true), (c_q26, true)]
set_option maxRecDepth 100000 in
theorem c_y96 : yesOf Try.prog (knownV (tellA c_u96) tab specs overs) 8000 80 5 [.sbits (.var 0), .sbits (.var 10), .sbits (.var 20)] (globSt g0) = true := by kernel_rfl
abbrev c_u97 : List (Q × Bool) := [(c_q0, true), (c_q4, true), (c_q5, true), (c_q6, false), (c_q22, true), (c_q2, true), (c_q3, true), (c_q9, false), (c_q10, true), (c_q11, true), (c_q12, false), (c_q13, true), (c_q14, true), (c_q15, false), (c_q23, true), (c_q16, true), (c_q17, false), (c_q25, true), (c_q26, true)]
set_option maxRecDepth 100000 in
theorem c_y97 : yesOf Try.prog (knownV (tellA c_u97) tab specs overs) 8000 80 5 [.sbits (.var 0), .sbits (.var 10), .sbits (.var 20)] (globSt g0) = true := by kernel_rfl
abbrev c_u98 : List (Q × Bool) := [(c_q0, true), (c_q4, true), (c_q5, true), (c_q6, false), (c_q22, true), (c_q2, true), (c_q3, true), (c_q9, false), (c_q10, true), (c_q11, true), (c_q12, false), (c_q13, true), (c_q14, true), (c_q15, false), (c_q23, true), (c_q16, true), (c_q17, true), (c_q18, true), (c_q19, false), (c_q24, false), (c_q29, true), (c_q30, true), (c_q31, true), (c_q25, true), (c_q26, true)]
set_option maxRecDepth 100000 in
theorem c_y98 : yesOf Try.prog (knownV (tellA c_u98) tab specs overs) 8000 80 5 [.sbits (.var 0), .sbits (.var 10), .sbits (.var 20)] (globSt g0) = true := by kernel_rfl
abbrev c_u99 : List (Q × Bool) := [(c_q0, true), (c_q4, true), (c_q5, true), (c_q6, false), (c_q22, true), (c_q2, true), (c_q3, true), (c_q9, false), (c_q10, true), (c_q11, true), (c_q12, false), (c_q13, true), (c_q14, true), (c_q15, false), (c_q23, true), (c_q16, true), (c_q17, true), (c_q18, true), (c_q19, false), (c_q24, true), (c_q25, true), (c_q26, true)]
set_option maxRecDepth 100000 in
theorem c_y99 : yesOf Try.prog (knownV (tellA c_u99) tab specs overs) 8000 80 5 [.sbits (.var 0), .sbits (.var 10), .sbits (.var 20)] (globSt g0) = true := by kernel_rfl
abbrev c_u100 : List (Q × Bool) := [(c_q0, true), (c_q4, true), (c_q5, true), (c_q6, false), (c_q22, true), (c_q2, true), (c_q3, true), (c_q9, false), (c_q10, true), (c_q11, true), (c_q12, false), (c_q13, true), (c_q14, true), (c_q15, false), (c_q23, true), (c_q16, true), (c_q17, true), (c_q18, true), (c_q19, true), (c_q25, true), (c_q26, false)]
set_option maxRecDepth 100000 in
theorem c_y100 : yesOf Try.prog (knownV (tellA c_u100) tab specs overs) 8000 80 5 [.sbits (.var 0), .sbits (.var 10), .sbits (.var 20)] (globSt g0) = true := by kernel_rfl
abbrev c_u101 : List (Q × Bool) := [(c_q0, true), (c_q4, true), (c_q5, true), (c_q6, false), (c_q22, true), (c_q2, true), (c_q3, true), (c_q9, false), (c_q10, true), (c_q11, true), (c_q12, false), (c_q13, true), (c_q14, true), (c_q15, false), (c_q23, true), (c_q16, true), (c_q17, true), (c_q18, true), (c_q19, true), (c_q25, false), (c_q26, true)]
set_option maxRecDepth 100000 in
theorem c_y101 : yesOf Try.prog (knownV (tellA c_u101) tab specs overs) 8000 80 5 [.sbits (.var 0), .sbits (.var 10), .sbits (.var 20)] (globSt g0) = true := by kernel_rfl
abbrev c_u102 : List (Q × Bool) := [(c_q0, true), (c_q4, true), (c_q5, true), (c_q6, false), (c_q22, true), (c_q2, true), (c_q3, true), (c_q9, true), (c_q10, false), (c_q11, false), (c_q12, true), (c_q13, false), (c_q16, true), (c_q17, true), (c_q18, true), (c_q19, false), (c_q24, true), (c_q25, true), (c_q26, false)]
set_option maxRecDepth 100000 in
theorem c_y102 : yesOf Try.prog (knownV (tellA c_u102) tab specs overs) 8000 80 5 [.sbits (.var 0), .sbits (.var 10), .sbits (.var 20)] (globSt g0) = true := by kernel_rfl
abbrev c_u103 : List (Q × Bool) := [(c_q0, true), (c_q4, true), (c_q5, true), (c_q6, false), (c_q22, true), (c_q2, true), (c_q3, true), (c_q9, true), (c_q10, false), (c_q11, false), (c_q12, true), (c_q13, false), (c_q16, true), (c_q17, true), (c_q18, true), (c_q19, false), (c_q24, true), (c_q25, false), (c_q26, true)]
set_option maxRecDepth 100000 in
theorem c_y103 : yesOf Try.prog (knownV (tellA c_u103) tab specs overs) 8000 80 5 [.sbits (.var 0), .sbits (.var 10), .sbits (.var 20)] (globSt g0) = true := by kernel_rfl
abbrev c_u104 : List (Q × Bool) := [(c_q0, true), (c_q4, true), (c_q5, true), (c_q6, false), (c_q22, true), (c_q2, true), (c_q3, true), (c_q9, true), (c_q10, false), (c_q11, false), (c_q12, true), (c_q13, true), (c_q14, true), (c_q15, true), (c_q16, true), (c_q17, true), (c_q18, true), (c_q19, false), (c_q24, true), (c_q25, true), (c_q26, false)]
set_option maxRecDepth 100000 in
theorem c_y104 : yesOf Try.prog (knownV (tellA c_u104) tab specs overs) 8000 80 5 [.sbits (.var 0), .sbits (.var 10), .sbits (.var 20)] (globSt g0) = true := by kernel_rfl
abbrev c_u105 : List (Q × Bool) := [(c_q0, true), (c_q4, true), (c_q5, true), (c_q6, false), (c_q22, true), (c_q2, true), (c_q3, true), (c_q9, true), (c_q10, false), (c_q11, false), (c_q12, true), (c_q13, true), (c_q14, true), (c_q15, false), (c_q23, false), (c_q32, true), (c_q33, true), (c_q34, true), (c_q16, true), (c_q17, true), (c_q18, true), (c_q19, false), (c_q24, true), (c_q25, true), (c_q26, true)]
set_option maxRecDepth 100000 in
theorem c_y105 : yesOf Try.prog (knownV (tellA c_u105) tab specs overs) 8000 80 5 [.sbits (.var 0), .sbits (.var 10), .sbits (.var 20)] (globSt g0) = true := by kernel_rfl
abbrev c_u106 : List (Q × Bool) := [(c_q0, true), (c_q4, true), (c_q5, true), (c_q6, false), (c_q22, true), (c_q2, true), (c_q3, true), (c_q9, true), (c_q10, false), (c_q11, false), (c_q12, true), (c_q13, true), (c_q14, true), (c_q15, false), (c_q23, true), (c_q16, true), (c_q17, true), (c_q18, true), (c_q19, false), (c_q24, true), (c_q25, true), (c_q26, true)]
set_option maxRecDepth 100000 in
theorem c_y106 : yesOf Try.prog (knownV (tellA c_u106) tab specs overs) 8000 80 5 [.sbits (.var 0), .sbits (.var 10), .sbits (.var 20)] (globSt g0) = true := by kernel_rfl
abbrev c_u107 : List (Q × Bool) := [(c_q0, true), (c_q4, true), (c_q5, true), (c_q6, false), (c_q22, true), (c_q2, true), (c_q3, true), (c_q9, true), (c_q10, false), (c_q11, true), (c_q12, false), (c_q13, false), (c_q16, true), (c_q17, true), (c_q18, true), (c_q19, false), (c_q24, true), (c_q25, true), (c_q26, false)]
set_option maxRecDepth 100000 in
theorem c_y107 : yesOf Try.prog (knownV (tellA c_u107) tab specs overs) 8000 80 5 [.sbits (.var 0), .sbits (.var 10), .sbits (.var 20)] (globSt g0) = true := by kernel_rfl
abbrev c_u108 : List (Q × Bool) := [(c_q0, true), (c_q4, true), (c_q5, true), (c_q6, false), (c_q22, true), (c_q2, true), (c_q3, true), (c_q9, true), (c_q10, false), (c_q11, true), (c_q12, false), (c_q13, false), (c_q16, true), (c_q17, true), (c_q18, true), (c_q19, false), (c_q24, true), (c_q25, false), (c_q26, true)]
set_option maxRecDepth 100000 in
theorem c_y108 : yesOf Try.prog (knownV (tellA c_u108) tab specs overs) 8000 80 5 [.sbits (.var 0), .sbits (.var 10), .sbits (.var 20)] (globSt g0) = true := by kernel_rfl
abbrev c_u109 : List (Q × Bool) := [(c_q0, true), (c_q4, true), (c_q5, true), (c_q6, false), (c_q22, true), (c_q2, true), (c_q3, true), (c_q9, true), (c_q10, false), (c_q11, true), (c_q12, false), (c_q13, false), (c_q16, true), (c_q17, true), (c_q18, true), (c_q19, true), (c_q25, true), (c_q26, true)]
set_option maxRecDepth 100000 in
theorem c_y109 : yesOf Try.prog (knownV (tellA c_u109) tab specs overs) 8000 80 5 [.sbits (.var 0), .sbits (.var 10), .sbits (.var 20)] (globSt g0) = true := by kernel_rfl
abbrev c_u110 : List (Q × Bool) := [(c_q0, true), (c_q4, true), (c_q5, true), (c_q6, false), (c_q22, true), (c_q2, true), (c_q3, true), (c_q9, true), (c_q10, false), (c_q11, true), (c_q12, false), (c_q13, true), (c_q14, true), (c_q15, false), (c_q23, false), (c_q32, true), (c_q33, true), (c_q34, true), (c_q16, true), (c_q17, true), (c_q18, true), (c_q19, false), (c_q24, true), (c_q25, true), (c_q26, false)]
set_option maxRecDepth 100000 in
theorem c_y110 : yesOf Try.prog (knownV (tellA c_u110) tab specs overs) 8000 80 5 [.sbits (.var 0), .sbits (.var 10), .sbits (.var 20)] (globSt g0) = true := by kernel_rfl
abbrev c_u111 : List (Q × Bool) := [(c_q0, true), (c_q4, true), (c_q5, true), (c_q6, false), (c_q22, true), (c_q2, true), (c_q3, true), (c_q9, true), (c_q10, false), (c_q11, true), (c_q12, false), (c_q13, true), (c_q14, true), (c_q15, false), (c_q23, false), (c_q32, true), (c_q33, true), (c_q34, true), (c_q16, true), (c_q17, true), (c_q18, true), (c_q19, false), (c_q24, false), (c_q29, true), (c_q30, true), (c_q31, true), (c_q25, true), (c_q26, true)]
set_option maxRecDepth 100000 in
theorem c_y111 : yesOf Try.prog (knownV (tellA c_u111) tab specs overs) 8000 80 5 [.sbits (.var 0), .sbits (.var 10), .sbits (.var 20)] (globSt g0) = true := by kernel_rfl
abbrev c_u112 : List (Q × Bool) := [(c_q0, true), (c_q4, true), (c_q5, true), (c_q6, false), (c_q22, true), (c_q2, true), (c_q3, true), (c_q9, true), (c_q10, false), (c_q11, true), (c_q12, false), (c_q13, true), (c_q14, true), (c_q15, false), (c_q23, false), (c_q32, true), (c_q33, true), (c_q34, true), (c_q16, true), (c_q17, true), (c_q18, true), (c_q19, true), (c_q25, true), (c_q26, true)]
set_option maxRecDepth 100000 in
theorem c_y112 : yesOf Try.prog (knownV (tellA c_u112) tab specs overs) 8000 80 5 [.sbits (.var 0), .sbits (.var 10), .sbits (.var 20)] (globSt g0) = true := by kernel_rfl
abbrev c_u113 : List (Q × Bool) := [(c_q0, true), (c_q4, true), (c_q5, true), (c_q6, false), (c_q22, true), (c_q2, true), (c_q3, true), (c_q9, true), (c_q10, false), (c_q11, true), (c_q12, false), (c_q13, true), (c_q14, true), (c_q15, false), (c_q23, true), (c_q16, true), (c_q17, true), (c_q18, true), (c_q19, false), (c_q24, false), (c_q29, true), (c_q30, true), (c_q31, true), (c_q25, true), (c_q26, true)]
set_option maxRecDepth 100000 in
theorem c_y113 : yesOf Try.prog (knownV (tellA c_u113) tab specs overs) 8000 80 5 [.sbits (.var 0), .sbits (.var 10), .sbits (.var 20)] (globSt g0) = true := by kernel_rfl
abbrev c_u114 : List (Q × Bool) := [(c_q0, true), (c_q4, true), (c_q5, true), (c_q6, false), (c_q22, true), (c_q2, true), (c_q3, true), (c_q9, true), (c_q10, false), (c_q11, true), (c_q12, false), (c_q13, true), (c_q14, true), (c_q15, false), (c_q23, true), (c_q16, true), (c_q17, true), (c_q18, true), (c_q19, false), (c_q24, true), (c_q25, true), (c_q26, true)]
set_option maxRecDepth 100000 in
theorem c_y114 : yesOf Try.prog (knownV (tellA c_u114) tab specs overs) 8000 80 5 [.sbits (.var 0), .sbits (.var 10), .sbits (.var 20)] (globSt g0) = true := by kernel_rfl
abbrev c_u115 : List (Q × Bool) := [(c_q0, true), (c_q4, true), (c_q5, true), (c_q6, false), (c_q22, true), (c_q2, true), (c_q3, true), (c_q9, true), (c_q10, false), (c_q11, true), (c_q12, false), (c_q13, true), (c_q14, true), (c_q15, false), (c_q23, true), (c_q16, true), (c_q17, true), (c_q18, true), (c_q19, true), (c_q25, true), (c_q26, true)]
set_option maxRecDepth 100000 in
theorem c_y115 : yesOf Try.prog (knownV (tellA c_u115) tab specs overs) 8000 80 5 [.sbits (.var 0), .sbits (.var 10), .sbits (.var 20)] (globSt g0) = true := by kernel_rfl
abbrev c_u116 : List (Q × Bool) := [(c_q0, true), (c_q4, true), (c_q5, true), (c_q6, false), (c_q22, true), (c_q2, true), (c_q3, true), (c_q9, true), (c_q10, false), (c_q11, true), (c_q12, false), (c_q13, true), (c_q14, true), (c_q15, true), (c_q16, true), (c_q17, true), (c_q18, true), (c_q19, true), (c_q25, true), (c_q26, true)]
set_option maxRecDepth 100000 in
theorem c_y116 : yesOf Try.prog (knownV (tellA c_u116) tab specs overs) 8000 80 5 [.sbits (.var 0), .sbits (.var 10), .sbits (.var 20)] (globSt g0) = true := by kernel_rfl
abbrev c_u117 : List (Q × Bool) := [(c_q0, true), (c_q4, true), (c_q5, true), (c_q6, false), (c_q22, false), (c_q35, true), (c_q36, true), (c_q37, true), (c_q38, true), (c_q2, true), (c_q3, true), (c_q9, true), (c_q10, false), (c_q11, false), (c_q12, true), (c_q13, true), (c_q14, true), (c_q15, false), (c_q23, false), (c_q32, true), (c_q33, true), (c_q41, true), (c_q16, true), (c_q17, true), (c_q18, true), (c_q19, false), (c_q24, false), (c_q29, true), (c_q30, true), (c_q42, true), (c_q39, false), (c_q40, false), (c_q44, false), (c_q43, true)]
set_option maxRecDepth 100000 in
theorem c_y117 : yesOf Try.prog (knownV (tellA c_u117) tab specs overs) 8000 80 5 [.sbits (.var 0), .sbits (.var 10), .sbits (.var 20)] (globSt g0) = true := by kernel_rfl
abbrev c_u118 : List (Q × Bool) := [(c_q0, true), (c_q4, true), (c_q5, true), (c_q6, false), (c_q22, false), (c_q35, true), (c_q36, true), (c_q37, true), (c_q38, true), (c_q2, true), (c_q3, true), (c_q9, true), (c_q10, false), (c_q11, true), (c_q12, false), (c_q13, true), (c_q14, true), (c_q15, true), (c_q16, true), (c_q17, true), (c_q18, true), (c_q19, false), (c_q24, false), (c_q29, true), (c_q30, true), (c_q42, true), (c_q39, true), (c_q40, false)]
set_option maxRecDepth 100000 in
theorem c_y118 : yesOf Try.prog (knownV (tellA c_u118) tab specs overs) 8000 80 5 [.sbits (.var 0), .sbits (.var 10), .sbits (.var 20)] (globSt g0) = true := by kernel_rfl
abbrev c_u119 : List (Q × Bool) := [(c_q0, true), (c_q4, true), (c_q5, true), (c_q6, false), (c_q22, true), (c_q2, true), (c_q3, true), (c_q9, false), (c_q10, true), (c_q11, true), (c_q12, false), (c_q13, true), (c_q14, true), (c_q15, false), (c_q23, true), (c_q16, true), (c_q17, false), (c_q25, false), (c_q26, false), (c_q43, true)]
set_option maxRecDepth 100000 in
theorem c_y119 : yesOf Try.prog (knownV (tellA c_u119) tab specs overs) 8000 80 5 [.sbits (.var 0), .sbits (.var 10), .sbits (.var 20)] (globSt g0) = true := by kernel_rfl
abbrev c_u120 : List (Q × Bool) := [(c_q0, true), (c_q4, true), (c_q5, true), (c_q6, false), (c_q22, true), (c_q2, true), (c_q3, true), (c_q9, true), (c_q10, false), (c_q11, false), (c_q12, true), (c_q13, true), (c_q14, true), (c_q15, false), (c_q23, false), (c_q32, true), (c_q33, true), (c_q34, true), (c_q16, true), (c_q17, true), (c_q18, true), (c_q19, false), (c_q24, true), (c_q25, false), (c_q26, false), (c_q43, true)]
set_option maxRecDepth 100000 in
theorem c_y120 : yesOf Try.prog (knownV (tellA c_u120) tab specs overs) 8000 80 5 [.sbits (.var 0), .sbits (.var 10), .sbits (.var 20)] (globSt g0) = true := by kernel_rfl
abbrev c_u121 : List (Q × Bool) := [(c_q0, true), (c_q4, true), (c_q5, true), (c_q6, false), (c_q22, true), (c_q2, true), (c_q3, true), (c_q9, true), (c_q10, false), (c_q11, true), (c_q12, false), (c_q13, false), (c_q16, true), (c_q17, true), (c_q18, true), (c_q19, false), (c_q24, false), (c_q29, true), (c_q30, true), (c_q31, true), (c_q25, false), (c_q26, false), (c_q43, true)]
set_option maxRecDepth 100000 in
theorem c_y121 : yesOf Try.prog (knownV (tellA c_u121) tab specs overs) 8000 80 5 [.sbits (.var 0), .sbits (.var 10), .sbits (.var 20)] (globSt g0) = true := by kernel_rfl
abbrev c_u122 : List (Q × Bool) := [(c_q0, true), (c_q4, true), (c_q5, true), (c_q6, false), (c_q22, true), (c_q2, true), (c_q3, true), (c_q9, true), (c_q10, false), (c_q11, true), (c_q12, false), (c_q13, true), (c_q14, true), (c_q15, true), (c_q16, true), (c_q17, true), (c_q18, true), (c_q19, false), (c_q24, false), (c_q29, true), (c_q30, true), (c_q31, true), (c_q25, true), (c_q26, false)]
set_option maxRecDepth 100000 in
theorem c_y122 : yesOf Try.prog (knownV (tellA c_u122) tab specs overs) 8000 80 5 [.sbits (.var 0), .sbits (.var 10), .sbits (.var 20)] (globSt g0) = true := by kernel_rfl
abbrev c_u123 : List (Q × Bool) := [(c_q0, true), (c_q4, true), (c_q5, true), (c_q6, false), (c_q22, false), (c_q35, true), (c_q36, true), (c_q37, true), (c_q38, true), (c_q2, true), (c_q3, true), (c_q9, true), (c_q10, false), (c_q11, false), (c_q12, true), (c_q13, true), (c_q14, true), (c_q15, false), (c_q23, false), (c_q32, true), (c_q33, true), (c_q41, true), (c_q16, true), (c_q17, true), (c_q18, true), (c_q19, false), (c_q24, false), (c_q29, true), (c_q30, true), (c_q42, true), (c_q39, false), (c_q40, true)]
set_option maxRecDepth 100000 in
theorem c_y123 : yesOf Try.prog (knownV (tellA c_u123) tab specs overs) 8000 80 5 [.sbits (.var 0), .sbits (.var 10), .sbits (.var 20)] (globSt g0) = true := by kernel_rfl
abbrev c_u124 : List (Q × Bool) := [(c_q0, true), (c_q4, true), (c_q5, true), (c_q6, false), (c_q22, false), (c_q35, true), (c_q36, true), (c_q37, true), (c_q38, true), (c_q2, true), (c_q3, true), (c_q9, true), (c_q10, false), (c_q11, false), (c_q12, true), (c_q13, true), (c_q14, true), (c_q15, false), (c_q23, false), (c_q32, true), (c_q33, true), (c_q41, true), (c_q16, true), (c_q17, true), (c_q18, true), (c_q19, false), (c_q24, false), (c_q29, true), (c_q30, true), (c_q42, true), (c_q39, false), (c_q40, false), (c_q44, true)]
set_option maxRecDepth 100000 in
theorem c_y124 : yesOf Try.prog (knownV (tellA c_u124) tab specs overs) 8000 80 5 [.sbits (.var 0), .sbits (.var 10), .sbits (.var 20)] (globSt g0) = true := by kernel_rfl
abbrev c_u125 : List (Q × Bool) := [(c_q0, true), (c_q4, true), (c_q5, true), (c_q6, false), (c_q22, false), (c_q35, true), (c_q36, true), (c_q37, true), (c_q38, true), (c_q2, true), (c_q3, true), (c_q9, true), (c_q10, false), (c_q11, false), (c_q12, true), (c_q13, true), (c_q14, true), (c_q15, true), (c_q16, true), (c_q17, true), (c_q18, true), (c_q19, false), (c_q24, false), (c_q29, true), (c_q30, true), (c_q42, true), (c_q39, false), (c_q40, true)]
set_option maxRecDepth 100000 in
theorem c_y125 : yesOf Try.prog (knownV (tellA c_u125) tab specs overs) 8000 80 5 [.sbits (.var 0), .sbits (.var 10), .sbits (.var 20)] (globSt g0) = true := by kernel_rfl
abbrev c_u126 : List (Q × Bool) := [(c_q0, true), (c_q4, true), (c_q5, true), (c_q6, false), (c_q22, false), (c_q35, true), (c_q36, true), (c_q37, true), (c_q38, true), (c_q2, true), (c_q3, true), (c_q9, true), (c_q10, false), (c_q11, true), (c_q12, false), (c_q13, true), (c_q14, true), (c_q15, true), (c_q16, true), (c_q17, true), (c_q18, true), (c_q19, false), (c_q24, false), (c_q29, true), (c_q30, true), (c_q42, true), (c_q39, true), (c_q40, true)]
set_option maxRecDepth 100000 in
theorem c_y126 : yesOf Try.prog (knownV (tellA c_u126) tab specs overs) 8000 80 5 [.sbits (.var 0), .sbits (.var 10), .sbits (.var 20)] (globSt g0) = true := by kernel_rfl
abbrev c_u127 : List (Q × Bool) := [(c_q0, true), (c_q4, true), (c_q5, true), (c_q6, false), (c_q22, true), (c_q2, true), (c_q3, true), (c_q9, false), (c_q10, true), (c_q11, true), (c_q12, false), (c_q13, true), (c_q14, true), (c_q15, false), (c_q23, true), (c_q16, true), (c_q17, false), (c_q25, false), (c_q26, true)]
set_option maxRecDepth 100000 in
theorem c_y127 : yesOf Try.prog (knownV (tellA c_u127) tab specs overs) 8000 80 5 [.sbits (.var 0), .sbits (.var 10), .sbits (.var 20)] (globSt g0) = true := by kernel_rfl
abbrev c_u128 : List (Q × Bool) := [(c_q0, true), (c_q4, true), (c_q5, true), (c_q6, false), (c_q22, true), (c_q2, true), (c_q3, true), (c_q9, false), (c_q10, true), (c_q11, true), (c_q12, false), (c_q13, true), (c_q14, true), (c_q15, false), (c_q23, true), (c_q16, true), (c_q17, true), (c_q18, true), (c_q19, true), (c_q25, true), (c_q26, true)]
set_option maxRecDepth 100000 in
theorem c_y128 : yesOf Try.prog (knownV (tellA c_u128) tab specs overs) 8000 80 5 [.sbits (.var 0), .sbits (.var 10), .sbits (.var 20)] (globSt g0) = true := by kernel_rfl
abbrev c_u129 : List (Q × Bool) := [(c_q0, true), (c_q4, true), (c_q5, true), (c_q6, false), (c_q22, true), (c_q2, true), (c_q3, true), (c_q9, true), (c_q10, false), (c_q11, false), (c_q12, true), (c_q13, false), (c_q16, true), (c_q17, true), (c_q18, true), (c_q19, false), (c_q24, true), (c_q25, true), (c_q26, true)]
set_option maxRecDepth 100000 in
theorem c_y129 : yesOf Try.prog (knownV (tellA c_u129) tab specs overs) 8000 80 5 [.sbits (.var 0), .sbits (.var 10), .sbits (.var 20)] (globSt g0) = true := by kernel_rfl
abbrev c_u130 : List (Q × Bool) := [(c_q0, true), (c_q4, true), (c_q5, true), (c_q6, false), (c_q22, true), (c_q2, true), (c_q3, true), (c_q9, true), (c_q10, false), (c_q11, false), (c_q12, true), (c_q13, true), (c_q14, true), (c_q15, false), (c_q23, false), (c_q32, true), (c_q33, true), (c_q34, true), (c_q16, true), (c_q17, true), (c_q18, true), (c_q19, false), (c_q24, true), (c_q25, false), (c_q26, true)]
set_option maxRecDepth 100000 in
theorem c_y130 : yesOf Try.prog (knownV (tellA c_u130) tab specs overs) 8000 80 5 [.sbits (.var 0), .sbits (.var 10), .sbits (.var 20)] (globSt g0) = true := by kernel_rfl
abbrev c_u131 : List (Q × Bool) := [(c_q0, true), (c_q4, true), (c_q5, true), (c_q6, false), (c_q22, true), (c_q2, true), (c_q3, true), (c_q9, true), (c_q10, false), (c_q11, false), (c_q12, true), (c_q13, true), (c_q14, true), (c_q15, true), (c_q16, true), (c_q17, true), (c_q18, true), (c_q19, false), (c_q24, true), (c_q25, false), (c_q26, false), (c_q43, true)]
set_option maxRecDepth 100000 in
theorem c_y131 : yesOf Try.prog (knownV (tellA c_u131) tab specs overs) 8000 80 5 [.sbits (.var 0), .sbits (.var 10), .sbits (.var 20)] (globSt g0) = true := by kernel_rfl
abbrev c_u132 : List (Q × Bool) := [(c_q0, true), (c_q4, true), (c_q5, true), (c_q6, false), (c_q22, true), (c_q2, true), (c_q3, true), (c_q9, true), (c_q10, false), (c_q11, false), (c_q12, true), (c_q13, true), (c_q14, true), (c_q15, true), (c_q16, true), (c_q17, true), (c_q18, true), (c_q19, false), (c_q24, true), (c_q25, true), (c_q26, true)]
set_option maxRecDepth 100000 in
theorem c_y132 : yesOf Try.prog (knownV (tellA c_u132) tab specs overs) 8000 80 5 [.sbits (.var 0), .sbits (.var 10), .sbits (.var 20)] (globSt g0) = true := by kernel_rfl
abbrev c_u133 : List (Q × Bool) := [(c_q0, true), (c_q4, true), (c_q5, true), (c_q6, false), (c_q22, true), (c_q2, true), (c_q3, true), (c_q9, true), (c_q10, false), (c_q11, true), (c_q12, false), (c_q13, false), (c_q16, true), (c_q17, true), (c_q18, true), (c_q19, false), (c_q24, false), (c_q29, true), (c_q30, true), (c_q31, true), (c_q25, true), (c_q26, false)]
set_option maxRecDepth 100000 in
theorem c_y133 : yesOf Try.prog (knownV (tellA c_u133) tab specs overs) 8000 80 5 [.sbits (.var 0), .sbits (.var 10), .sbits (.var 20)] (globSt g0) = true := by kernel_rfl
abbrev c_u134 : List (Q × Bool) := [(c_q0, true), (c_q4, true), (c_q5, true), (c_q6, false), (c_q22, true), (c_q2, true), (c_q3, true), (c_q9, true), (c_q10, false), (c_q11, true), (c_q12, false), (c_q13, false), (c_q16, true), (c_q17, true), (c_q18, true), (c_q19, false), (c_q24, false), (c_q29, true), (c_q30, true), (c_q31, true), (c_q25, false), (c_q26, true)]
set_option maxRecDepth 100000 in
theorem c_y134 : yesOf Try.prog (knownV (tellA c_u134) tab specs overs) 8000 80 5 [.sbits (.var 0), .sbits (.var 10), .sbits (.var 20)] (globSt g0) = true := by kernel_rfl
abbrev c_u135 : List (Q × Bool) := [(c_q0, true), (c_q4, true), (c_q5, true), (c_q6, false), (c_q22, true), (c_q2, true), (c_q3, true), (c_q9, true), (c_q10, false), (c_q11, true), (c_q12, false), (c_q13, false), (c_q16, true), (c_q17, true), (c_q18, true), (c_q19, false), (c_q24, true), (c_q25, true), (c_q26, true)]
set_option maxRecDepth 100000 in
theorem c_y135 : yesOf Try.prog (knownV (tellA c_u135) tab specs overs) 8000 80 5 [.sbits (.var 0), .sbits (.var 10), .sbits (.var 20)] (globSt g0) = true := by kernel_rfl
abbrev c_u136 : List (Q × Bool) := [(c_q0, true), (c_q4, true), (c_q5, true), (c_q6, false), (c_q22, true), (c_q2, true), (c_q3, true), (c_q9, true), (c_q10, false), (c_q11, true), (c_q12, false), (c_q13, true), (c_q14, true), (c_q15, false), (c_q23, false), (c_q32, true), (c_q33, true), (c_q34, true), (c_q16, true), (c_q17, true), (c_q18, true), (c_q19, false), (c_q24, true), (c_q25, true), (c_q26, true)]
set_option maxRecDepth 100000 in
theorem c_y136 : yesOf Try.prog (knownV (tellA c_u136) tab specs overs) 8000 80 5 [.sbits (.var 0), .sbits (.var 10), .sbits (.var 20)] (globSt g0) = true := by kernel_rfl
abbrev c_u137 : List (Q × Bool) := [(c_q0, true), (c_q4, true), (c_q5, true), (c_q6, false), (c_q22, true), (c_q2, true), (c_q3, true), (c_q9, true), (c_q10, false), (c_q11, true), (c_q12, false), (c_q13, true), (c_q14, true), (c_q15, true), (c_q16, true), (c_q17, true), (c_q18, true), (c_q19, false), (c_q24, true), (c_q25, true), (c_q26, false)]
set_option maxRecDepth 100000 in
theorem c_y137 : yesOf Try.prog (knownV (tellA c_u137) tab specs overs) 8000 80 5 [.sbits (.var 0), .sbits (.var 10), .sbits (.var 20)] (globSt g0) = true := by kernel_rfl
abbrev c_u138 : List (Q × Bool) := [(c_q0, true), (c_q4, true), (c_q5, true), (c_q6, false), (c_q22, true), (c_q2, true), (c_q3, true), (c_q9, true), (c_q10, false), (c_q11, true), (c_q12, false), (c_q13, true), (c_q14, true), (c_q15, true), (c_q16, true), (c_q17, true), (c_q18, true), (c_q19, false), (c_q24, false), (c_q29, true), (c_q30, true), (c_q31, true), (c_q25, true), (c_q26, true)]
set_option maxRecDepth 100000 in
theorem c_y138 : yesOf Try.prog (knownV (tellA c_u138) tab specs overs) 8000 80 5 [.sbits (.var 0), .sbits (.var 10), .sbits (.var 20)] (globSt g0) = true := by kernel_rfl
abbrev c_u139 : List (Q × Bool) := [(c_q0, true), (c_q4, true), (c_q5, true), (c_q6, false), (c_q22, false), (c_q35, true), (c_q36, true), (c_q37, true), (c_q38, true), (c_q2, true), (c_q3, true), (c_q9, true), (c_q10, false), (c_q11, false), (c_q12, true), (c_q13, true), (c_q14, true), (c_q15, true), (c_q16, true), (c_q17, true), (c_q18, true), (c_q19, false), (c_q24, false), (c_q29, true), (c_q30, true), (c_q42, true), (c_q39, false), (c_q40, false), (c_q44, false), (c_q43, true)]
set_option maxRecDepth 100000 in
theorem c_y139 : yesOf Try.prog (knownV (tellA c_u139) tab specs overs) 8000 80 5 [.sbits (.var 0), .sbits (.var 10), .sbits (.var 20)] (globSt g0) = true := by kernel_rfl
abbrev c_u140 : List (Q × Bool) := [(c_q0, true), (c_q4, true), (c_q5, true), (c_q6, false), (c_q22, false), (c_q35, true), (c_q36, true), (c_q37, true), (c_q38, true), (c_q2, true), (c_q3, true), (c_q9, true), (c_q10, false), (c_q11, true), (c_q12, false), (c_q13, true), (c_q14, true), (c_q15, true), (c_q16, true), (c_q17, true), (c_q18, true), (c_q19, false), (c_q24, false), (c_q29, true), (c_q30, true), (c_q42, true), (c_q39, false), (c_q40, false), (c_q44, false), (c_q43, true)]
set_option maxRecDepth 100000 in
theorem c_y140 : yesOf Try.prog (knownV (tellA c_u140) tab specs overs) 8000 80 5 [.sbits (.var 0), .sbits (.var 10), .sbits (.var 20)] (globSt g0) = true := by kernel_rfl
abbrev c_u141 : List (Q × Bool) := [(c_q0, true), (c_q4, true), (c_q5, true), (c_q6, false), (c_q22, true), (c_q2, true), (c_q3, true), (c_q9, true), (c_q10, false), (c_q11, true), (c_q12, false), (c_q13, true), (c_q14, true), (c_q15, false), (c_q23, false), (c_q32, true), (c_q33, true), (c_q34, true), (c_q16, true), (c_q17, true), (c_q18, true), (c_q19, false), (c_q24, true), (c_q25, false), (c_q26, false), (c_q43, true)]
set_option maxRecDepth 100000 in
theorem c_y141 : yesOf Try.prog (knownV (tellA c_u141) tab specs overs) 8000 80 5 [.sbits (.var 0), .sbits (.var 10), .sbits (.var 20)] (globSt g0) = true := by kernel_rfl
abbrev c_u142 : List (Q × Bool) := [(c_q0, true), (c_q4, true), (c_q5, true), (c_q6, false), (c_q22, true), (c_q2, true), (c_q3, true), (c_q9, true), (c_q10, false), (c_q11, true), (c_q12, false), (c_q13, true), (c_q14, true), (c_q15, true), (c_q16, true), (c_q17, true), (c_q18, true), (c_q19, false), (c_q24, false), (c_q29, true), (c_q30, true), (c_q31, true), (c_q25, false), (c_q26, false), (c_q43, true)]
set_option maxRecDepth 100000 in
theorem c_y142 : yesOf Try.prog (knownV (tellA c_u142) tab specs overs) 8000 80 5 [.sbits (.var 0), .sbits (.var 10), .sbits (.var 20)] (globSt g0) = true := by kernel_rfl
abbrev c_u143 : List (Q × Bool) := [(c_q0, true), (c_q4, true), (c_q5, true), (c_q6, false), (c_q22, false), (c_q35, true), (c_q36, true), (c_q37, true), (c_q38, true), (c_q2, true), (c_q3, true), (c_q9, true), (c_q10, false), (c_q11, true), (c_q12, false), (c_q13, true), (c_q14, true), (c_q15, true), (c_q16, true), (c_q17, true), (c_q18, true), (c_q19, false), (c_q24, false), (c_q29, true), (c_q30, true), (c_q42, true), (c_q39, false), (c_q40, true)]
set_option maxRecDepth 100000 in
theorem c_y143 : yesOf Try.prog (knownV (tellA c_u143) tab specs overs) 8000 80 5 [.sbits (.var 0), .sbits (.var 10), .sbits (.var 20)] (globSt g0) = true := by kernel_rfl
abbrev c_u144 : List (Q × Bool) := [(c_q0, true), (c_q4, true), (c_q5, true), (c_q6, false), (c_q22, false), (c_q35, true), (c_q36, true), (c_q37, true), (c_q38, true), (c_q2, true), (c_q3, true), (c_q9, true), (c_q10, false), (c_q11, true), (c_q12, false), (c_q13, true), (c_q14, true), (c_q15, true), (c_q16, true), (c_q17, true), (c_q18, true), (c_q19, false), (c_q24, false), (c_q29, true), (c_q30, true), (c_q42, true), (c_q39, false), (c_q40, false), (c_q44, true)]
set_option maxRecDepth 100000 in
theorem c_y144 : yesOf Try.prog (knownV (tellA c_u144) tab specs overs) 8000 80 5 [.sbits (.var 0), .sbits (.var 10), .sbits (.var 20)] (globSt g0) = true := by kernel_rfl
abbrev c_u145 : List (Q × Bool) := [(c_q0, true), (c_q4, true), (c_q5, true), (c_q6, false), (c_q22, true), (c_q2, true), (c_q3, true), (c_q9, true), (c_q10, false), (c_q11, false), (c_q12, true), (c_q13, true), (c_q14, true), (c_q15, true), (c_q16, true), (c_q17, true), (c_q18, true), (c_q19, false), (c_q24, true), (c_q25, false), (c_q26, true)]
set_option maxRecDepth 100000 in
theorem c_y145 : yesOf Try.prog (knownV (tellA c_u145) tab specs overs) 8000 80 5 [.sbits (.var 0), .sbits (.var 10), .sbits (.var 20)] (globSt g0) = true := by kernel_rfl
abbrev c_u146 : List (Q × Bool) := [(c_q0, true), (c_q4, true), (c_q5, true), (c_q6, false), (c_q22, true), (c_q2, true), (c_q3, true), (c_q9, true), (c_q10, false), (c_q11, true), (c_q12, false), (c_q13, false), (c_q16, true), (c_q17, true), (c_q18, true), (c_q19, false), (c_q24, false), (c_q29, true), (c_q30, true), (c_q31, true), (c_q25, true), (c_q26, true)]
set_option maxRecDepth 100000 in
theorem c_y146 : yesOf Try.prog (knownV (tellA c_u146) tab specs overs) 8000 80 5 [.sbits (.var 0), .sbits (.var 10), .sbits (.var 20)] (globSt g0) = true := by kernel_rfl
abbrev c_u147 : List (Q × Bool) := [(c_q0, true), (c_q4, true), (c_q5, true), (c_q6, false), (c_q22, true), (c_q2, true), (c_q3, true), (c_q9, true), (c_q10, false), (c_q11, true), (c_q12, false), (c_q13, true), (c_q14, true), (c_q15, false), (c_q23, false), (c_q32, true), (c_q33, true), (c_q34, true), (c_q16, true), (c_q17, true), (c_q18, true), (c_q19, false), (c_q24, true), (c_q25, false), (c_q26, true)]
set_option maxRecDepth 100000 in
theorem c_y147 : yesOf Try.prog (knownV (tellA c_u147) tab specs overs) 8000 80 5 [.sbits (.var 0), .sbits (.var 10), .sbits (.var 20)] (globSt g0) = true := by kernel_rfl
abbrev c_u148 : List (Q × Bool) := [(c_q0, true), (c_q4, true), (c_q5, true), (c_q6, false), (c_q22, true), (c_q2, true), (c_q3, true), (c_q9, true), (c_q10, false), (c_q11, true), (c_q12, false), (c_q13, true), (c_q14, true), (c_q15, true), (c_q16, true), (c_q17, true), (c_q18, true), (c_q19, false), (c_q24, false), (c_q29, true), (c_q30, true), (c_q31, true), (c_q25, false), (c_q26, true)]
set_option maxRecDepth 100000 in
theorem c_y148 : yesOf Try.prog (knownV (tellA c_u148) tab specs overs) 8000 80 5 [.sbits (.var 0), .sbits (.var 10), .sbits (.var 20)] (globSt g0) = true := by kernel_rfl
abbrev c_u149 : List (Q × Bool) := [(c_q0, true), (c_q4, true), (c_q5, true), (c_q6, false), (c_q22, true), (c_q2, true), (c_q3, true), (c_q9, true), (c_q10, false), (c_q11, true), (c_q12, false), (c_q13, true), (c_q14, true), (c_q15, true), (c_q16, true), (c_q17, true), (c_q18, true), (c_q19, false), (c_q24, true), (c_q25, true), (c_q26, true)]
set_option maxRecDepth 100000 in
theorem c_y149 : yesOf Try.prog (knownV (tellA c_u149) tab specs overs) 8000 80 5 [.sbits (.var 0), .sbits (.var 10), .sbits (.var 20)] (globSt g0) = true := by kernel_rfl
abbrev c_u150 : List (Q × Bool) := [(c_q0, true), (c_q4, true), (c_q5, true), (c_q6, false), (c_q22, true), (c_q2, true), (c_q3, true), (c_q9, true), (c_q10, false), (c_q11, true), (c_q12, false), (c_q13, true), (c_q14, true), (c_q15, true), (c_q16, true), (c_q17, true), (c_q18, true), (c_q19, false), (c_q24, true), (c_q25, false), (c_q26, false), (c_q43, true)]
set_option maxRecDepth 100000 in
theorem c_y150 : yesOf Try.prog (knownV (tellA c_u150) tab specs overs) 8000 80 5 [.sbits (.var 0), .sbits (.var 10), .sbits (.var 20)] (globSt g0) = true := by kernel_rfl
abbrev c_u151 : List (Q × Bool) := [(c_q0, true), (c_q4, true), (c_q5, true), (c_q6, false), (c_q22, true), (c_q2, true), (c_q3, true), (c_q9, true), (c_q10, false), (c_q11, true), (c_q12, false), (c_q13, true), (c_q14, true), (c_q15, true), (c_q16, true), (c_q17, true), (c_q18, true), (c_q19, false), (c_q24, true), (c_q25, false), (c_q26, true)]
set_option maxRecDepth 100000 in
theorem c_y151 : yesOf Try.prog (knownV (tellA c_u151) tab specs overs) 8000 80 5 [.sbits (.var 0), .sbits (.var 10), .sbits (.var 20)] (globSt g0) = true := by kernel_rfl
end Go.Proofs.Ytgfaopbifonacaa.ratioRises
