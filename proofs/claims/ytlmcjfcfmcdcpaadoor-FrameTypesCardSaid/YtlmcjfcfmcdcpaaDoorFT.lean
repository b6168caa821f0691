/-
  The law FrameTypes of the layer frame holds of the code: for all inputs the call returns true, and the arguments read as they did. No condition; the package variables that it reads are as the program's text lays them (the card ties them).
-/
import Derived.Test.YtlmcjfcfmcdcpaaDoorCo
import Derived.Test.YtlmcjfcfmcdcpaaDoorSycp
import Derived.Test.YtlmcjfcfmcdcpaaDoorSyag
import Derived.Test.YtlmcjfcfmcdcpaaDoorQt
import Derived.Test.YtlmcjfcfmcdcpaaDoorGa
import Derived.Test.YtlmcjfcfmcdcpaaDoorFa
import Derived.Test.YtlmcjfcfmcdcpaaDoorCards
import Derived.Test.YtlmcjfcfmcdcpaaDoorTie
import Derived.SevenTiedAt
import Derived.WalkKit
import Derived.ProofKit
import Derived.OpenShut
set_option linter.unusedSimpArgs false
set_option linter.unusedVariables false
namespace Go.Proofs.YtlmcjfcfmcdcpaaDoor.frameTypes
open Go.ChangeShapes Go.WideShapes Go.ChangeAt Go.RowKit Go.Ev Go.Proofs.YtlmcjfcfmcdcpaaDoor.Co Go.Proofs.YtlmcjfcfmcdcpaaDoor.Qt Go.Proofs.YtlmcjfcfmcdcpaaDoor.Ga Go.Proofs.YtlmcjfcfmcdcpaaDoor.Fa

def om (n0 : Int) (n1 : Int) (n2 : Int) (n3 : Int) (n4 : Int) (len5 cap5 : Nat) (zs5 : List Int) (n6 : Int) : Om := ⟨fun _ => .bool false, fun i => if i = 0 then .int n0 else if i = 10 then .int n1 else if i = 20 then .int n2 else if i = 30 then .int n3 else if i = 40 then .int n4 else if i = 50 then .int len5 else if i = 51 then .int cap5 else if i = 52 then D.ofInts zs5 else if i = 60 then .int n6 else .int 0, F⟩
theorem om_0 (n0 : Int) (n1 : Int) (n2 : Int) (n3 : Int) (n4 : Int) (len5 cap5 : Nat) (zs5 : List Int) (n6 : Int) : (om n0 n1 n2 n3 n4 len5 cap5 zs5 n6).d 0 = .int n0 := rfl
theorem om_10 (n0 : Int) (n1 : Int) (n2 : Int) (n3 : Int) (n4 : Int) (len5 cap5 : Nat) (zs5 : List Int) (n6 : Int) : (om n0 n1 n2 n3 n4 len5 cap5 zs5 n6).d 10 = .int n1 := rfl
theorem om_20 (n0 : Int) (n1 : Int) (n2 : Int) (n3 : Int) (n4 : Int) (len5 cap5 : Nat) (zs5 : List Int) (n6 : Int) : (om n0 n1 n2 n3 n4 len5 cap5 zs5 n6).d 20 = .int n2 := rfl
theorem om_30 (n0 : Int) (n1 : Int) (n2 : Int) (n3 : Int) (n4 : Int) (len5 cap5 : Nat) (zs5 : List Int) (n6 : Int) : (om n0 n1 n2 n3 n4 len5 cap5 zs5 n6).d 30 = .int n3 := rfl
theorem om_40 (n0 : Int) (n1 : Int) (n2 : Int) (n3 : Int) (n4 : Int) (len5 cap5 : Nat) (zs5 : List Int) (n6 : Int) : (om n0 n1 n2 n3 n4 len5 cap5 zs5 n6).d 40 = .int n4 := rfl
theorem om_50 (n0 : Int) (n1 : Int) (n2 : Int) (n3 : Int) (n4 : Int) (len5 cap5 : Nat) (zs5 : List Int) (n6 : Int) : (om n0 n1 n2 n3 n4 len5 cap5 zs5 n6).d 50 = .int len5 := rfl
theorem om_51 (n0 : Int) (n1 : Int) (n2 : Int) (n3 : Int) (n4 : Int) (len5 cap5 : Nat) (zs5 : List Int) (n6 : Int) : (om n0 n1 n2 n3 n4 len5 cap5 zs5 n6).d 51 = .int cap5 := rfl
theorem om_52 (n0 : Int) (n1 : Int) (n2 : Int) (n3 : Int) (n4 : Int) (len5 cap5 : Nat) (zs5 : List Int) (n6 : Int) : (om n0 n1 n2 n3 n4 len5 cap5 zs5 n6).d 52 = D.ofInts zs5 := rfl
theorem om_60 (n0 : Int) (n1 : Int) (n2 : Int) (n3 : Int) (n4 : Int) (len5 cap5 : Nat) (zs5 : List Int) (n6 : Int) : (om n0 n1 n2 n3 n4 len5 cap5 zs5 n6).d 60 = .int n6 := rfl
theorem om_f (n0 : Int) (n1 : Int) (n2 : Int) (n3 : Int) (n4 : Int) (len5 cap5 : Nat) (zs5 : List Int) (n6 : Int) : (om n0 n1 n2 n3 n4 len5 cap5 zs5 n6).f = F := rfl

theorem err0 {t s b q a l : Int} : errI t s b q a l = 0 → (1 ≤ t ∧ t ≤ 5 ∧ 0 ≤ s ∧ s ≤ 2147483647 ∧ 0 ≤ b ∧ b ≤ 2147483647 ∧ 0 ≤ q ∧ q ≤ 2147483647 ∧ 0 ≤ a ∧ a ≤ 2147483647 ∧ l ≤ 1400 ∧ saysP t s b q a l) := by
  unfold errI rangeP
  by_cases hs : saysP t s b q a l
  · simp only [hs, if_true, and_true]
    repeat' split
    all_goals omega
  · simp only [hs, if_false]
    repeat' split
    all_goals omega
theorem err1 {t s b q a l : Int} (h : 1 ≤ t ∧ t ≤ 5 ∧ 0 ≤ s ∧ s ≤ 2147483647 ∧ 0 ≤ b ∧ b ≤ 2147483647 ∧ 0 ≤ q ∧ q ≤ 2147483647 ∧ 0 ≤ a ∧ a ≤ 2147483647 ∧ l ≤ 1400) : errI t s b q a l = if saysP t s b q a l then 0 else 2 := by
  unfold errI rangeP
  rw [if_neg (by omega), if_neg (by omega), if_neg (by omega)]

abbrev c_emp_q0 : Q := (.eq (.fn 11 (.bi .pair (.var 0) (.bi .pair (.var 10) (.bi .pair (.var 20) (.bi .pair (.var 30) (.bi .pair (.var 40) (.bi .pair (.int 0) (.int 0)))))))) (.int 0))
abbrev c_emp_q1 : Q := (.eq (.var 0) (.int 3))
abbrev c_emp_q2 : Q := (.le (.int 1) (.var 10))
abbrev c_emp_q3 : Q := (.le (.var 30) (.int 0))
abbrev c_emp_q4 : Q := (.eq (.var 0) (.int 1))
abbrev c_emp_q5 : Q := (.eq (.var 20) (.int 0))
abbrev c_emp_q6 : Q := (.eq (.var 0) (.int 4))
abbrev c_emp_q7 : Q := (.eq (.var 40) (.int 0))
abbrev c_emp_q8 : Q := (.le (.int 1) (.var 60))
abbrev c_emp_q9 : Q := (.eq (.fn 11 (.bi .pair (.var 60) (.bi .pair (.var 10) (.bi .pair (.var 20) (.bi .pair (.var 30) (.bi .pair (.var 40) (.bi .pair (.int 0) (.int 0)))))))) (.int 213))
abbrev c_emp_q10 : Q := (.le (.var 60) (.int 5))
abbrev c_emp_q11 : Q := (.eq (.var 30) (.int 0))
abbrev c_emp_q12 : Q := (.eq (.var 60) (.int 1))
abbrev c_emp_q13 : Q := (.eq (.fn 11 (.bi .pair (.var 60) (.bi .pair (.var 10) (.bi .pair (.var 20) (.bi .pair (.var 30) (.bi .pair (.var 40) (.bi .pair (.int 0) (.int 0)))))))) (.int 0))
abbrev c_emp_q14 : Q := (.eq (.var 60) (.int 2))
abbrev c_emp_q15 : Q := (.le (.var 20) (.int 0))
abbrev c_emp_q16 : Q := (.eq (.fn 11 (.bi .pair (.var 60) (.bi .pair (.var 10) (.bi .pair (.var 20) (.bi .pair (.var 30) (.bi .pair (.var 40) (.bi .pair (.int 0) (.int 0)))))))) (.int 2))
abbrev c_emp_q17 : Q := (.eq (.var 60) (.int 3))
abbrev c_emp_q18 : Q := (.eq (.var 60) (.int 4))
abbrev c_emp_q19 : Q := (.eq (.var 60) (.int 5))
abbrev c_emp_q20 : Q := (.eq (.var 0) (.int 5))
abbrev c_emp_u0 : List (Q × Bool) := [(c_emp_q0, false)]
set_option maxRecDepth 100000 in
theorem c_emp_y0 : yesOf Tryd.prog (knownV (tellA c_emp_u0) tabT specsT oversT) 8000 80 8 [.agg [.sint .i64 (.var 0), .sint .i64 (.var 10), .sint .i64 (.var 20), .sint .i64 (.var 30), .sint .i64 (.var 40), .empty], .sint .i64 (.var 60)] (globSt g0) = true := by kernel_rfl
abbrev c_emp_u1 : List (Q × Bool) := [(c_emp_q0, true), (c_emp_q1, false), (c_emp_q2, true), (c_emp_q3, true), (c_emp_q4, true), (c_emp_q5, true), (c_emp_q6, false), (c_emp_q7, true), (c_emp_q8, false), (c_emp_q9, true)]
set_option maxRecDepth 100000 in
theorem c_emp_y1 : yesOf Tryd.prog (knownV (tellA c_emp_u1) tabT specsT oversT) 8000 80 8 [.agg [.sint .i64 (.var 0), .sint .i64 (.var 10), .sint .i64 (.var 20), .sint .i64 (.var 30), .sint .i64 (.var 40), .empty], .sint .i64 (.var 60)] (globSt g0) = true := by kernel_rfl
abbrev c_emp_u2 : List (Q × Bool) := [(c_emp_q0, true), (c_emp_q1, false), (c_emp_q2, true), (c_emp_q3, true), (c_emp_q4, true), (c_emp_q5, true), (c_emp_q6, false), (c_emp_q7, true), (c_emp_q8, true), (c_emp_q10, true), (c_emp_q11, true), (c_emp_q12, true), (c_emp_q13, true)]
set_option maxRecDepth 100000 in
theorem c_emp_y2 : yesOf Tryd.prog (knownV (tellA c_emp_u2) tabT specsT oversT) 8000 80 8 [.agg [.sint .i64 (.var 0), .sint .i64 (.var 10), .sint .i64 (.var 20), .sint .i64 (.var 30), .sint .i64 (.var 40), .empty], .sint .i64 (.var 60)] (globSt g0) = true := by kernel_rfl
abbrev c_emp_u3 : List (Q × Bool) := [(c_emp_q0, true), (c_emp_q1, false), (c_emp_q2, true), (c_emp_q3, true), (c_emp_q4, true), (c_emp_q5, true), (c_emp_q6, false), (c_emp_q7, true), (c_emp_q8, true), (c_emp_q10, true), (c_emp_q11, true), (c_emp_q12, false), (c_emp_q14, true), (c_emp_q15, true), (c_emp_q13, false), (c_emp_q16, true)]
set_option maxRecDepth 100000 in
theorem c_emp_y3 : yesOf Tryd.prog (knownV (tellA c_emp_u3) tabT specsT oversT) 8000 80 8 [.agg [.sint .i64 (.var 0), .sint .i64 (.var 10), .sint .i64 (.var 20), .sint .i64 (.var 30), .sint .i64 (.var 40), .empty], .sint .i64 (.var 60)] (globSt g0) = true := by kernel_rfl
abbrev c_emp_u4 : List (Q × Bool) := [(c_emp_q0, true), (c_emp_q1, false), (c_emp_q2, true), (c_emp_q3, true), (c_emp_q4, true), (c_emp_q5, true), (c_emp_q6, false), (c_emp_q7, true), (c_emp_q8, true), (c_emp_q10, true), (c_emp_q11, true), (c_emp_q12, false), (c_emp_q14, false), (c_emp_q17, true), (c_emp_q15, true), (c_emp_q13, false), (c_emp_q16, true)]
set_option maxRecDepth 100000 in
theorem c_emp_y4 : yesOf Tryd.prog (knownV (tellA c_emp_u4) tabT specsT oversT) 8000 80 8 [.agg [.sint .i64 (.var 0), .sint .i64 (.var 10), .sint .i64 (.var 20), .sint .i64 (.var 30), .sint .i64 (.var 40), .empty], .sint .i64 (.var 60)] (globSt g0) = true := by kernel_rfl
abbrev c_emp_u5 : List (Q × Bool) := [(c_emp_q0, true), (c_emp_q1, false), (c_emp_q2, true), (c_emp_q3, true), (c_emp_q4, true), (c_emp_q5, true), (c_emp_q6, false), (c_emp_q7, true), (c_emp_q8, true), (c_emp_q10, true), (c_emp_q11, true), (c_emp_q12, false), (c_emp_q14, false), (c_emp_q17, false), (c_emp_q18, true), (c_emp_q15, true), (c_emp_q13, false), (c_emp_q16, true)]
set_option maxRecDepth 100000 in
theorem c_emp_y5 : yesOf Tryd.prog (knownV (tellA c_emp_u5) tabT specsT oversT) 8000 80 8 [.agg [.sint .i64 (.var 0), .sint .i64 (.var 10), .sint .i64 (.var 20), .sint .i64 (.var 30), .sint .i64 (.var 40), .empty], .sint .i64 (.var 60)] (globSt g0) = true := by kernel_rfl
abbrev c_emp_u6 : List (Q × Bool) := [(c_emp_q0, true), (c_emp_q1, false), (c_emp_q2, true), (c_emp_q3, true), (c_emp_q4, true), (c_emp_q5, true), (c_emp_q6, false), (c_emp_q7, true), (c_emp_q8, true), (c_emp_q10, true), (c_emp_q11, true), (c_emp_q12, false), (c_emp_q14, false), (c_emp_q17, false), (c_emp_q18, false), (c_emp_q19, true), (c_emp_q13, true)]
set_option maxRecDepth 100000 in
theorem c_emp_y6 : yesOf Tryd.prog (knownV (tellA c_emp_u6) tabT specsT oversT) 8000 80 8 [.agg [.sint .i64 (.var 0), .sint .i64 (.var 10), .sint .i64 (.var 20), .sint .i64 (.var 30), .sint .i64 (.var 40), .empty], .sint .i64 (.var 60)] (globSt g0) = true := by kernel_rfl
abbrev c_emp_u7 : List (Q × Bool) := [(c_emp_q0, true), (c_emp_q1, false), (c_emp_q2, true), (c_emp_q3, true), (c_emp_q4, true), (c_emp_q5, true), (c_emp_q6, false), (c_emp_q7, true), (c_emp_q8, true), (c_emp_q10, false), (c_emp_q9, true)]
set_option maxRecDepth 100000 in
theorem c_emp_y7 : yesOf Tryd.prog (knownV (tellA c_emp_u7) tabT specsT oversT) 8000 80 8 [.agg [.sint .i64 (.var 0), .sint .i64 (.var 10), .sint .i64 (.var 20), .sint .i64 (.var 30), .sint .i64 (.var 40), .empty], .sint .i64 (.var 60)] (globSt g0) = true := by kernel_rfl
abbrev c_emp_u8 : List (Q × Bool) := [(c_emp_q0, true), (c_emp_q1, false), (c_emp_q2, true), (c_emp_q3, true), (c_emp_q4, false), (c_emp_q20, false), (c_emp_q5, false), (c_emp_q6, false), (c_emp_q7, true), (c_emp_q8, false), (c_emp_q9, true)]
set_option maxRecDepth 100000 in
theorem c_emp_y8 : yesOf Tryd.prog (knownV (tellA c_emp_u8) tabT specsT oversT) 8000 80 8 [.agg [.sint .i64 (.var 0), .sint .i64 (.var 10), .sint .i64 (.var 20), .sint .i64 (.var 30), .sint .i64 (.var 40), .empty], .sint .i64 (.var 60)] (globSt g0) = true := by kernel_rfl
abbrev c_emp_u9 : List (Q × Bool) := [(c_emp_q0, true), (c_emp_q1, false), (c_emp_q2, true), (c_emp_q3, true), (c_emp_q4, false), (c_emp_q20, false), (c_emp_q5, false), (c_emp_q6, false), (c_emp_q7, true), (c_emp_q8, true), (c_emp_q10, true), (c_emp_q11, true), (c_emp_q12, true), (c_emp_q13, false), (c_emp_q16, true)]
set_option maxRecDepth 100000 in
theorem c_emp_y9 : yesOf Tryd.prog (knownV (tellA c_emp_u9) tabT specsT oversT) 8000 80 8 [.agg [.sint .i64 (.var 0), .sint .i64 (.var 10), .sint .i64 (.var 20), .sint .i64 (.var 30), .sint .i64 (.var 40), .empty], .sint .i64 (.var 60)] (globSt g0) = true := by kernel_rfl
abbrev c_emp_u10 : List (Q × Bool) := [(c_emp_q0, true), (c_emp_q1, false), (c_emp_q2, true), (c_emp_q3, true), (c_emp_q4, false), (c_emp_q20, false), (c_emp_q5, false), (c_emp_q6, false), (c_emp_q7, true), (c_emp_q8, true), (c_emp_q10, true), (c_emp_q11, true), (c_emp_q12, false), (c_emp_q14, true), (c_emp_q15, false), (c_emp_q13, true)]
set_option maxRecDepth 100000 in
theorem c_emp_y10 : yesOf Tryd.prog (knownV (tellA c_emp_u10) tabT specsT oversT) 8000 80 8 [.agg [.sint .i64 (.var 0), .sint .i64 (.var 10), .sint .i64 (.var 20), .sint .i64 (.var 30), .sint .i64 (.var 40), .empty], .sint .i64 (.var 60)] (globSt g0) = true := by kernel_rfl
abbrev c_emp_u11 : List (Q × Bool) := [(c_emp_q0, true), (c_emp_q1, false), (c_emp_q2, true), (c_emp_q3, true), (c_emp_q4, false), (c_emp_q20, false), (c_emp_q5, false), (c_emp_q6, false), (c_emp_q7, true), (c_emp_q8, true), (c_emp_q10, true), (c_emp_q11, true), (c_emp_q12, false), (c_emp_q14, false), (c_emp_q17, true), (c_emp_q15, false), (c_emp_q13, false), (c_emp_q16, true)]
set_option maxRecDepth 100000 in
theorem c_emp_y11 : yesOf Tryd.prog (knownV (tellA c_emp_u11) tabT specsT oversT) 8000 80 8 [.agg [.sint .i64 (.var 0), .sint .i64 (.var 10), .sint .i64 (.var 20), .sint .i64 (.var 30), .sint .i64 (.var 40), .empty], .sint .i64 (.var 60)] (globSt g0) = true := by kernel_rfl
abbrev c_emp_u12 : List (Q × Bool) := [(c_emp_q0, true), (c_emp_q1, false), (c_emp_q2, true), (c_emp_q3, true), (c_emp_q4, false), (c_emp_q20, false), (c_emp_q5, false), (c_emp_q6, false), (c_emp_q7, true), (c_emp_q8, true), (c_emp_q10, true), (c_emp_q11, true), (c_emp_q12, false), (c_emp_q14, false), (c_emp_q17, false), (c_emp_q18, true), (c_emp_q15, false), (c_emp_q13, true)]
set_option maxRecDepth 100000 in
theorem c_emp_y12 : yesOf Tryd.prog (knownV (tellA c_emp_u12) tabT specsT oversT) 8000 80 8 [.agg [.sint .i64 (.var 0), .sint .i64 (.var 10), .sint .i64 (.var 20), .sint .i64 (.var 30), .sint .i64 (.var 40), .empty], .sint .i64 (.var 60)] (globSt g0) = true := by kernel_rfl
abbrev c_emp_u13 : List (Q × Bool) := [(c_emp_q0, true), (c_emp_q1, false), (c_emp_q2, true), (c_emp_q3, true), (c_emp_q4, false), (c_emp_q20, false), (c_emp_q5, false), (c_emp_q6, false), (c_emp_q7, true), (c_emp_q8, true), (c_emp_q10, true), (c_emp_q11, true), (c_emp_q12, false), (c_emp_q14, false), (c_emp_q17, false), (c_emp_q18, false), (c_emp_q19, true), (c_emp_q13, true)]
set_option maxRecDepth 100000 in
theorem c_emp_y13 : yesOf Tryd.prog (knownV (tellA c_emp_u13) tabT specsT oversT) 8000 80 8 [.agg [.sint .i64 (.var 0), .sint .i64 (.var 10), .sint .i64 (.var 20), .sint .i64 (.var 30), .sint .i64 (.var 40), .empty], .sint .i64 (.var 60)] (globSt g0) = true := by kernel_rfl
abbrev c_emp_u14 : List (Q × Bool) := [(c_emp_q0, true), (c_emp_q1, false), (c_emp_q2, true), (c_emp_q3, true), (c_emp_q4, false), (c_emp_q20, false), (c_emp_q5, false), (c_emp_q6, false), (c_emp_q7, true), (c_emp_q8, true), (c_emp_q10, false), (c_emp_q9, true)]
set_option maxRecDepth 100000 in
theorem c_emp_y14 : yesOf Tryd.prog (knownV (tellA c_emp_u14) tabT specsT oversT) 8000 80 8 [.agg [.sint .i64 (.var 0), .sint .i64 (.var 10), .sint .i64 (.var 20), .sint .i64 (.var 30), .sint .i64 (.var 40), .empty], .sint .i64 (.var 60)] (globSt g0) = true := by kernel_rfl
abbrev c_emp_u15 : List (Q × Bool) := [(c_emp_q0, true), (c_emp_q1, true), (c_emp_q2, true), (c_emp_q3, false), (c_emp_q4, false), (c_emp_q20, false), (c_emp_q5, false), (c_emp_q8, false), (c_emp_q9, true)]
set_option maxRecDepth 100000 in
theorem c_emp_y15 : yesOf Tryd.prog (knownV (tellA c_emp_u15) tabT specsT oversT) 8000 80 8 [.agg [.sint .i64 (.var 0), .sint .i64 (.var 10), .sint .i64 (.var 20), .sint .i64 (.var 30), .sint .i64 (.var 40), .empty], .sint .i64 (.var 60)] (globSt g0) = true := by kernel_rfl
abbrev c_emp_u16 : List (Q × Bool) := [(c_emp_q0, true), (c_emp_q1, true), (c_emp_q2, true), (c_emp_q3, false), (c_emp_q4, false), (c_emp_q20, false), (c_emp_q5, false), (c_emp_q8, true), (c_emp_q10, true), (c_emp_q11, false), (c_emp_q12, true), (c_emp_q13, false), (c_emp_q16, true)]
set_option maxRecDepth 100000 in
theorem c_emp_y16 : yesOf Tryd.prog (knownV (tellA c_emp_u16) tabT specsT oversT) 8000 80 8 [.agg [.sint .i64 (.var 0), .sint .i64 (.var 10), .sint .i64 (.var 20), .sint .i64 (.var 30), .sint .i64 (.var 40), .empty], .sint .i64 (.var 60)] (globSt g0) = true := by kernel_rfl
abbrev c_emp_u17 : List (Q × Bool) := [(c_emp_q0, true), (c_emp_q1, true), (c_emp_q2, true), (c_emp_q3, false), (c_emp_q4, false), (c_emp_q20, false), (c_emp_q5, false), (c_emp_q8, true), (c_emp_q10, true), (c_emp_q11, false), (c_emp_q12, false), (c_emp_q14, true), (c_emp_q13, false), (c_emp_q16, true)]
set_option maxRecDepth 100000 in
theorem c_emp_y17 : yesOf Tryd.prog (knownV (tellA c_emp_u17) tabT specsT oversT) 8000 80 8 [.agg [.sint .i64 (.var 0), .sint .i64 (.var 10), .sint .i64 (.var 20), .sint .i64 (.var 30), .sint .i64 (.var 40), .empty], .sint .i64 (.var 60)] (globSt g0) = true := by kernel_rfl
abbrev c_emp_u18 : List (Q × Bool) := [(c_emp_q0, true), (c_emp_q1, true), (c_emp_q2, true), (c_emp_q3, false), (c_emp_q4, false), (c_emp_q20, false), (c_emp_q5, false), (c_emp_q8, true), (c_emp_q10, true), (c_emp_q11, false), (c_emp_q12, false), (c_emp_q14, false), (c_emp_q17, true), (c_emp_q15, false), (c_emp_q13, true)]
set_option maxRecDepth 100000 in
theorem c_emp_y18 : yesOf Tryd.prog (knownV (tellA c_emp_u18) tabT specsT oversT) 8000 80 8 [.agg [.sint .i64 (.var 0), .sint .i64 (.var 10), .sint .i64 (.var 20), .sint .i64 (.var 30), .sint .i64 (.var 40), .empty], .sint .i64 (.var 60)] (globSt g0) = true := by kernel_rfl
abbrev c_emp_u19 : List (Q × Bool) := [(c_emp_q0, true), (c_emp_q1, true), (c_emp_q2, true), (c_emp_q3, false), (c_emp_q4, false), (c_emp_q20, false), (c_emp_q5, false), (c_emp_q8, true), (c_emp_q10, true), (c_emp_q11, false), (c_emp_q12, false), (c_emp_q14, false), (c_emp_q17, false), (c_emp_q18, true), (c_emp_q13, false), (c_emp_q16, true)]
set_option maxRecDepth 100000 in
theorem c_emp_y19 : yesOf Tryd.prog (knownV (tellA c_emp_u19) tabT specsT oversT) 8000 80 8 [.agg [.sint .i64 (.var 0), .sint .i64 (.var 10), .sint .i64 (.var 20), .sint .i64 (.var 30), .sint .i64 (.var 40), .empty], .sint .i64 (.var 60)] (globSt g0) = true := by kernel_rfl
abbrev c_emp_u20 : List (Q × Bool) := [(c_emp_q0, true), (c_emp_q1, true), (c_emp_q2, true), (c_emp_q3, false), (c_emp_q4, false), (c_emp_q20, false), (c_emp_q5, false), (c_emp_q8, true), (c_emp_q10, true), (c_emp_q11, false), (c_emp_q12, false), (c_emp_q14, false), (c_emp_q17, false), (c_emp_q18, false), (c_emp_q19, true), (c_emp_q13, false), (c_emp_q16, true)]
set_option maxRecDepth 100000 in
theorem c_emp_y20 : yesOf Tryd.prog (knownV (tellA c_emp_u20) tabT specsT oversT) 8000 80 8 [.agg [.sint .i64 (.var 0), .sint .i64 (.var 10), .sint .i64 (.var 20), .sint .i64 (.var 30), .sint .i64 (.var 40), .empty], .sint .i64 (.var 60)] (globSt g0) = true := by kernel_rfl
abbrev c_emp_u21 : List (Q × Bool) := [(c_emp_q0, true), (c_emp_q1, true), (c_emp_q2, true), (c_emp_q3, false), (c_emp_q4, false), (c_emp_q20, false), (c_emp_q5, false), (c_emp_q8, true), (c_emp_q10, false), (c_emp_q9, true)]
set_option maxRecDepth 100000 in
theorem c_emp_y21 : yesOf Tryd.prog (knownV (tellA c_emp_u21) tabT specsT oversT) 8000 80 8 [.agg [.sint .i64 (.var 0), .sint .i64 (.var 10), .sint .i64 (.var 20), .sint .i64 (.var 30), .sint .i64 (.var 40), .empty], .sint .i64 (.var 60)] (globSt g0) = true := by kernel_rfl
abbrev c_emp_u22 : List (Q × Bool) := [(c_emp_q0, true), (c_emp_q1, false), (c_emp_q2, true), (c_emp_q3, true), (c_emp_q4, false), (c_emp_q20, false), (c_emp_q5, false), (c_emp_q6, true), (c_emp_q8, false), (c_emp_q9, true)]
set_option maxRecDepth 100000 in
theorem c_emp_y22 : yesOf Tryd.prog (knownV (tellA c_emp_u22) tabT specsT oversT) 8000 80 8 [.agg [.sint .i64 (.var 0), .sint .i64 (.var 10), .sint .i64 (.var 20), .sint .i64 (.var 30), .sint .i64 (.var 40), .empty], .sint .i64 (.var 60)] (globSt g0) = true := by kernel_rfl
abbrev c_emp_u23 : List (Q × Bool) := [(c_emp_q0, true), (c_emp_q1, false), (c_emp_q2, true), (c_emp_q3, true), (c_emp_q4, false), (c_emp_q20, false), (c_emp_q5, false), (c_emp_q6, true), (c_emp_q8, true), (c_emp_q10, true), (c_emp_q11, true), (c_emp_q12, true), (c_emp_q13, false), (c_emp_q16, true)]
set_option maxRecDepth 100000 in
theorem c_emp_y23 : yesOf Tryd.prog (knownV (tellA c_emp_u23) tabT specsT oversT) 8000 80 8 [.agg [.sint .i64 (.var 0), .sint .i64 (.var 10), .sint .i64 (.var 20), .sint .i64 (.var 30), .sint .i64 (.var 40), .empty], .sint .i64 (.var 60)] (globSt g0) = true := by kernel_rfl
abbrev c_emp_u24 : List (Q × Bool) := [(c_emp_q0, true), (c_emp_q1, false), (c_emp_q2, true), (c_emp_q3, true), (c_emp_q4, false), (c_emp_q20, false), (c_emp_q5, false), (c_emp_q6, true), (c_emp_q8, true), (c_emp_q10, true), (c_emp_q11, true), (c_emp_q12, false), (c_emp_q14, true), (c_emp_q15, false), (c_emp_q7, true), (c_emp_q13, true)]
set_option maxRecDepth 100000 in
theorem c_emp_y24 : yesOf Tryd.prog (knownV (tellA c_emp_u24) tabT specsT oversT) 8000 80 8 [.agg [.sint .i64 (.var 0), .sint .i64 (.var 10), .sint .i64 (.var 20), .sint .i64 (.var 30), .sint .i64 (.var 40), .empty], .sint .i64 (.var 60)] (globSt g0) = true := by kernel_rfl
abbrev c_emp_u25 : List (Q × Bool) := [(c_emp_q0, true), (c_emp_q1, false), (c_emp_q2, true), (c_emp_q3, true), (c_emp_q4, false), (c_emp_q20, false), (c_emp_q5, false), (c_emp_q6, true), (c_emp_q8, true), (c_emp_q10, true), (c_emp_q11, true), (c_emp_q12, false), (c_emp_q14, false), (c_emp_q17, true), (c_emp_q15, false), (c_emp_q13, false), (c_emp_q16, true)]
set_option maxRecDepth 100000 in
theorem c_emp_y25 : yesOf Tryd.prog (knownV (tellA c_emp_u25) tabT specsT oversT) 8000 80 8 [.agg [.sint .i64 (.var 0), .sint .i64 (.var 10), .sint .i64 (.var 20), .sint .i64 (.var 30), .sint .i64 (.var 40), .empty], .sint .i64 (.var 60)] (globSt g0) = true := by kernel_rfl
abbrev c_emp_u26 : List (Q × Bool) := [(c_emp_q0, true), (c_emp_q1, false), (c_emp_q2, true), (c_emp_q3, true), (c_emp_q4, false), (c_emp_q20, false), (c_emp_q5, false), (c_emp_q6, true), (c_emp_q8, true), (c_emp_q10, true), (c_emp_q11, true), (c_emp_q12, false), (c_emp_q14, false), (c_emp_q17, false), (c_emp_q18, true), (c_emp_q15, false), (c_emp_q13, true)]
set_option maxRecDepth 100000 in
theorem c_emp_y26 : yesOf Tryd.prog (knownV (tellA c_emp_u26) tabT specsT oversT) 8000 80 8 [.agg [.sint .i64 (.var 0), .sint .i64 (.var 10), .sint .i64 (.var 20), .sint .i64 (.var 30), .sint .i64 (.var 40), .empty], .sint .i64 (.var 60)] (globSt g0) = true := by kernel_rfl
abbrev c_emp_u27 : List (Q × Bool) := [(c_emp_q0, true), (c_emp_q1, false), (c_emp_q2, true), (c_emp_q3, true), (c_emp_q4, false), (c_emp_q20, false), (c_emp_q5, false), (c_emp_q6, true), (c_emp_q8, true), (c_emp_q10, true), (c_emp_q11, true), (c_emp_q12, false), (c_emp_q14, false), (c_emp_q17, false), (c_emp_q18, false), (c_emp_q19, true), (c_emp_q7, true), (c_emp_q13, true)]
set_option maxRecDepth 100000 in
theorem c_emp_y27 : yesOf Tryd.prog (knownV (tellA c_emp_u27) tabT specsT oversT) 8000 80 8 [.agg [.sint .i64 (.var 0), .sint .i64 (.var 10), .sint .i64 (.var 20), .sint .i64 (.var 30), .sint .i64 (.var 40), .empty], .sint .i64 (.var 60)] (globSt g0) = true := by kernel_rfl
abbrev c_emp_u28 : List (Q × Bool) := [(c_emp_q0, true), (c_emp_q1, false), (c_emp_q2, true), (c_emp_q3, true), (c_emp_q4, false), (c_emp_q20, false), (c_emp_q5, false), (c_emp_q6, true), (c_emp_q8, true), (c_emp_q10, false), (c_emp_q9, true)]
set_option maxRecDepth 100000 in
theorem c_emp_y28 : yesOf Tryd.prog (knownV (tellA c_emp_u28) tabT specsT oversT) 8000 80 8 [.agg [.sint .i64 (.var 0), .sint .i64 (.var 10), .sint .i64 (.var 20), .sint .i64 (.var 30), .sint .i64 (.var 40), .empty], .sint .i64 (.var 60)] (globSt g0) = true := by kernel_rfl
abbrev c_emp_u29 : List (Q × Bool) := [(c_emp_q0, true), (c_emp_q1, false), (c_emp_q2, true), (c_emp_q3, true), (c_emp_q4, false), (c_emp_q20, false), (c_emp_q5, false), (c_emp_q6, true), (c_emp_q8, true), (c_emp_q10, true), (c_emp_q11, true), (c_emp_q12, false), (c_emp_q14, true), (c_emp_q15, false), (c_emp_q7, false), (c_emp_q13, false), (c_emp_q16, true)]
set_option maxRecDepth 100000 in
theorem c_emp_y29 : yesOf Tryd.prog (knownV (tellA c_emp_u29) tabT specsT oversT) 8000 80 8 [.agg [.sint .i64 (.var 0), .sint .i64 (.var 10), .sint .i64 (.var 20), .sint .i64 (.var 30), .sint .i64 (.var 40), .empty], .sint .i64 (.var 60)] (globSt g0) = true := by kernel_rfl
abbrev c_emp_u30 : List (Q × Bool) := [(c_emp_q0, true), (c_emp_q1, false), (c_emp_q2, true), (c_emp_q3, true), (c_emp_q4, false), (c_emp_q20, false), (c_emp_q5, false), (c_emp_q6, true), (c_emp_q8, true), (c_emp_q10, true), (c_emp_q11, true), (c_emp_q12, false), (c_emp_q14, false), (c_emp_q17, false), (c_emp_q18, false), (c_emp_q19, true), (c_emp_q7, false), (c_emp_q13, false), (c_emp_q16, true)]
set_option maxRecDepth 100000 in
theorem c_emp_y30 : yesOf Tryd.prog (knownV (tellA c_emp_u30) tabT specsT oversT) 8000 80 8 [.agg [.sint .i64 (.var 0), .sint .i64 (.var 10), .sint .i64 (.var 20), .sint .i64 (.var 30), .sint .i64 (.var 40), .empty], .sint .i64 (.var 60)] (globSt g0) = true := by kernel_rfl
abbrev c_emp_u31 : List (Q × Bool) := [(c_emp_q0, true), (c_emp_q1, false), (c_emp_q2, true), (c_emp_q3, true), (c_emp_q4, false), (c_emp_q20, true), (c_emp_q6, false), (c_emp_q7, true), (c_emp_q8, false), (c_emp_q9, true)]
set_option maxRecDepth 100000 in
theorem c_emp_y31 : yesOf Tryd.prog (knownV (tellA c_emp_u31) tabT specsT oversT) 8000 80 8 [.agg [.sint .i64 (.var 0), .sint .i64 (.var 10), .sint .i64 (.var 20), .sint .i64 (.var 30), .sint .i64 (.var 40), .empty], .sint .i64 (.var 60)] (globSt g0) = true := by kernel_rfl
abbrev c_emp_u32 : List (Q × Bool) := [(c_emp_q0, true), (c_emp_q1, false), (c_emp_q2, true), (c_emp_q3, true), (c_emp_q4, false), (c_emp_q20, true), (c_emp_q6, false), (c_emp_q7, true), (c_emp_q8, true), (c_emp_q10, true), (c_emp_q11, true), (c_emp_q12, true), (c_emp_q5, true), (c_emp_q13, true)]
set_option maxRecDepth 100000 in
theorem c_emp_y32 : yesOf Tryd.prog (knownV (tellA c_emp_u32) tabT specsT oversT) 8000 80 8 [.agg [.sint .i64 (.var 0), .sint .i64 (.var 10), .sint .i64 (.var 20), .sint .i64 (.var 30), .sint .i64 (.var 40), .empty], .sint .i64 (.var 60)] (globSt g0) = true := by kernel_rfl
abbrev c_emp_u33 : List (Q × Bool) := [(c_emp_q0, true), (c_emp_q1, false), (c_emp_q2, true), (c_emp_q3, true), (c_emp_q4, false), (c_emp_q20, true), (c_emp_q6, false), (c_emp_q7, true), (c_emp_q8, true), (c_emp_q10, true), (c_emp_q11, true), (c_emp_q12, false), (c_emp_q14, true), (c_emp_q15, true), (c_emp_q13, false), (c_emp_q16, true)]
set_option maxRecDepth 100000 in
theorem c_emp_y33 : yesOf Tryd.prog (knownV (tellA c_emp_u33) tabT specsT oversT) 8000 80 8 [.agg [.sint .i64 (.var 0), .sint .i64 (.var 10), .sint .i64 (.var 20), .sint .i64 (.var 30), .sint .i64 (.var 40), .empty], .sint .i64 (.var 60)] (globSt g0) = true := by kernel_rfl
abbrev c_emp_u34 : List (Q × Bool) := [(c_emp_q0, true), (c_emp_q1, false), (c_emp_q2, true), (c_emp_q3, true), (c_emp_q4, false), (c_emp_q20, true), (c_emp_q6, false), (c_emp_q7, true), (c_emp_q8, true), (c_emp_q10, true), (c_emp_q11, true), (c_emp_q12, false), (c_emp_q14, false), (c_emp_q17, true), (c_emp_q15, true), (c_emp_q13, false), (c_emp_q16, true)]
set_option maxRecDepth 100000 in
theorem c_emp_y34 : yesOf Tryd.prog (knownV (tellA c_emp_u34) tabT specsT oversT) 8000 80 8 [.agg [.sint .i64 (.var 0), .sint .i64 (.var 10), .sint .i64 (.var 20), .sint .i64 (.var 30), .sint .i64 (.var 40), .empty], .sint .i64 (.var 60)] (globSt g0) = true := by kernel_rfl
abbrev c_emp_u35 : List (Q × Bool) := [(c_emp_q0, true), (c_emp_q1, false), (c_emp_q2, true), (c_emp_q3, true), (c_emp_q4, false), (c_emp_q20, true), (c_emp_q6, false), (c_emp_q7, true), (c_emp_q8, true), (c_emp_q10, true), (c_emp_q11, true), (c_emp_q12, false), (c_emp_q14, false), (c_emp_q17, false), (c_emp_q18, true), (c_emp_q15, true), (c_emp_q13, false), (c_emp_q16, true)]
set_option maxRecDepth 100000 in
theorem c_emp_y35 : yesOf Tryd.prog (knownV (tellA c_emp_u35) tabT specsT oversT) 8000 80 8 [.agg [.sint .i64 (.var 0), .sint .i64 (.var 10), .sint .i64 (.var 20), .sint .i64 (.var 30), .sint .i64 (.var 40), .empty], .sint .i64 (.var 60)] (globSt g0) = true := by kernel_rfl
abbrev c_emp_u36 : List (Q × Bool) := [(c_emp_q0, true), (c_emp_q1, false), (c_emp_q2, true), (c_emp_q3, true), (c_emp_q4, false), (c_emp_q20, true), (c_emp_q6, false), (c_emp_q7, true), (c_emp_q8, true), (c_emp_q10, true), (c_emp_q11, true), (c_emp_q12, false), (c_emp_q14, false), (c_emp_q17, false), (c_emp_q18, false), (c_emp_q19, true), (c_emp_q13, true)]
set_option maxRecDepth 100000 in
theorem c_emp_y36 : yesOf Tryd.prog (knownV (tellA c_emp_u36) tabT specsT oversT) 8000 80 8 [.agg [.sint .i64 (.var 0), .sint .i64 (.var 10), .sint .i64 (.var 20), .sint .i64 (.var 30), .sint .i64 (.var 40), .empty], .sint .i64 (.var 60)] (globSt g0) = true := by kernel_rfl
abbrev c_emp_u37 : List (Q × Bool) := [(c_emp_q0, true), (c_emp_q1, false), (c_emp_q2, true), (c_emp_q3, true), (c_emp_q4, false), (c_emp_q20, true), (c_emp_q6, false), (c_emp_q7, true), (c_emp_q8, true), (c_emp_q10, false), (c_emp_q9, true)]
set_option maxRecDepth 100000 in
theorem c_emp_y37 : yesOf Tryd.prog (knownV (tellA c_emp_u37) tabT specsT oversT) 8000 80 8 [.agg [.sint .i64 (.var 0), .sint .i64 (.var 10), .sint .i64 (.var 20), .sint .i64 (.var 30), .sint .i64 (.var 40), .empty], .sint .i64 (.var 60)] (globSt g0) = true := by kernel_rfl
abbrev c_emp_u38 : List (Q × Bool) := [(c_emp_q0, true), (c_emp_q1, false), (c_emp_q2, true), (c_emp_q3, true), (c_emp_q4, false), (c_emp_q20, true), (c_emp_q6, false), (c_emp_q7, true), (c_emp_q8, true), (c_emp_q10, true), (c_emp_q11, true), (c_emp_q12, true), (c_emp_q5, false), (c_emp_q13, false), (c_emp_q16, true)]
set_option maxRecDepth 100000 in
theorem c_emp_y38 : yesOf Tryd.prog (knownV (tellA c_emp_u38) tabT specsT oversT) 8000 80 8 [.agg [.sint .i64 (.var 0), .sint .i64 (.var 10), .sint .i64 (.var 20), .sint .i64 (.var 30), .sint .i64 (.var 40), .empty], .sint .i64 (.var 60)] (globSt g0) = true := by kernel_rfl
abbrev c_emp_u39 : List (Q × Bool) := [(c_emp_q0, true), (c_emp_q1, false), (c_emp_q2, true), (c_emp_q3, true), (c_emp_q4, false), (c_emp_q20, true), (c_emp_q6, false), (c_emp_q7, true), (c_emp_q8, true), (c_emp_q10, true), (c_emp_q11, true), (c_emp_q12, false), (c_emp_q14, true), (c_emp_q15, false), (c_emp_q13, true)]
set_option maxRecDepth 100000 in
theorem c_emp_y39 : yesOf Tryd.prog (knownV (tellA c_emp_u39) tabT specsT oversT) 8000 80 8 [.agg [.sint .i64 (.var 0), .sint .i64 (.var 10), .sint .i64 (.var 20), .sint .i64 (.var 30), .sint .i64 (.var 40), .empty], .sint .i64 (.var 60)] (globSt g0) = true := by kernel_rfl
abbrev c_emp_u40 : List (Q × Bool) := [(c_emp_q0, true), (c_emp_q1, false), (c_emp_q2, true), (c_emp_q3, true), (c_emp_q4, false), (c_emp_q20, true), (c_emp_q6, false), (c_emp_q7, true), (c_emp_q8, true), (c_emp_q10, true), (c_emp_q11, true), (c_emp_q12, false), (c_emp_q14, false), (c_emp_q17, true), (c_emp_q15, false), (c_emp_q13, false), (c_emp_q16, true)]
set_option maxRecDepth 100000 in
theorem c_emp_y40 : yesOf Tryd.prog (knownV (tellA c_emp_u40) tabT specsT oversT) 8000 80 8 [.agg [.sint .i64 (.var 0), .sint .i64 (.var 10), .sint .i64 (.var 20), .sint .i64 (.var 30), .sint .i64 (.var 40), .empty], .sint .i64 (.var 60)] (globSt g0) = true := by kernel_rfl
abbrev c_emp_u41 : List (Q × Bool) := [(c_emp_q0, true), (c_emp_q1, false), (c_emp_q2, true), (c_emp_q3, true), (c_emp_q4, false), (c_emp_q20, true), (c_emp_q6, false), (c_emp_q7, true), (c_emp_q8, true), (c_emp_q10, true), (c_emp_q11, true), (c_emp_q12, false), (c_emp_q14, false), (c_emp_q17, false), (c_emp_q18, true), (c_emp_q15, false), (c_emp_q13, true)]
set_option maxRecDepth 100000 in
theorem c_emp_y41 : yesOf Tryd.prog (knownV (tellA c_emp_u41) tabT specsT oversT) 8000 80 8 [.agg [.sint .i64 (.var 0), .sint .i64 (.var 10), .sint .i64 (.var 20), .sint .i64 (.var 30), .sint .i64 (.var 40), .empty], .sint .i64 (.var 60)] (globSt g0) = true := by kernel_rfl
set_option maxRecDepth 100000 in
set_option maxHeartbeats 6000000 in
theorem c_emp_walk {W : World} {n0 : Int} (hn0 : inK .i64 n0) {n1 : Int} (hn1 : inK .i64 n1) {n2 : Int} (hn2 : inK .i64 n2) {n3 : Int} (hn3 : inK .i64 n3) {n4 : Int} (hn4 : inK .i64 n4) {v5 : Value} (hv5 : ∀ e : Env, VR e .empty v5) {n6 : Int} (hn6 : inK .i64 n6) (hG : GlobsR (om n0 n1 n2 n3 n4 0 0 [] n6) W g0) : Calls Tryd.prog 8 #[.agg #[.int .i64 n0, .int .i64 n1, .int .i64 n2, .int .i64 n3, .int .i64 n4, v5], .int .i64 n6] W fun e w' => e = .returned (.bool true) ∧ Below W.heap.size W w' := by
  have r0 := Rel.globs (om n0 n1 n2 n3 n4 0 0 [] n6) W g0 hG
  have hargs : VRs (Env.none (om n0 n1 n2 n3 n4 0 0 [] n6)) [.agg [.sint .i64 (.var 0), .sint .i64 (.var 10), .sint .i64 (.var 20), .sint .i64 (.var 30), .sint .i64 (.var 40), .empty], .sint .i64 (.var 60)] [.agg #[.int .i64 n0, .int .i64 n1, .int .i64 n2, .int .i64 n3, .int .i64 n4, v5], .int .i64 n6] := VRs_cons (vr_agg (VRs_cons (vr_sint (i := 0) hn0 (by rw [r0.opq]; rfl)) (VRs_cons (vr_sint (i := 10) hn1 (by rw [r0.opq]; rfl)) (VRs_cons (vr_sint (i := 20) hn2 (by rw [r0.opq]; rfl)) (VRs_cons (vr_sint (i := 30) hn3 (by rw [r0.opq]; rfl)) (VRs_cons (vr_sint (i := 40) hn4 (by rw [r0.opq]; rfl)) (VRs_cons (hv5 _) (VRs_nil)))))))) (VRs_cons (vr_sint (i := 60) hn6 (by rw [r0.opq]; rfl)) (VRs_nil))
  simp only [inK, i64min, i64max, u8min, u8max, u32min, u32max, u64min, u64max] at hn0
  simp only [inK, i64min, i64max, u8min, u8max, u32min, u32max, u64min, u64max] at hn1
  simp only [inK, i64min, i64max, u8min, u8max, u32min, u32max, u64min, u64max] at hn2
  simp only [inK, i64min, i64max, u8min, u8max, u32min, u32max, u64min, u64max] at hn3
  simp only [inK, i64min, i64max, u8min, u8max, u32min, u32max, u64min, u64max] at hn4
  simp only [inK, i64min, i64max, u8min, u8max, u32min, u32max, u64min, u64max] at hn6
  cases h0 : Q.val (om n0 n1 n2 n3 n4 0 0 [] n6) c_emp_q0
  · have p0 := (Q.holds'_iff _ _ _).2 h0
    simp only [c_emp_q0, Q.holds', E.i, E.n, D.nat, E.den, BO.den, UO.den, D.toInt_int, i64min, i64max, om_0, om_10, om_20, om_30, om_40, om_50, om_60, om_f, F11] at p0
    try (have q0 := err0 p0; unfold saysP at q0; clear p0)
    exact calls_of_yesV sound tabT_ok specsT_ok oversT_ok c_emp_y0 rfl (tellA_ok (told_cons h0 told_nil)) r0 hargs
  · have p0 := (Q.holds'_iff _ _ _).2 h0
    simp only [c_emp_q0, Q.holds', E.i, E.n, D.nat, E.den, BO.den, UO.den, D.toInt_int, i64min, i64max, om_0, om_10, om_20, om_30, om_40, om_50, om_60, om_f, F11] at p0
    try (have q0 := err0 p0; unfold saysP at q0; clear p0)
    cases h1 : Q.val (om n0 n1 n2 n3 n4 0 0 [] n6) c_emp_q1
    · have p1 := (Q.holds'_iff _ _ _).2 h1
      simp only [c_emp_q1, Q.holds', E.i, E.n, D.nat, E.den, BO.den, UO.den, D.toInt_int, i64min, i64max, om_0, om_10, om_20, om_30, om_40, om_50, om_60, om_f, F11] at p1
      try (have q0 := err0 p0; unfold saysP at q0; clear p0)
      have h2 : Q.val (om n0 n1 n2 n3 n4 0 0 [] n6) c_emp_q2 = true := (Q.holds'_iff _ _ _).1 (by
        simp only [c_emp_q2, Q.holds', E.i, E.n, D.nat, E.den, BO.den, UO.den, D.toInt_int, i64min, i64max, om_0, om_10, om_20, om_30, om_40, om_50, om_60, om_f, F11]
        all_goals ((first | omega | (rw [err1 (by omega)]; split <;> rename_i hs <;> unfold saysP at hs <;> omega) | (unfold errI; exact if_pos (by omega)) | trivial)))
      have p2 := (Q.holds'_iff _ _ _).2 h2
      try (
        simp only [c_emp_q2, Q.holds', E.i, E.n, D.nat, E.den, BO.den, UO.den, D.toInt_int, i64min, i64max, om_0, om_10, om_20, om_30, om_40, om_50, om_60, om_f, F11] at p2)
      have h3 : Q.val (om n0 n1 n2 n3 n4 0 0 [] n6) c_emp_q3 = true := (Q.holds'_iff _ _ _).1 (by
        simp only [c_emp_q3, Q.holds', E.i, E.n, D.nat, E.den, BO.den, UO.den, D.toInt_int, i64min, i64max, om_0, om_10, om_20, om_30, om_40, om_50, om_60, om_f, F11]
        all_goals ((first | omega | (rw [err1 (by omega)]; split <;> rename_i hs <;> unfold saysP at hs <;> omega) | (unfold errI; exact if_pos (by omega)) | trivial)))
      have p3 := (Q.holds'_iff _ _ _).2 h3
      try (
        simp only [c_emp_q3, Q.holds', E.i, E.n, D.nat, E.den, BO.den, UO.den, D.toInt_int, i64min, i64max, om_0, om_10, om_20, om_30, om_40, om_50, om_60, om_f, F11] at p3)
      cases h4 : Q.val (om n0 n1 n2 n3 n4 0 0 [] n6) c_emp_q4
      · have p4 := (Q.holds'_iff _ _ _).2 h4
        simp only [c_emp_q4, Q.holds', E.i, E.n, D.nat, E.den, BO.den, UO.den, D.toInt_int, i64min, i64max, om_0, om_10, om_20, om_30, om_40, om_50, om_60, om_f, F11] at p4
        try (have q0 := err0 p0; unfold saysP at q0; clear p0)
        cases h5 : Q.val (om n0 n1 n2 n3 n4 0 0 [] n6) c_emp_q20
        · have p5 := (Q.holds'_iff _ _ _).2 h5
          simp only [c_emp_q20, Q.holds', E.i, E.n, D.nat, E.den, BO.den, UO.den, D.toInt_int, i64min, i64max, om_0, om_10, om_20, om_30, om_40, om_50, om_60, om_f, F11] at p5
          try (have q0 := err0 p0; unfold saysP at q0; clear p0)
          have h6 : Q.val (om n0 n1 n2 n3 n4 0 0 [] n6) c_emp_q5 = false := (Q.holds'_iff _ _ _).1 (by
            simp only [c_emp_q5, Q.holds', E.i, E.n, D.nat, E.den, BO.den, UO.den, D.toInt_int, i64min, i64max, om_0, om_10, om_20, om_30, om_40, om_50, om_60, om_f, F11]
            all_goals ((first | omega | (rw [err1 (by omega)]; split <;> rename_i hs <;> unfold saysP at hs <;> omega) | (unfold errI; exact if_pos (by omega)) | trivial)))
          have p6 := (Q.holds'_iff _ _ _).2 h6
          try (
            simp only [c_emp_q5, Q.holds', E.i, E.n, D.nat, E.den, BO.den, UO.den, D.toInt_int, i64min, i64max, om_0, om_10, om_20, om_30, om_40, om_50, om_60, om_f, F11] at p6)
          cases h7 : Q.val (om n0 n1 n2 n3 n4 0 0 [] n6) c_emp_q6
          · have p7 := (Q.holds'_iff _ _ _).2 h7
            simp only [c_emp_q6, Q.holds', E.i, E.n, D.nat, E.den, BO.den, UO.den, D.toInt_int, i64min, i64max, om_0, om_10, om_20, om_30, om_40, om_50, om_60, om_f, F11] at p7
            try (have q0 := err0 p0; unfold saysP at q0; clear p0)
            have h8 : Q.val (om n0 n1 n2 n3 n4 0 0 [] n6) c_emp_q7 = true := (Q.holds'_iff _ _ _).1 (by
              simp only [c_emp_q7, Q.holds', E.i, E.n, D.nat, E.den, BO.den, UO.den, D.toInt_int, i64min, i64max, om_0, om_10, om_20, om_30, om_40, om_50, om_60, om_f, F11]
              all_goals ((first | omega | (rw [err1 (by omega)]; split <;> rename_i hs <;> unfold saysP at hs <;> omega) | (unfold errI; exact if_pos (by omega)) | trivial)))
            have p8 := (Q.holds'_iff _ _ _).2 h8
            try (
              simp only [c_emp_q7, Q.holds', E.i, E.n, D.nat, E.den, BO.den, UO.den, D.toInt_int, i64min, i64max, om_0, om_10, om_20, om_30, om_40, om_50, om_60, om_f, F11] at p8)
            cases h9 : Q.val (om n0 n1 n2 n3 n4 0 0 [] n6) c_emp_q8
            · have p9 := (Q.holds'_iff _ _ _).2 h9
              simp only [c_emp_q8, Q.holds', E.i, E.n, D.nat, E.den, BO.den, UO.den, D.toInt_int, i64min, i64max, om_0, om_10, om_20, om_30, om_40, om_50, om_60, om_f, F11] at p9
              try (have q0 := err0 p0; unfold saysP at q0; clear p0)
              have h10 : Q.val (om n0 n1 n2 n3 n4 0 0 [] n6) c_emp_q9 = true := (Q.holds'_iff _ _ _).1 (by
                simp only [c_emp_q9, Q.holds', E.i, E.n, D.nat, E.den, BO.den, UO.den, D.toInt_int, i64min, i64max, om_0, om_10, om_20, om_30, om_40, om_50, om_60, om_f, F11]
                all_goals ((first | omega | (rw [err1 (by omega)]; split <;> rename_i hs <;> unfold saysP at hs <;> omega) | (unfold errI; exact if_pos (by omega)) | trivial)))
              have p10 := (Q.holds'_iff _ _ _).2 h10
              try (
                simp only [c_emp_q9, Q.holds', E.i, E.n, D.nat, E.den, BO.den, UO.den, D.toInt_int, i64min, i64max, om_0, om_10, om_20, om_30, om_40, om_50, om_60, om_f, F11] at p10)
              exact calls_of_yesV sound tabT_ok specsT_ok oversT_ok c_emp_y8 rfl (tellA_ok (by (repeat refine told_cons (by assumption) ?_); exact told_nil)) r0 hargs
            · have p9 := (Q.holds'_iff _ _ _).2 h9
              simp only [c_emp_q8, Q.holds', E.i, E.n, D.nat, E.den, BO.den, UO.den, D.toInt_int, i64min, i64max, om_0, om_10, om_20, om_30, om_40, om_50, om_60, om_f, F11] at p9
              try (have q0 := err0 p0; unfold saysP at q0; clear p0)
              cases h10 : Q.val (om n0 n1 n2 n3 n4 0 0 [] n6) c_emp_q10
              · have p10 := (Q.holds'_iff _ _ _).2 h10
                simp only [c_emp_q10, Q.holds', E.i, E.n, D.nat, E.den, BO.den, UO.den, D.toInt_int, i64min, i64max, om_0, om_10, om_20, om_30, om_40, om_50, om_60, om_f, F11] at p10
                try (have q0 := err0 p0; unfold saysP at q0; clear p0)
                have h11 : Q.val (om n0 n1 n2 n3 n4 0 0 [] n6) c_emp_q9 = true := (Q.holds'_iff _ _ _).1 (by
                  simp only [c_emp_q9, Q.holds', E.i, E.n, D.nat, E.den, BO.den, UO.den, D.toInt_int, i64min, i64max, om_0, om_10, om_20, om_30, om_40, om_50, om_60, om_f, F11]
                  all_goals ((first | omega | (rw [err1 (by omega)]; split <;> rename_i hs <;> unfold saysP at hs <;> omega) | (unfold errI; exact if_pos (by omega)) | trivial)))
                have p11 := (Q.holds'_iff _ _ _).2 h11
                try (
                  simp only [c_emp_q9, Q.holds', E.i, E.n, D.nat, E.den, BO.den, UO.den, D.toInt_int, i64min, i64max, om_0, om_10, om_20, om_30, om_40, om_50, om_60, om_f, F11] at p11)
                exact calls_of_yesV sound tabT_ok specsT_ok oversT_ok c_emp_y14 rfl (tellA_ok (by (repeat refine told_cons (by assumption) ?_); exact told_nil)) r0 hargs
              · have p10 := (Q.holds'_iff _ _ _).2 h10
                simp only [c_emp_q10, Q.holds', E.i, E.n, D.nat, E.den, BO.den, UO.den, D.toInt_int, i64min, i64max, om_0, om_10, om_20, om_30, om_40, om_50, om_60, om_f, F11] at p10
                try (have q0 := err0 p0; unfold saysP at q0; clear p0)
                have h11 : Q.val (om n0 n1 n2 n3 n4 0 0 [] n6) c_emp_q11 = true := (Q.holds'_iff _ _ _).1 (by
                  simp only [c_emp_q11, Q.holds', E.i, E.n, D.nat, E.den, BO.den, UO.den, D.toInt_int, i64min, i64max, om_0, om_10, om_20, om_30, om_40, om_50, om_60, om_f, F11]
                  all_goals ((first | omega | (rw [err1 (by omega)]; split <;> rename_i hs <;> unfold saysP at hs <;> omega) | (unfold errI; exact if_pos (by omega)) | trivial)))
                have p11 := (Q.holds'_iff _ _ _).2 h11
                try (
                  simp only [c_emp_q11, Q.holds', E.i, E.n, D.nat, E.den, BO.den, UO.den, D.toInt_int, i64min, i64max, om_0, om_10, om_20, om_30, om_40, om_50, om_60, om_f, F11] at p11)
                cases h12 : Q.val (om n0 n1 n2 n3 n4 0 0 [] n6) c_emp_q12
                · have p12 := (Q.holds'_iff _ _ _).2 h12
                  simp only [c_emp_q12, Q.holds', E.i, E.n, D.nat, E.den, BO.den, UO.den, D.toInt_int, i64min, i64max, om_0, om_10, om_20, om_30, om_40, om_50, om_60, om_f, F11] at p12
                  try (have q0 := err0 p0; unfold saysP at q0; clear p0)
                  cases h13 : Q.val (om n0 n1 n2 n3 n4 0 0 [] n6) c_emp_q14
                  · have p13 := (Q.holds'_iff _ _ _).2 h13
                    simp only [c_emp_q14, Q.holds', E.i, E.n, D.nat, E.den, BO.den, UO.den, D.toInt_int, i64min, i64max, om_0, om_10, om_20, om_30, om_40, om_50, om_60, om_f, F11] at p13
                    try (have q0 := err0 p0; unfold saysP at q0; clear p0)
                    cases h14 : Q.val (om n0 n1 n2 n3 n4 0 0 [] n6) c_emp_q17
                    · have p14 := (Q.holds'_iff _ _ _).2 h14
                      simp only [c_emp_q17, Q.holds', E.i, E.n, D.nat, E.den, BO.den, UO.den, D.toInt_int, i64min, i64max, om_0, om_10, om_20, om_30, om_40, om_50, om_60, om_f, F11] at p14
                      try (have q0 := err0 p0; unfold saysP at q0; clear p0)
                      cases h15 : Q.val (om n0 n1 n2 n3 n4 0 0 [] n6) c_emp_q18
                      · have p15 := (Q.holds'_iff _ _ _).2 h15
                        simp only [c_emp_q18, Q.holds', E.i, E.n, D.nat, E.den, BO.den, UO.den, D.toInt_int, i64min, i64max, om_0, om_10, om_20, om_30, om_40, om_50, om_60, om_f, F11] at p15
                        try (have q0 := err0 p0; unfold saysP at q0; clear p0)
                        have h16 : Q.val (om n0 n1 n2 n3 n4 0 0 [] n6) c_emp_q19 = true := (Q.holds'_iff _ _ _).1 (by
                          simp only [c_emp_q19, Q.holds', E.i, E.n, D.nat, E.den, BO.den, UO.den, D.toInt_int, i64min, i64max, om_0, om_10, om_20, om_30, om_40, om_50, om_60, om_f, F11]
                          all_goals ((first | omega | (rw [err1 (by omega)]; split <;> rename_i hs <;> unfold saysP at hs <;> omega) | (unfold errI; exact if_pos (by omega)) | trivial)))
                        have p16 := (Q.holds'_iff _ _ _).2 h16
                        try (
                          simp only [c_emp_q19, Q.holds', E.i, E.n, D.nat, E.den, BO.den, UO.den, D.toInt_int, i64min, i64max, om_0, om_10, om_20, om_30, om_40, om_50, om_60, om_f, F11] at p16)
                        have h17 : Q.val (om n0 n1 n2 n3 n4 0 0 [] n6) c_emp_q13 = true := (Q.holds'_iff _ _ _).1 (by
                          simp only [c_emp_q13, Q.holds', E.i, E.n, D.nat, E.den, BO.den, UO.den, D.toInt_int, i64min, i64max, om_0, om_10, om_20, om_30, om_40, om_50, om_60, om_f, F11]
                          all_goals ((first | omega | (rw [err1 (by omega)]; split <;> rename_i hs <;> unfold saysP at hs <;> omega) | (unfold errI; exact if_pos (by omega)) | trivial)))
                        have p17 := (Q.holds'_iff _ _ _).2 h17
                        try (
                          simp only [c_emp_q13, Q.holds', E.i, E.n, D.nat, E.den, BO.den, UO.den, D.toInt_int, i64min, i64max, om_0, om_10, om_20, om_30, om_40, om_50, om_60, om_f, F11] at p17)
                        exact calls_of_yesV sound tabT_ok specsT_ok oversT_ok c_emp_y13 rfl (tellA_ok (by (repeat refine told_cons (by assumption) ?_); exact told_nil)) r0 hargs
                      · have p15 := (Q.holds'_iff _ _ _).2 h15
                        simp only [c_emp_q18, Q.holds', E.i, E.n, D.nat, E.den, BO.den, UO.den, D.toInt_int, i64min, i64max, om_0, om_10, om_20, om_30, om_40, om_50, om_60, om_f, F11] at p15
                        try (have q0 := err0 p0; unfold saysP at q0; clear p0)
                        have h16 : Q.val (om n0 n1 n2 n3 n4 0 0 [] n6) c_emp_q15 = false := (Q.holds'_iff _ _ _).1 (by
                          simp only [c_emp_q15, Q.holds', E.i, E.n, D.nat, E.den, BO.den, UO.den, D.toInt_int, i64min, i64max, om_0, om_10, om_20, om_30, om_40, om_50, om_60, om_f, F11]
                          all_goals ((first | omega | (rw [err1 (by omega)]; split <;> rename_i hs <;> unfold saysP at hs <;> omega) | (unfold errI; exact if_pos (by omega)) | trivial)))
                        have p16 := (Q.holds'_iff _ _ _).2 h16
                        try (
                          simp only [c_emp_q15, Q.holds', E.i, E.n, D.nat, E.den, BO.den, UO.den, D.toInt_int, i64min, i64max, om_0, om_10, om_20, om_30, om_40, om_50, om_60, om_f, F11] at p16)
                        have h17 : Q.val (om n0 n1 n2 n3 n4 0 0 [] n6) c_emp_q13 = true := (Q.holds'_iff _ _ _).1 (by
                          simp only [c_emp_q13, Q.holds', E.i, E.n, D.nat, E.den, BO.den, UO.den, D.toInt_int, i64min, i64max, om_0, om_10, om_20, om_30, om_40, om_50, om_60, om_f, F11]
                          all_goals ((first | omega | (rw [err1 (by omega)]; split <;> rename_i hs <;> unfold saysP at hs <;> omega) | (unfold errI; exact if_pos (by omega)) | trivial)))
                        have p17 := (Q.holds'_iff _ _ _).2 h17
                        try (
                          simp only [c_emp_q13, Q.holds', E.i, E.n, D.nat, E.den, BO.den, UO.den, D.toInt_int, i64min, i64max, om_0, om_10, om_20, om_30, om_40, om_50, om_60, om_f, F11] at p17)
                        exact calls_of_yesV sound tabT_ok specsT_ok oversT_ok c_emp_y12 rfl (tellA_ok (by (repeat refine told_cons (by assumption) ?_); exact told_nil)) r0 hargs
                    · have p14 := (Q.holds'_iff _ _ _).2 h14
                      simp only [c_emp_q17, Q.holds', E.i, E.n, D.nat, E.den, BO.den, UO.den, D.toInt_int, i64min, i64max, om_0, om_10, om_20, om_30, om_40, om_50, om_60, om_f, F11] at p14
                      try (have q0 := err0 p0; unfold saysP at q0; clear p0)
                      have h15 : Q.val (om n0 n1 n2 n3 n4 0 0 [] n6) c_emp_q15 = false := (Q.holds'_iff _ _ _).1 (by
                        simp only [c_emp_q15, Q.holds', E.i, E.n, D.nat, E.den, BO.den, UO.den, D.toInt_int, i64min, i64max, om_0, om_10, om_20, om_30, om_40, om_50, om_60, om_f, F11]
                        all_goals ((first | omega | (rw [err1 (by omega)]; split <;> rename_i hs <;> unfold saysP at hs <;> omega) | (unfold errI; exact if_pos (by omega)) | trivial)))
                      have p15 := (Q.holds'_iff _ _ _).2 h15
                      try (
                        simp only [c_emp_q15, Q.holds', E.i, E.n, D.nat, E.den, BO.den, UO.den, D.toInt_int, i64min, i64max, om_0, om_10, om_20, om_30, om_40, om_50, om_60, om_f, F11] at p15)
                      have h16 : Q.val (om n0 n1 n2 n3 n4 0 0 [] n6) c_emp_q13 = false := (Q.holds'_iff _ _ _).1 (by
                        simp only [c_emp_q13, Q.holds', E.i, E.n, D.nat, E.den, BO.den, UO.den, D.toInt_int, i64min, i64max, om_0, om_10, om_20, om_30, om_40, om_50, om_60, om_f, F11]
                        all_goals ((first | omega | (rw [err1 (by omega)]; split <;> rename_i hs <;> unfold saysP at hs <;> omega) | (unfold errI; exact if_pos (by omega)) | trivial)))
                      have p16 := (Q.holds'_iff _ _ _).2 h16
                      try (
                        simp only [c_emp_q13, Q.holds', E.i, E.n, D.nat, E.den, BO.den, UO.den, D.toInt_int, i64min, i64max, om_0, om_10, om_20, om_30, om_40, om_50, om_60, om_f, F11] at p16)
                      have h17 : Q.val (om n0 n1 n2 n3 n4 0 0 [] n6) c_emp_q16 = true := (Q.holds'_iff _ _ _).1 (by
                        simp only [c_emp_q16, Q.holds', E.i, E.n, D.nat, E.den, BO.den, UO.den, D.toInt_int, i64min, i64max, om_0, om_10, om_20, om_30, om_40, om_50, om_60, om_f, F11]
                        all_goals ((first | omega | (rw [err1 (by omega)]; split <;> rename_i hs <;> unfold saysP at hs <;> omega) | (unfold errI; exact if_pos (by omega)) | trivial)))
                      have p17 := (Q.holds'_iff _ _ _).2 h17
                      try (
                        simp only [c_emp_q16, Q.holds', E.i, E.n, D.nat, E.den, BO.den, UO.den, D.toInt_int, i64min, i64max, om_0, om_10, om_20, om_30, om_40, om_50, om_60, om_f, F11] at p17)
                      exact calls_of_yesV sound tabT_ok specsT_ok oversT_ok c_emp_y11 rfl (tellA_ok (by (repeat refine told_cons (by assumption) ?_); exact told_nil)) r0 hargs
                  · have p13 := (Q.holds'_iff _ _ _).2 h13
                    simp only [c_emp_q14, Q.holds', E.i, E.n, D.nat, E.den, BO.den, UO.den, D.toInt_int, i64min, i64max, om_0, om_10, om_20, om_30, om_40, om_50, om_60, om_f, F11] at p13
                    try (have q0 := err0 p0; unfold saysP at q0; clear p0)
                    have h14 : Q.val (om n0 n1 n2 n3 n4 0 0 [] n6) c_emp_q15 = false := (Q.holds'_iff _ _ _).1 (by
                      simp only [c_emp_q15, Q.holds', E.i, E.n, D.nat, E.den, BO.den, UO.den, D.toInt_int, i64min, i64max, om_0, om_10, om_20, om_30, om_40, om_50, om_60, om_f, F11]
                      all_goals ((first | omega | (rw [err1 (by omega)]; split <;> rename_i hs <;> unfold saysP at hs <;> omega) | (unfold errI; exact if_pos (by omega)) | trivial)))
                    have p14 := (Q.holds'_iff _ _ _).2 h14
                    try (
                      simp only [c_emp_q15, Q.holds', E.i, E.n, D.nat, E.den, BO.den, UO.den, D.toInt_int, i64min, i64max, om_0, om_10, om_20, om_30, om_40, om_50, om_60, om_f, F11] at p14)
                    have h15 : Q.val (om n0 n1 n2 n3 n4 0 0 [] n6) c_emp_q13 = true := (Q.holds'_iff _ _ _).1 (by
                      simp only [c_emp_q13, Q.holds', E.i, E.n, D.nat, E.den, BO.den, UO.den, D.toInt_int, i64min, i64max, om_0, om_10, om_20, om_30, om_40, om_50, om_60, om_f, F11]
                      all_goals ((first | omega | (rw [err1 (by omega)]; split <;> rename_i hs <;> unfold saysP at hs <;> omega) | (unfold errI; exact if_pos (by omega)) | trivial)))
                    have p15 := (Q.holds'_iff _ _ _).2 h15
                    try (
                      simp only [c_emp_q13, Q.holds', E.i, E.n, D.nat, E.den, BO.den, UO.den, D.toInt_int, i64min, i64max, om_0, om_10, om_20, om_30, om_40, om_50, om_60, om_f, F11] at p15)
                    exact calls_of_yesV sound tabT_ok specsT_ok oversT_ok c_emp_y10 rfl (tellA_ok (by (repeat refine told_cons (by assumption) ?_); exact told_nil)) r0 hargs
                · have p12 := (Q.holds'_iff _ _ _).2 h12
                  simp only [c_emp_q12, Q.holds', E.i, E.n, D.nat, E.den, BO.den, UO.den, D.toInt_int, i64min, i64max, om_0, om_10, om_20, om_30, om_40, om_50, om_60, om_f, F11] at p12
                  try (have q0 := err0 p0; unfold saysP at q0; clear p0)
                  have h13 : Q.val (om n0 n1 n2 n3 n4 0 0 [] n6) c_emp_q13 = false := (Q.holds'_iff _ _ _).1 (by
                    simp only [c_emp_q13, Q.holds', E.i, E.n, D.nat, E.den, BO.den, UO.den, D.toInt_int, i64min, i64max, om_0, om_10, om_20, om_30, om_40, om_50, om_60, om_f, F11]
                    all_goals ((first | omega | (rw [err1 (by omega)]; split <;> rename_i hs <;> unfold saysP at hs <;> omega) | (unfold errI; exact if_pos (by omega)) | trivial)))
                  have p13 := (Q.holds'_iff _ _ _).2 h13
                  try (
                    simp only [c_emp_q13, Q.holds', E.i, E.n, D.nat, E.den, BO.den, UO.den, D.toInt_int, i64min, i64max, om_0, om_10, om_20, om_30, om_40, om_50, om_60, om_f, F11] at p13)
                  have h14 : Q.val (om n0 n1 n2 n3 n4 0 0 [] n6) c_emp_q16 = true := (Q.holds'_iff _ _ _).1 (by
                    simp only [c_emp_q16, Q.holds', E.i, E.n, D.nat, E.den, BO.den, UO.den, D.toInt_int, i64min, i64max, om_0, om_10, om_20, om_30, om_40, om_50, om_60, om_f, F11]
                    all_goals ((first | omega | (rw [err1 (by omega)]; split <;> rename_i hs <;> unfold saysP at hs <;> omega) | (unfold errI; exact if_pos (by omega)) | trivial)))
                  have p14 := (Q.holds'_iff _ _ _).2 h14
                  try (
                    simp only [c_emp_q16, Q.holds', E.i, E.n, D.nat, E.den, BO.den, UO.den, D.toInt_int, i64min, i64max, om_0, om_10, om_20, om_30, om_40, om_50, om_60, om_f, F11] at p14)
                  exact calls_of_yesV sound tabT_ok specsT_ok oversT_ok c_emp_y9 rfl (tellA_ok (by (repeat refine told_cons (by assumption) ?_); exact told_nil)) r0 hargs
          · have p7 := (Q.holds'_iff _ _ _).2 h7
            simp only [c_emp_q6, Q.holds', E.i, E.n, D.nat, E.den, BO.den, UO.den, D.toInt_int, i64min, i64max, om_0, om_10, om_20, om_30, om_40, om_50, om_60, om_f, F11] at p7
            try (have q0 := err0 p0; unfold saysP at q0; clear p0)
            cases h8 : Q.val (om n0 n1 n2 n3 n4 0 0 [] n6) c_emp_q8
            · have p8 := (Q.holds'_iff _ _ _).2 h8
              simp only [c_emp_q8, Q.holds', E.i, E.n, D.nat, E.den, BO.den, UO.den, D.toInt_int, i64min, i64max, om_0, om_10, om_20, om_30, om_40, om_50, om_60, om_f, F11] at p8
              try (have q0 := err0 p0; unfold saysP at q0; clear p0)
              have h9 : Q.val (om n0 n1 n2 n3 n4 0 0 [] n6) c_emp_q9 = true := (Q.holds'_iff _ _ _).1 (by
                simp only [c_emp_q9, Q.holds', E.i, E.n, D.nat, E.den, BO.den, UO.den, D.toInt_int, i64min, i64max, om_0, om_10, om_20, om_30, om_40, om_50, om_60, om_f, F11]
                all_goals ((first | omega | (rw [err1 (by omega)]; split <;> rename_i hs <;> unfold saysP at hs <;> omega) | (unfold errI; exact if_pos (by omega)) | trivial)))
              have p9 := (Q.holds'_iff _ _ _).2 h9
              try (
                simp only [c_emp_q9, Q.holds', E.i, E.n, D.nat, E.den, BO.den, UO.den, D.toInt_int, i64min, i64max, om_0, om_10, om_20, om_30, om_40, om_50, om_60, om_f, F11] at p9)
              exact calls_of_yesV sound tabT_ok specsT_ok oversT_ok c_emp_y22 rfl (tellA_ok (by (repeat refine told_cons (by assumption) ?_); exact told_nil)) r0 hargs
            · have p8 := (Q.holds'_iff _ _ _).2 h8
              simp only [c_emp_q8, Q.holds', E.i, E.n, D.nat, E.den, BO.den, UO.den, D.toInt_int, i64min, i64max, om_0, om_10, om_20, om_30, om_40, om_50, om_60, om_f, F11] at p8
              try (have q0 := err0 p0; unfold saysP at q0; clear p0)
              cases h9 : Q.val (om n0 n1 n2 n3 n4 0 0 [] n6) c_emp_q10
              · have p9 := (Q.holds'_iff _ _ _).2 h9
                simp only [c_emp_q10, Q.holds', E.i, E.n, D.nat, E.den, BO.den, UO.den, D.toInt_int, i64min, i64max, om_0, om_10, om_20, om_30, om_40, om_50, om_60, om_f, F11] at p9
                try (have q0 := err0 p0; unfold saysP at q0; clear p0)
                have h10 : Q.val (om n0 n1 n2 n3 n4 0 0 [] n6) c_emp_q9 = true := (Q.holds'_iff _ _ _).1 (by
                  simp only [c_emp_q9, Q.holds', E.i, E.n, D.nat, E.den, BO.den, UO.den, D.toInt_int, i64min, i64max, om_0, om_10, om_20, om_30, om_40, om_50, om_60, om_f, F11]
                  all_goals ((first | omega | (rw [err1 (by omega)]; split <;> rename_i hs <;> unfold saysP at hs <;> omega) | (unfold errI; exact if_pos (by omega)) | trivial)))
                have p10 := (Q.holds'_iff _ _ _).2 h10
                try (
                  simp only [c_emp_q9, Q.holds', E.i, E.n, D.nat, E.den, BO.den, UO.den, D.toInt_int, i64min, i64max, om_0, om_10, om_20, om_30, om_40, om_50, om_60, om_f, F11] at p10)
                exact calls_of_yesV sound tabT_ok specsT_ok oversT_ok c_emp_y28 rfl (tellA_ok (by (repeat refine told_cons (by assumption) ?_); exact told_nil)) r0 hargs
              · have p9 := (Q.holds'_iff _ _ _).2 h9
                simp only [c_emp_q10, Q.holds', E.i, E.n, D.nat, E.den, BO.den, UO.den, D.toInt_int, i64min, i64max, om_0, om_10, om_20, om_30, om_40, om_50, om_60, om_f, F11] at p9
                try (have q0 := err0 p0; unfold saysP at q0; clear p0)
                have h10 : Q.val (om n0 n1 n2 n3 n4 0 0 [] n6) c_emp_q11 = true := (Q.holds'_iff _ _ _).1 (by
                  simp only [c_emp_q11, Q.holds', E.i, E.n, D.nat, E.den, BO.den, UO.den, D.toInt_int, i64min, i64max, om_0, om_10, om_20, om_30, om_40, om_50, om_60, om_f, F11]
                  all_goals ((first | omega | (rw [err1 (by omega)]; split <;> rename_i hs <;> unfold saysP at hs <;> omega) | (unfold errI; exact if_pos (by omega)) | trivial)))
                have p10 := (Q.holds'_iff _ _ _).2 h10
                try (
                  simp only [c_emp_q11, Q.holds', E.i, E.n, D.nat, E.den, BO.den, UO.den, D.toInt_int, i64min, i64max, om_0, om_10, om_20, om_30, om_40, om_50, om_60, om_f, F11] at p10)
                cases h11 : Q.val (om n0 n1 n2 n3 n4 0 0 [] n6) c_emp_q12
                · have p11 := (Q.holds'_iff _ _ _).2 h11
                  simp only [c_emp_q12, Q.holds', E.i, E.n, D.nat, E.den, BO.den, UO.den, D.toInt_int, i64min, i64max, om_0, om_10, om_20, om_30, om_40, om_50, om_60, om_f, F11] at p11
                  try (have q0 := err0 p0; unfold saysP at q0; clear p0)
                  cases h12 : Q.val (om n0 n1 n2 n3 n4 0 0 [] n6) c_emp_q14
                  · have p12 := (Q.holds'_iff _ _ _).2 h12
                    simp only [c_emp_q14, Q.holds', E.i, E.n, D.nat, E.den, BO.den, UO.den, D.toInt_int, i64min, i64max, om_0, om_10, om_20, om_30, om_40, om_50, om_60, om_f, F11] at p12
                    try (have q0 := err0 p0; unfold saysP at q0; clear p0)
                    cases h13 : Q.val (om n0 n1 n2 n3 n4 0 0 [] n6) c_emp_q17
                    · have p13 := (Q.holds'_iff _ _ _).2 h13
                      simp only [c_emp_q17, Q.holds', E.i, E.n, D.nat, E.den, BO.den, UO.den, D.toInt_int, i64min, i64max, om_0, om_10, om_20, om_30, om_40, om_50, om_60, om_f, F11] at p13
                      try (have q0 := err0 p0; unfold saysP at q0; clear p0)
                      cases h14 : Q.val (om n0 n1 n2 n3 n4 0 0 [] n6) c_emp_q18
                      · have p14 := (Q.holds'_iff _ _ _).2 h14
                        simp only [c_emp_q18, Q.holds', E.i, E.n, D.nat, E.den, BO.den, UO.den, D.toInt_int, i64min, i64max, om_0, om_10, om_20, om_30, om_40, om_50, om_60, om_f, F11] at p14
                        try (have q0 := err0 p0; unfold saysP at q0; clear p0)
                        have h15 : Q.val (om n0 n1 n2 n3 n4 0 0 [] n6) c_emp_q19 = true := (Q.holds'_iff _ _ _).1 (by
                          simp only [c_emp_q19, Q.holds', E.i, E.n, D.nat, E.den, BO.den, UO.den, D.toInt_int, i64min, i64max, om_0, om_10, om_20, om_30, om_40, om_50, om_60, om_f, F11]
                          all_goals ((first | omega | (rw [err1 (by omega)]; split <;> rename_i hs <;> unfold saysP at hs <;> omega) | (unfold errI; exact if_pos (by omega)) | trivial)))
                        have p15 := (Q.holds'_iff _ _ _).2 h15
                        try (
                          simp only [c_emp_q19, Q.holds', E.i, E.n, D.nat, E.den, BO.den, UO.den, D.toInt_int, i64min, i64max, om_0, om_10, om_20, om_30, om_40, om_50, om_60, om_f, F11] at p15)
                        cases h16 : Q.val (om n0 n1 n2 n3 n4 0 0 [] n6) c_emp_q7
                        · have p16 := (Q.holds'_iff _ _ _).2 h16
                          simp only [c_emp_q7, Q.holds', E.i, E.n, D.nat, E.den, BO.den, UO.den, D.toInt_int, i64min, i64max, om_0, om_10, om_20, om_30, om_40, om_50, om_60, om_f, F11] at p16
                          try (have q0 := err0 p0; unfold saysP at q0; clear p0)
                          have h17 : Q.val (om n0 n1 n2 n3 n4 0 0 [] n6) c_emp_q13 = false := (Q.holds'_iff _ _ _).1 (by
                            simp only [c_emp_q13, Q.holds', E.i, E.n, D.nat, E.den, BO.den, UO.den, D.toInt_int, i64min, i64max, om_0, om_10, om_20, om_30, om_40, om_50, om_60, om_f, F11]
                            all_goals ((first | omega | (rw [err1 (by omega)]; split <;> rename_i hs <;> unfold saysP at hs <;> omega) | (unfold errI; exact if_pos (by omega)) | trivial)))
                          have p17 := (Q.holds'_iff _ _ _).2 h17
                          try (
                            simp only [c_emp_q13, Q.holds', E.i, E.n, D.nat, E.den, BO.den, UO.den, D.toInt_int, i64min, i64max, om_0, om_10, om_20, om_30, om_40, om_50, om_60, om_f, F11] at p17)
                          have h18 : Q.val (om n0 n1 n2 n3 n4 0 0 [] n6) c_emp_q16 = true := (Q.holds'_iff _ _ _).1 (by
                            simp only [c_emp_q16, Q.holds', E.i, E.n, D.nat, E.den, BO.den, UO.den, D.toInt_int, i64min, i64max, om_0, om_10, om_20, om_30, om_40, om_50, om_60, om_f, F11]
                            all_goals ((first | omega | (rw [err1 (by omega)]; split <;> rename_i hs <;> unfold saysP at hs <;> omega) | (unfold errI; exact if_pos (by omega)) | trivial)))
                          have p18 := (Q.holds'_iff _ _ _).2 h18
                          try (
                            simp only [c_emp_q16, Q.holds', E.i, E.n, D.nat, E.den, BO.den, UO.den, D.toInt_int, i64min, i64max, om_0, om_10, om_20, om_30, om_40, om_50, om_60, om_f, F11] at p18)
                          exact calls_of_yesV sound tabT_ok specsT_ok oversT_ok c_emp_y30 rfl (tellA_ok (by (repeat refine told_cons (by assumption) ?_); exact told_nil)) r0 hargs
                        · have p16 := (Q.holds'_iff _ _ _).2 h16
                          simp only [c_emp_q7, Q.holds', E.i, E.n, D.nat, E.den, BO.den, UO.den, D.toInt_int, i64min, i64max, om_0, om_10, om_20, om_30, om_40, om_50, om_60, om_f, F11] at p16
                          try (have q0 := err0 p0; unfold saysP at q0; clear p0)
                          have h17 : Q.val (om n0 n1 n2 n3 n4 0 0 [] n6) c_emp_q13 = true := (Q.holds'_iff _ _ _).1 (by
                            simp only [c_emp_q13, Q.holds', E.i, E.n, D.nat, E.den, BO.den, UO.den, D.toInt_int, i64min, i64max, om_0, om_10, om_20, om_30, om_40, om_50, om_60, om_f, F11]
                            all_goals ((first | omega | (rw [err1 (by omega)]; split <;> rename_i hs <;> unfold saysP at hs <;> omega) | (unfold errI; exact if_pos (by omega)) | trivial)))
                          have p17 := (Q.holds'_iff _ _ _).2 h17
                          try (
                            simp only [c_emp_q13, Q.holds', E.i, E.n, D.nat, E.den, BO.den, UO.den, D.toInt_int, i64min, i64max, om_0, om_10, om_20, om_30, om_40, om_50, om_60, om_f, F11] at p17)
                          exact calls_of_yesV sound tabT_ok specsT_ok oversT_ok c_emp_y27 rfl (tellA_ok (by (repeat refine told_cons (by assumption) ?_); exact told_nil)) r0 hargs
                      · have p14 := (Q.holds'_iff _ _ _).2 h14
                        simp only [c_emp_q18, Q.holds', E.i, E.n, D.nat, E.den, BO.den, UO.den, D.toInt_int, i64min, i64max, om_0, om_10, om_20, om_30, om_40, om_50, om_60, om_f, F11] at p14
                        try (have q0 := err0 p0; unfold saysP at q0; clear p0)
                        have h15 : Q.val (om n0 n1 n2 n3 n4 0 0 [] n6) c_emp_q15 = false := (Q.holds'_iff _ _ _).1 (by
                          simp only [c_emp_q15, Q.holds', E.i, E.n, D.nat, E.den, BO.den, UO.den, D.toInt_int, i64min, i64max, om_0, om_10, om_20, om_30, om_40, om_50, om_60, om_f, F11]
                          all_goals ((first | omega | (rw [err1 (by omega)]; split <;> rename_i hs <;> unfold saysP at hs <;> omega) | (unfold errI; exact if_pos (by omega)) | trivial)))
                        have p15 := (Q.holds'_iff _ _ _).2 h15
                        try (
                          simp only [c_emp_q15, Q.holds', E.i, E.n, D.nat, E.den, BO.den, UO.den, D.toInt_int, i64min, i64max, om_0, om_10, om_20, om_30, om_40, om_50, om_60, om_f, F11] at p15)
                        have h16 : Q.val (om n0 n1 n2 n3 n4 0 0 [] n6) c_emp_q13 = true := (Q.holds'_iff _ _ _).1 (by
                          simp only [c_emp_q13, Q.holds', E.i, E.n, D.nat, E.den, BO.den, UO.den, D.toInt_int, i64min, i64max, om_0, om_10, om_20, om_30, om_40, om_50, om_60, om_f, F11]
                          all_goals ((first | omega | (rw [err1 (by omega)]; split <;> rename_i hs <;> unfold saysP at hs <;> omega) | (unfold errI; exact if_pos (by omega)) | trivial)))
                        have p16 := (Q.holds'_iff _ _ _).2 h16
                        try (
                          simp only [c_emp_q13, Q.holds', E.i, E.n, D.nat, E.den, BO.den, UO.den, D.toInt_int, i64min, i64max, om_0, om_10, om_20, om_30, om_40, om_50, om_60, om_f, F11] at p16)
                        exact calls_of_yesV sound tabT_ok specsT_ok oversT_ok c_emp_y26 rfl (tellA_ok (by (repeat refine told_cons (by assumption) ?_); exact told_nil)) r0 hargs
                    · have p13 := (Q.holds'_iff _ _ _).2 h13
                      simp only [c_emp_q17, Q.holds', E.i, E.n, D.nat, E.den, BO.den, UO.den, D.toInt_int, i64min, i64max, om_0, om_10, om_20, om_30, om_40, om_50, om_60, om_f, F11] at p13
                      try (have q0 := err0 p0; unfold saysP at q0; clear p0)
                      have h14 : Q.val (om n0 n1 n2 n3 n4 0 0 [] n6) c_emp_q15 = false := (Q.holds'_iff _ _ _).1 (by
                        simp only [c_emp_q15, Q.holds', E.i, E.n, D.nat, E.den, BO.den, UO.den, D.toInt_int, i64min, i64max, om_0, om_10, om_20, om_30, om_40, om_50, om_60, om_f, F11]
                        all_goals ((first | omega | (rw [err1 (by omega)]; split <;> rename_i hs <;> unfold saysP at hs <;> omega) | (unfold errI; exact if_pos (by omega)) | trivial)))
                      have p14 := (Q.holds'_iff _ _ _).2 h14
                      try (
                        simp only [c_emp_q15, Q.holds', E.i, E.n, D.nat, E.den, BO.den, UO.den, D.toInt_int, i64min, i64max, om_0, om_10, om_20, om_30, om_40, om_50, om_60, om_f, F11] at p14)
                      have h15 : Q.val (om n0 n1 n2 n3 n4 0 0 [] n6) c_emp_q13 = false := (Q.holds'_iff _ _ _).1 (by
                        simp only [c_emp_q13, Q.holds', E.i, E.n, D.nat, E.den, BO.den, UO.den, D.toInt_int, i64min, i64max, om_0, om_10, om_20, om_30, om_40, om_50, om_60, om_f, F11]
                        all_goals ((first | omega | (rw [err1 (by omega)]; split <;> rename_i hs <;> unfold saysP at hs <;> omega) | (unfold errI; exact if_pos (by omega)) | trivial)))
                      have p15 := (Q.holds'_iff _ _ _).2 h15
                      try (
                        simp only [c_emp_q13, Q.holds', E.i, E.n, D.nat, E.den, BO.den, UO.den, D.toInt_int, i64min, i64max, om_0, om_10, om_20, om_30, om_40, om_50, om_60, om_f, F11] at p15)
                      have h16 : Q.val (om n0 n1 n2 n3 n4 0 0 [] n6) c_emp_q16 = true := (Q.holds'_iff _ _ _).1 (by
                        simp only [c_emp_q16, Q.holds', E.i, E.n, D.nat, E.den, BO.den, UO.den, D.toInt_int, i64min, i64max, om_0, om_10, om_20, om_30, om_40, om_50, om_60, om_f, F11]
                        all_goals ((first | omega | (rw [err1 (by omega)]; split <;> rename_i hs <;> unfold saysP at hs <;> omega) | (unfold errI; exact if_pos (by omega)) | trivial)))
                      have p16 := (Q.holds'_iff _ _ _).2 h16
                      try (
                        simp only [c_emp_q16, Q.holds', E.i, E.n, D.nat, E.den, BO.den, UO.den, D.toInt_int, i64min, i64max, om_0, om_10, om_20, om_30, om_40, om_50, om_60, om_f, F11] at p16)
                      exact calls_of_yesV sound tabT_ok specsT_ok oversT_ok c_emp_y25 rfl (tellA_ok (by (repeat refine told_cons (by assumption) ?_); exact told_nil)) r0 hargs
                  · have p12 := (Q.holds'_iff _ _ _).2 h12
                    simp only [c_emp_q14, Q.holds', E.i, E.n, D.nat, E.den, BO.den, UO.den, D.toInt_int, i64min, i64max, om_0, om_10, om_20, om_30, om_40, om_50, om_60, om_f, F11] at p12
                    try (have q0 := err0 p0; unfold saysP at q0; clear p0)
                    have h13 : Q.val (om n0 n1 n2 n3 n4 0 0 [] n6) c_emp_q15 = false := (Q.holds'_iff _ _ _).1 (by
                      simp only [c_emp_q15, Q.holds', E.i, E.n, D.nat, E.den, BO.den, UO.den, D.toInt_int, i64min, i64max, om_0, om_10, om_20, om_30, om_40, om_50, om_60, om_f, F11]
                      all_goals ((first | omega | (rw [err1 (by omega)]; split <;> rename_i hs <;> unfold saysP at hs <;> omega) | (unfold errI; exact if_pos (by omega)) | trivial)))
                    have p13 := (Q.holds'_iff _ _ _).2 h13
                    try (
                      simp only [c_emp_q15, Q.holds', E.i, E.n, D.nat, E.den, BO.den, UO.den, D.toInt_int, i64min, i64max, om_0, om_10, om_20, om_30, om_40, om_50, om_60, om_f, F11] at p13)
                    cases h14 : Q.val (om n0 n1 n2 n3 n4 0 0 [] n6) c_emp_q7
                    · have p14 := (Q.holds'_iff _ _ _).2 h14
                      simp only [c_emp_q7, Q.holds', E.i, E.n, D.nat, E.den, BO.den, UO.den, D.toInt_int, i64min, i64max, om_0, om_10, om_20, om_30, om_40, om_50, om_60, om_f, F11] at p14
                      try (have q0 := err0 p0; unfold saysP at q0; clear p0)
                      have h15 : Q.val (om n0 n1 n2 n3 n4 0 0 [] n6) c_emp_q13 = false := (Q.holds'_iff _ _ _).1 (by
                        simp only [c_emp_q13, Q.holds', E.i, E.n, D.nat, E.den, BO.den, UO.den, D.toInt_int, i64min, i64max, om_0, om_10, om_20, om_30, om_40, om_50, om_60, om_f, F11]
                        all_goals ((first | omega | (rw [err1 (by omega)]; split <;> rename_i hs <;> unfold saysP at hs <;> omega) | (unfold errI; exact if_pos (by omega)) | trivial)))
                      have p15 := (Q.holds'_iff _ _ _).2 h15
                      try (
                        simp only [c_emp_q13, Q.holds', E.i, E.n, D.nat, E.den, BO.den, UO.den, D.toInt_int, i64min, i64max, om_0, om_10, om_20, om_30, om_40, om_50, om_60, om_f, F11] at p15)
                      have h16 : Q.val (om n0 n1 n2 n3 n4 0 0 [] n6) c_emp_q16 = true := (Q.holds'_iff _ _ _).1 (by
                        simp only [c_emp_q16, Q.holds', E.i, E.n, D.nat, E.den, BO.den, UO.den, D.toInt_int, i64min, i64max, om_0, om_10, om_20, om_30, om_40, om_50, om_60, om_f, F11]
                        all_goals ((first | omega | (rw [err1 (by omega)]; split <;> rename_i hs <;> unfold saysP at hs <;> omega) | (unfold errI; exact if_pos (by omega)) | trivial)))
                      have p16 := (Q.holds'_iff _ _ _).2 h16
                      try (
                        simp only [c_emp_q16, Q.holds', E.i, E.n, D.nat, E.den, BO.den, UO.den, D.toInt_int, i64min, i64max, om_0, om_10, om_20, om_30, om_40, om_50, om_60, om_f, F11] at p16)
                      exact calls_of_yesV sound tabT_ok specsT_ok oversT_ok c_emp_y29 rfl (tellA_ok (by (repeat refine told_cons (by assumption) ?_); exact told_nil)) r0 hargs
                    · have p14 := (Q.holds'_iff _ _ _).2 h14
                      simp only [c_emp_q7, Q.holds', E.i, E.n, D.nat, E.den, BO.den, UO.den, D.toInt_int, i64min, i64max, om_0, om_10, om_20, om_30, om_40, om_50, om_60, om_f, F11] at p14
                      try (have q0 := err0 p0; unfold saysP at q0; clear p0)
                      have h15 : Q.val (om n0 n1 n2 n3 n4 0 0 [] n6) c_emp_q13 = true := (Q.holds'_iff _ _ _).1 (by
                        simp only [c_emp_q13, Q.holds', E.i, E.n, D.nat, E.den, BO.den, UO.den, D.toInt_int, i64min, i64max, om_0, om_10, om_20, om_30, om_40, om_50, om_60, om_f, F11]
                        all_goals ((first | omega | (rw [err1 (by omega)]; split <;> rename_i hs <;> unfold saysP at hs <;> omega) | (unfold errI; exact if_pos (by omega)) | trivial)))
                      have p15 := (Q.holds'_iff _ _ _).2 h15
                      try (
                        simp only [c_emp_q13, Q.holds', E.i, E.n, D.nat, E.den, BO.den, UO.den, D.toInt_int, i64min, i64max, om_0, om_10, om_20, om_30, om_40, om_50, om_60, om_f, F11] at p15)
                      exact calls_of_yesV sound tabT_ok specsT_ok oversT_ok c_emp_y24 rfl (tellA_ok (by (repeat refine told_cons (by assumption) ?_); exact told_nil)) r0 hargs
                · have p11 := (Q.holds'_iff _ _ _).2 h11
                  simp only [c_emp_q12, Q.holds', E.i, E.n, D.nat, E.den, BO.den, UO.den, D.toInt_int, i64min, i64max, om_0, om_10, om_20, om_30, om_40, om_50, om_60, om_f, F11] at p11
                  try (have q0 := err0 p0; unfold saysP at q0; clear p0)
                  have h12 : Q.val (om n0 n1 n2 n3 n4 0 0 [] n6) c_emp_q13 = false := (Q.holds'_iff _ _ _).1 (by
                    simp only [c_emp_q13, Q.holds', E.i, E.n, D.nat, E.den, BO.den, UO.den, D.toInt_int, i64min, i64max, om_0, om_10, om_20, om_30, om_40, om_50, om_60, om_f, F11]
                    all_goals ((first | omega | (rw [err1 (by omega)]; split <;> rename_i hs <;> unfold saysP at hs <;> omega) | (unfold errI; exact if_pos (by omega)) | trivial)))
                  have p12 := (Q.holds'_iff _ _ _).2 h12
                  try (
                    simp only [c_emp_q13, Q.holds', E.i, E.n, D.nat, E.den, BO.den, UO.den, D.toInt_int, i64min, i64max, om_0, om_10, om_20, om_30, om_40, om_50, om_60, om_f, F11] at p12)
                  have h13 : Q.val (om n0 n1 n2 n3 n4 0 0 [] n6) c_emp_q16 = true := (Q.holds'_iff _ _ _).1 (by
                    simp only [c_emp_q16, Q.holds', E.i, E.n, D.nat, E.den, BO.den, UO.den, D.toInt_int, i64min, i64max, om_0, om_10, om_20, om_30, om_40, om_50, om_60, om_f, F11]
                    all_goals ((first | omega | (rw [err1 (by omega)]; split <;> rename_i hs <;> unfold saysP at hs <;> omega) | (unfold errI; exact if_pos (by omega)) | trivial)))
                  have p13 := (Q.holds'_iff _ _ _).2 h13
                  try (
                    simp only [c_emp_q16, Q.holds', E.i, E.n, D.nat, E.den, BO.den, UO.den, D.toInt_int, i64min, i64max, om_0, om_10, om_20, om_30, om_40, om_50, om_60, om_f, F11] at p13)
                  exact calls_of_yesV sound tabT_ok specsT_ok oversT_ok c_emp_y23 rfl (tellA_ok (by (repeat refine told_cons (by assumption) ?_); exact told_nil)) r0 hargs
        · have p5 := (Q.holds'_iff _ _ _).2 h5
          simp only [c_emp_q20, Q.holds', E.i, E.n, D.nat, E.den, BO.den, UO.den, D.toInt_int, i64min, i64max, om_0, om_10, om_20, om_30, om_40, om_50, om_60, om_f, F11] at p5
          try (have q0 := err0 p0; unfold saysP at q0; clear p0)
          have h6 : Q.val (om n0 n1 n2 n3 n4 0 0 [] n6) c_emp_q6 = false := (Q.holds'_iff _ _ _).1 (by
            simp only [c_emp_q6, Q.holds', E.i, E.n, D.nat, E.den, BO.den, UO.den, D.toInt_int, i64min, i64max, om_0, om_10, om_20, om_30, om_40, om_50, om_60, om_f, F11]
            all_goals ((first | omega | (rw [err1 (by omega)]; split <;> rename_i hs <;> unfold saysP at hs <;> omega) | (unfold errI; exact if_pos (by omega)) | trivial)))
          have p6 := (Q.holds'_iff _ _ _).2 h6
          try (
            simp only [c_emp_q6, Q.holds', E.i, E.n, D.nat, E.den, BO.den, UO.den, D.toInt_int, i64min, i64max, om_0, om_10, om_20, om_30, om_40, om_50, om_60, om_f, F11] at p6)
          have h7 : Q.val (om n0 n1 n2 n3 n4 0 0 [] n6) c_emp_q7 = true := (Q.holds'_iff _ _ _).1 (by
            simp only [c_emp_q7, Q.holds', E.i, E.n, D.nat, E.den, BO.den, UO.den, D.toInt_int, i64min, i64max, om_0, om_10, om_20, om_30, om_40, om_50, om_60, om_f, F11]
            all_goals ((first | omega | (rw [err1 (by omega)]; split <;> rename_i hs <;> unfold saysP at hs <;> omega) | (unfold errI; exact if_pos (by omega)) | trivial)))
          have p7 := (Q.holds'_iff _ _ _).2 h7
          try (
            simp only [c_emp_q7, Q.holds', E.i, E.n, D.nat, E.den, BO.den, UO.den, D.toInt_int, i64min, i64max, om_0, om_10, om_20, om_30, om_40, om_50, om_60, om_f, F11] at p7)
          cases h8 : Q.val (om n0 n1 n2 n3 n4 0 0 [] n6) c_emp_q8
          · have p8 := (Q.holds'_iff _ _ _).2 h8
            simp only [c_emp_q8, Q.holds', E.i, E.n, D.nat, E.den, BO.den, UO.den, D.toInt_int, i64min, i64max, om_0, om_10, om_20, om_30, om_40, om_50, om_60, om_f, F11] at p8
            try (have q0 := err0 p0; unfold saysP at q0; clear p0)
            have h9 : Q.val (om n0 n1 n2 n3 n4 0 0 [] n6) c_emp_q9 = true := (Q.holds'_iff _ _ _).1 (by
              simp only [c_emp_q9, Q.holds', E.i, E.n, D.nat, E.den, BO.den, UO.den, D.toInt_int, i64min, i64max, om_0, om_10, om_20, om_30, om_40, om_50, om_60, om_f, F11]
              all_goals ((first | omega | (rw [err1 (by omega)]; split <;> rename_i hs <;> unfold saysP at hs <;> omega) | (unfold errI; exact if_pos (by omega)) | trivial)))
            have p9 := (Q.holds'_iff _ _ _).2 h9
            try (
              simp only [c_emp_q9, Q.holds', E.i, E.n, D.nat, E.den, BO.den, UO.den, D.toInt_int, i64min, i64max, om_0, om_10, om_20, om_30, om_40, om_50, om_60, om_f, F11] at p9)
            exact calls_of_yesV sound tabT_ok specsT_ok oversT_ok c_emp_y31 rfl (tellA_ok (by (repeat refine told_cons (by assumption) ?_); exact told_nil)) r0 hargs
          · have p8 := (Q.holds'_iff _ _ _).2 h8
            simp only [c_emp_q8, Q.holds', E.i, E.n, D.nat, E.den, BO.den, UO.den, D.toInt_int, i64min, i64max, om_0, om_10, om_20, om_30, om_40, om_50, om_60, om_f, F11] at p8
            try (have q0 := err0 p0; unfold saysP at q0; clear p0)
            cases h9 : Q.val (om n0 n1 n2 n3 n4 0 0 [] n6) c_emp_q10
            · have p9 := (Q.holds'_iff _ _ _).2 h9
              simp only [c_emp_q10, Q.holds', E.i, E.n, D.nat, E.den, BO.den, UO.den, D.toInt_int, i64min, i64max, om_0, om_10, om_20, om_30, om_40, om_50, om_60, om_f, F11] at p9
              try (have q0 := err0 p0; unfold saysP at q0; clear p0)
              have h10 : Q.val (om n0 n1 n2 n3 n4 0 0 [] n6) c_emp_q9 = true := (Q.holds'_iff _ _ _).1 (by
                simp only [c_emp_q9, Q.holds', E.i, E.n, D.nat, E.den, BO.den, UO.den, D.toInt_int, i64min, i64max, om_0, om_10, om_20, om_30, om_40, om_50, om_60, om_f, F11]
                all_goals ((first | omega | (rw [err1 (by omega)]; split <;> rename_i hs <;> unfold saysP at hs <;> omega) | (unfold errI; exact if_pos (by omega)) | trivial)))
              have p10 := (Q.holds'_iff _ _ _).2 h10
              try (
                simp only [c_emp_q9, Q.holds', E.i, E.n, D.nat, E.den, BO.den, UO.den, D.toInt_int, i64min, i64max, om_0, om_10, om_20, om_30, om_40, om_50, om_60, om_f, F11] at p10)
              exact calls_of_yesV sound tabT_ok specsT_ok oversT_ok c_emp_y37 rfl (tellA_ok (by (repeat refine told_cons (by assumption) ?_); exact told_nil)) r0 hargs
            · have p9 := (Q.holds'_iff _ _ _).2 h9
              simp only [c_emp_q10, Q.holds', E.i, E.n, D.nat, E.den, BO.den, UO.den, D.toInt_int, i64min, i64max, om_0, om_10, om_20, om_30, om_40, om_50, om_60, om_f, F11] at p9
              try (have q0 := err0 p0; unfold saysP at q0; clear p0)
              have h10 : Q.val (om n0 n1 n2 n3 n4 0 0 [] n6) c_emp_q11 = true := (Q.holds'_iff _ _ _).1 (by
                simp only [c_emp_q11, Q.holds', E.i, E.n, D.nat, E.den, BO.den, UO.den, D.toInt_int, i64min, i64max, om_0, om_10, om_20, om_30, om_40, om_50, om_60, om_f, F11]
                all_goals ((first | omega | (rw [err1 (by omega)]; split <;> rename_i hs <;> unfold saysP at hs <;> omega) | (unfold errI; exact if_pos (by omega)) | trivial)))
              have p10 := (Q.holds'_iff _ _ _).2 h10
              try (
                simp only [c_emp_q11, Q.holds', E.i, E.n, D.nat, E.den, BO.den, UO.den, D.toInt_int, i64min, i64max, om_0, om_10, om_20, om_30, om_40, om_50, om_60, om_f, F11] at p10)
              cases h11 : Q.val (om n0 n1 n2 n3 n4 0 0 [] n6) c_emp_q12
              · have p11 := (Q.holds'_iff _ _ _).2 h11
                simp only [c_emp_q12, Q.holds', E.i, E.n, D.nat, E.den, BO.den, UO.den, D.toInt_int, i64min, i64max, om_0, om_10, om_20, om_30, om_40, om_50, om_60, om_f, F11] at p11
                try (have q0 := err0 p0; unfold saysP at q0; clear p0)
                cases h12 : Q.val (om n0 n1 n2 n3 n4 0 0 [] n6) c_emp_q14
                · have p12 := (Q.holds'_iff _ _ _).2 h12
                  simp only [c_emp_q14, Q.holds', E.i, E.n, D.nat, E.den, BO.den, UO.den, D.toInt_int, i64min, i64max, om_0, om_10, om_20, om_30, om_40, om_50, om_60, om_f, F11] at p12
                  try (have q0 := err0 p0; unfold saysP at q0; clear p0)
                  cases h13 : Q.val (om n0 n1 n2 n3 n4 0 0 [] n6) c_emp_q17
                  · have p13 := (Q.holds'_iff _ _ _).2 h13
                    simp only [c_emp_q17, Q.holds', E.i, E.n, D.nat, E.den, BO.den, UO.den, D.toInt_int, i64min, i64max, om_0, om_10, om_20, om_30, om_40, om_50, om_60, om_f, F11] at p13
                    try (have q0 := err0 p0; unfold saysP at q0; clear p0)
                    cases h14 : Q.val (om n0 n1 n2 n3 n4 0 0 [] n6) c_emp_q18
                    · have p14 := (Q.holds'_iff _ _ _).2 h14
                      simp only [c_emp_q18, Q.holds', E.i, E.n, D.nat, E.den, BO.den, UO.den, D.toInt_int, i64min, i64max, om_0, om_10, om_20, om_30, om_40, om_50, om_60, om_f, F11] at p14
                      try (have q0 := err0 p0; unfold saysP at q0; clear p0)
                      have h15 : Q.val (om n0 n1 n2 n3 n4 0 0 [] n6) c_emp_q19 = true := (Q.holds'_iff _ _ _).1 (by
                        simp only [c_emp_q19, Q.holds', E.i, E.n, D.nat, E.den, BO.den, UO.den, D.toInt_int, i64min, i64max, om_0, om_10, om_20, om_30, om_40, om_50, om_60, om_f, F11]
                        all_goals ((first | omega | (rw [err1 (by omega)]; split <;> rename_i hs <;> unfold saysP at hs <;> omega) | (unfold errI; exact if_pos (by omega)) | trivial)))
                      have p15 := (Q.holds'_iff _ _ _).2 h15
                      try (
                        simp only [c_emp_q19, Q.holds', E.i, E.n, D.nat, E.den, BO.den, UO.den, D.toInt_int, i64min, i64max, om_0, om_10, om_20, om_30, om_40, om_50, om_60, om_f, F11] at p15)
                      have h16 : Q.val (om n0 n1 n2 n3 n4 0 0 [] n6) c_emp_q13 = true := (Q.holds'_iff _ _ _).1 (by
                        simp only [c_emp_q13, Q.holds', E.i, E.n, D.nat, E.den, BO.den, UO.den, D.toInt_int, i64min, i64max, om_0, om_10, om_20, om_30, om_40, om_50, om_60, om_f, F11]
                        all_goals ((first | omega | (rw [err1 (by omega)]; split <;> rename_i hs <;> unfold saysP at hs <;> omega) | (unfold errI; exact if_pos (by omega)) | trivial)))
                      have p16 := (Q.holds'_iff _ _ _).2 h16
                      try (
                        simp only [c_emp_q13, Q.holds', E.i, E.n, D.nat, E.den, BO.den, UO.den, D.toInt_int, i64min, i64max, om_0, om_10, om_20, om_30, om_40, om_50, om_60, om_f, F11] at p16)
                      exact calls_of_yesV sound tabT_ok specsT_ok oversT_ok c_emp_y36 rfl (tellA_ok (by (repeat refine told_cons (by assumption) ?_); exact told_nil)) r0 hargs
                    · have p14 := (Q.holds'_iff _ _ _).2 h14
                      simp only [c_emp_q18, Q.holds', E.i, E.n, D.nat, E.den, BO.den, UO.den, D.toInt_int, i64min, i64max, om_0, om_10, om_20, om_30, om_40, om_50, om_60, om_f, F11] at p14
                      try (have q0 := err0 p0; unfold saysP at q0; clear p0)
                      cases h15 : Q.val (om n0 n1 n2 n3 n4 0 0 [] n6) c_emp_q15
                      · have p15 := (Q.holds'_iff _ _ _).2 h15
                        simp only [c_emp_q15, Q.holds', E.i, E.n, D.nat, E.den, BO.den, UO.den, D.toInt_int, i64min, i64max, om_0, om_10, om_20, om_30, om_40, om_50, om_60, om_f, F11] at p15
                        try (have q0 := err0 p0; unfold saysP at q0; clear p0)
                        have h16 : Q.val (om n0 n1 n2 n3 n4 0 0 [] n6) c_emp_q13 = true := (Q.holds'_iff _ _ _).1 (by
                          simp only [c_emp_q13, Q.holds', E.i, E.n, D.nat, E.den, BO.den, UO.den, D.toInt_int, i64min, i64max, om_0, om_10, om_20, om_30, om_40, om_50, om_60, om_f, F11]
                          all_goals ((first | omega | (rw [err1 (by omega)]; split <;> rename_i hs <;> unfold saysP at hs <;> omega) | (unfold errI; exact if_pos (by omega)) | trivial)))
                        have p16 := (Q.holds'_iff _ _ _).2 h16
                        try (
                          simp only [c_emp_q13, Q.holds', E.i, E.n, D.nat, E.den, BO.den, UO.den, D.toInt_int, i64min, i64max, om_0, om_10, om_20, om_30, om_40, om_50, om_60, om_f, F11] at p16)
                        exact calls_of_yesV sound tabT_ok specsT_ok oversT_ok c_emp_y41 rfl (tellA_ok (by (repeat refine told_cons (by assumption) ?_); exact told_nil)) r0 hargs
                      · have p15 := (Q.holds'_iff _ _ _).2 h15
                        simp only [c_emp_q15, Q.holds', E.i, E.n, D.nat, E.den, BO.den, UO.den, D.toInt_int, i64min, i64max, om_0, om_10, om_20, om_30, om_40, om_50, om_60, om_f, F11] at p15
                        try (have q0 := err0 p0; unfold saysP at q0; clear p0)
                        have h16 : Q.val (om n0 n1 n2 n3 n4 0 0 [] n6) c_emp_q13 = false := (Q.holds'_iff _ _ _).1 (by
                          simp only [c_emp_q13, Q.holds', E.i, E.n, D.nat, E.den, BO.den, UO.den, D.toInt_int, i64min, i64max, om_0, om_10, om_20, om_30, om_40, om_50, om_60, om_f, F11]
                          all_goals ((first | omega | (rw [err1 (by omega)]; split <;> rename_i hs <;> unfold saysP at hs <;> omega) | (unfold errI; exact if_pos (by omega)) | trivial)))
                        have p16 := (Q.holds'_iff _ _ _).2 h16
                        try (
                          simp only [c_emp_q13, Q.holds', E.i, E.n, D.nat, E.den, BO.den, UO.den, D.toInt_int, i64min, i64max, om_0, om_10, om_20, om_30, om_40, om_50, om_60, om_f, F11] at p16)
                        have h17 : Q.val (om n0 n1 n2 n3 n4 0 0 [] n6) c_emp_q16 = true := (Q.holds'_iff _ _ _).1 (by
                          simp only [c_emp_q16, Q.holds', E.i, E.n, D.nat, E.den, BO.den, UO.den, D.toInt_int, i64min, i64max, om_0, om_10, om_20, om_30, om_40, om_50, om_60, om_f, F11]
                          all_goals ((first | omega | (rw [err1 (by omega)]; split <;> rename_i hs <;> unfold saysP at hs <;> omega) | (unfold errI; exact if_pos (by omega)) | trivial)))
                        have p17 := (Q.holds'_iff _ _ _).2 h17
                        try (
                          simp only [c_emp_q16, Q.holds', E.i, E.n, D.nat, E.den, BO.den, UO.den, D.toInt_int, i64min, i64max, om_0, om_10, om_20, om_30, om_40, om_50, om_60, om_f, F11] at p17)
                        exact calls_of_yesV sound tabT_ok specsT_ok oversT_ok c_emp_y35 rfl (tellA_ok (by (repeat refine told_cons (by assumption) ?_); exact told_nil)) r0 hargs
                  · have p13 := (Q.holds'_iff _ _ _).2 h13
                    simp only [c_emp_q17, Q.holds', E.i, E.n, D.nat, E.den, BO.den, UO.den, D.toInt_int, i64min, i64max, om_0, om_10, om_20, om_30, om_40, om_50, om_60, om_f, F11] at p13
                    try (have q0 := err0 p0; unfold saysP at q0; clear p0)
                    cases h14 : Q.val (om n0 n1 n2 n3 n4 0 0 [] n6) c_emp_q15
                    · have p14 := (Q.holds'_iff _ _ _).2 h14
                      simp only [c_emp_q15, Q.holds', E.i, E.n, D.nat, E.den, BO.den, UO.den, D.toInt_int, i64min, i64max, om_0, om_10, om_20, om_30, om_40, om_50, om_60, om_f, F11] at p14
                      try (have q0 := err0 p0; unfold saysP at q0; clear p0)
                      have h15 : Q.val (om n0 n1 n2 n3 n4 0 0 [] n6) c_emp_q13 = false := (Q.holds'_iff _ _ _).1 (by
                        simp only [c_emp_q13, Q.holds', E.i, E.n, D.nat, E.den, BO.den, UO.den, D.toInt_int, i64min, i64max, om_0, om_10, om_20, om_30, om_40, om_50, om_60, om_f, F11]
                        all_goals ((first | omega | (rw [err1 (by omega)]; split <;> rename_i hs <;> unfold saysP at hs <;> omega) | (unfold errI; exact if_pos (by omega)) | trivial)))
                      have p15 := (Q.holds'_iff _ _ _).2 h15
                      try (
                        simp only [c_emp_q13, Q.holds', E.i, E.n, D.nat, E.den, BO.den, UO.den, D.toInt_int, i64min, i64max, om_0, om_10, om_20, om_30, om_40, om_50, om_60, om_f, F11] at p15)
                      have h16 : Q.val (om n0 n1 n2 n3 n4 0 0 [] n6) c_emp_q16 = true := (Q.holds'_iff _ _ _).1 (by
                        simp only [c_emp_q16, Q.holds', E.i, E.n, D.nat, E.den, BO.den, UO.den, D.toInt_int, i64min, i64max, om_0, om_10, om_20, om_30, om_40, om_50, om_60, om_f, F11]
                        all_goals ((first | omega | (rw [err1 (by omega)]; split <;> rename_i hs <;> unfold saysP at hs <;> omega) | (unfold errI; exact if_pos (by omega)) | trivial)))
                      have p16 := (Q.holds'_iff _ _ _).2 h16
                      try (
                        simp only [c_emp_q16, Q.holds', E.i, E.n, D.nat, E.den, BO.den, UO.den, D.toInt_int, i64min, i64max, om_0, om_10, om_20, om_30, om_40, om_50, om_60, om_f, F11] at p16)
                      exact calls_of_yesV sound tabT_ok specsT_ok oversT_ok c_emp_y40 rfl (tellA_ok (by (repeat refine told_cons (by assumption) ?_); exact told_nil)) r0 hargs
                    · have p14 := (Q.holds'_iff _ _ _).2 h14
                      simp only [c_emp_q15, Q.holds', E.i, E.n, D.nat, E.den, BO.den, UO.den, D.toInt_int, i64min, i64max, om_0, om_10, om_20, om_30, om_40, om_50, om_60, om_f, F11] at p14
                      try (have q0 := err0 p0; unfold saysP at q0; clear p0)
                      have h15 : Q.val (om n0 n1 n2 n3 n4 0 0 [] n6) c_emp_q13 = false := (Q.holds'_iff _ _ _).1 (by
                        simp only [c_emp_q13, Q.holds', E.i, E.n, D.nat, E.den, BO.den, UO.den, D.toInt_int, i64min, i64max, om_0, om_10, om_20, om_30, om_40, om_50, om_60, om_f, F11]
                        all_goals ((first | omega | (rw [err1 (by omega)]; split <;> rename_i hs <;> unfold saysP at hs <;> omega) | (unfold errI; exact if_pos (by omega)) | trivial)))
                      have p15 := (Q.holds'_iff _ _ _).2 h15
                      try (
                        simp only [c_emp_q13, Q.holds', E.i, E.n, D.nat, E.den, BO.den, UO.den, D.toInt_int, i64min, i64max, om_0, om_10, om_20, om_30, om_40, om_50, om_60, om_f, F11] at p15)
                      have h16 : Q.val (om n0 n1 n2 n3 n4 0 0 [] n6) c_emp_q16 = true := (Q.holds'_iff _ _ _).1 (by
                        simp only [c_emp_q16, Q.holds', E.i, E.n, D.nat, E.den, BO.den, UO.den, D.toInt_int, i64min, i64max, om_0, om_10, om_20, om_30, om_40, om_50, om_60, om_f, F11]
                        all_goals ((first | omega | (rw [err1 (by omega)]; split <;> rename_i hs <;> unfold saysP at hs <;> omega) | (unfold errI; exact if_pos (by omega)) | trivial)))
                      have p16 := (Q.holds'_iff _ _ _).2 h16
                      try (
                        simp only [c_emp_q16, Q.holds', E.i, E.n, D.nat, E.den, BO.den, UO.den, D.toInt_int, i64min, i64max, om_0, om_10, om_20, om_30, om_40, om_50, om_60, om_f, F11] at p16)
                      exact calls_of_yesV sound tabT_ok specsT_ok oversT_ok c_emp_y34 rfl (tellA_ok (by (repeat refine told_cons (by assumption) ?_); exact told_nil)) r0 hargs
                · have p12 := (Q.holds'_iff _ _ _).2 h12
                  simp only [c_emp_q14, Q.holds', E.i, E.n, D.nat, E.den, BO.den, UO.den, D.toInt_int, i64min, i64max, om_0, om_10, om_20, om_30, om_40, om_50, om_60, om_f, F11] at p12
                  try (have q0 := err0 p0; unfold saysP at q0; clear p0)
                  cases h13 : Q.val (om n0 n1 n2 n3 n4 0 0 [] n6) c_emp_q15
                  · have p13 := (Q.holds'_iff _ _ _).2 h13
                    simp only [c_emp_q15, Q.holds', E.i, E.n, D.nat, E.den, BO.den, UO.den, D.toInt_int, i64min, i64max, om_0, om_10, om_20, om_30, om_40, om_50, om_60, om_f, F11] at p13
                    try (have q0 := err0 p0; unfold saysP at q0; clear p0)
                    have h14 : Q.val (om n0 n1 n2 n3 n4 0 0 [] n6) c_emp_q13 = true := (Q.holds'_iff _ _ _).1 (by
                      simp only [c_emp_q13, Q.holds', E.i, E.n, D.nat, E.den, BO.den, UO.den, D.toInt_int, i64min, i64max, om_0, om_10, om_20, om_30, om_40, om_50, om_60, om_f, F11]
                      all_goals ((first | omega | (rw [err1 (by omega)]; split <;> rename_i hs <;> unfold saysP at hs <;> omega) | (unfold errI; exact if_pos (by omega)) | trivial)))
                    have p14 := (Q.holds'_iff _ _ _).2 h14
                    try (
                      simp only [c_emp_q13, Q.holds', E.i, E.n, D.nat, E.den, BO.den, UO.den, D.toInt_int, i64min, i64max, om_0, om_10, om_20, om_30, om_40, om_50, om_60, om_f, F11] at p14)
                    exact calls_of_yesV sound tabT_ok specsT_ok oversT_ok c_emp_y39 rfl (tellA_ok (by (repeat refine told_cons (by assumption) ?_); exact told_nil)) r0 hargs
                  · have p13 := (Q.holds'_iff _ _ _).2 h13
                    simp only [c_emp_q15, Q.holds', E.i, E.n, D.nat, E.den, BO.den, UO.den, D.toInt_int, i64min, i64max, om_0, om_10, om_20, om_30, om_40, om_50, om_60, om_f, F11] at p13
                    try (have q0 := err0 p0; unfold saysP at q0; clear p0)
                    have h14 : Q.val (om n0 n1 n2 n3 n4 0 0 [] n6) c_emp_q13 = false := (Q.holds'_iff _ _ _).1 (by
                      simp only [c_emp_q13, Q.holds', E.i, E.n, D.nat, E.den, BO.den, UO.den, D.toInt_int, i64min, i64max, om_0, om_10, om_20, om_30, om_40, om_50, om_60, om_f, F11]
                      all_goals ((first | omega | (rw [err1 (by omega)]; split <;> rename_i hs <;> unfold saysP at hs <;> omega) | (unfold errI; exact if_pos (by omega)) | trivial)))
                    have p14 := (Q.holds'_iff _ _ _).2 h14
                    try (
                      simp only [c_emp_q13, Q.holds', E.i, E.n, D.nat, E.den, BO.den, UO.den, D.toInt_int, i64min, i64max, om_0, om_10, om_20, om_30, om_40, om_50, om_60, om_f, F11] at p14)
                    have h15 : Q.val (om n0 n1 n2 n3 n4 0 0 [] n6) c_emp_q16 = true := (Q.holds'_iff _ _ _).1 (by
                      simp only [c_emp_q16, Q.holds', E.i, E.n, D.nat, E.den, BO.den, UO.den, D.toInt_int, i64min, i64max, om_0, om_10, om_20, om_30, om_40, om_50, om_60, om_f, F11]
                      all_goals ((first | omega | (rw [err1 (by omega)]; split <;> rename_i hs <;> unfold saysP at hs <;> omega) | (unfold errI; exact if_pos (by omega)) | trivial)))
                    have p15 := (Q.holds'_iff _ _ _).2 h15
                    try (
                      simp only [c_emp_q16, Q.holds', E.i, E.n, D.nat, E.den, BO.den, UO.den, D.toInt_int, i64min, i64max, om_0, om_10, om_20, om_30, om_40, om_50, om_60, om_f, F11] at p15)
                    exact calls_of_yesV sound tabT_ok specsT_ok oversT_ok c_emp_y33 rfl (tellA_ok (by (repeat refine told_cons (by assumption) ?_); exact told_nil)) r0 hargs
              · have p11 := (Q.holds'_iff _ _ _).2 h11
                simp only [c_emp_q12, Q.holds', E.i, E.n, D.nat, E.den, BO.den, UO.den, D.toInt_int, i64min, i64max, om_0, om_10, om_20, om_30, om_40, om_50, om_60, om_f, F11] at p11
                try (have q0 := err0 p0; unfold saysP at q0; clear p0)
                cases h12 : Q.val (om n0 n1 n2 n3 n4 0 0 [] n6) c_emp_q5
                · have p12 := (Q.holds'_iff _ _ _).2 h12
                  simp only [c_emp_q5, Q.holds', E.i, E.n, D.nat, E.den, BO.den, UO.den, D.toInt_int, i64min, i64max, om_0, om_10, om_20, om_30, om_40, om_50, om_60, om_f, F11] at p12
                  try (have q0 := err0 p0; unfold saysP at q0; clear p0)
                  have h13 : Q.val (om n0 n1 n2 n3 n4 0 0 [] n6) c_emp_q13 = false := (Q.holds'_iff _ _ _).1 (by
                    simp only [c_emp_q13, Q.holds', E.i, E.n, D.nat, E.den, BO.den, UO.den, D.toInt_int, i64min, i64max, om_0, om_10, om_20, om_30, om_40, om_50, om_60, om_f, F11]
                    all_goals ((first | omega | (rw [err1 (by omega)]; split <;> rename_i hs <;> unfold saysP at hs <;> omega) | (unfold errI; exact if_pos (by omega)) | trivial)))
                  have p13 := (Q.holds'_iff _ _ _).2 h13
                  try (
                    simp only [c_emp_q13, Q.holds', E.i, E.n, D.nat, E.den, BO.den, UO.den, D.toInt_int, i64min, i64max, om_0, om_10, om_20, om_30, om_40, om_50, om_60, om_f, F11] at p13)
                  have h14 : Q.val (om n0 n1 n2 n3 n4 0 0 [] n6) c_emp_q16 = true := (Q.holds'_iff _ _ _).1 (by
                    simp only [c_emp_q16, Q.holds', E.i, E.n, D.nat, E.den, BO.den, UO.den, D.toInt_int, i64min, i64max, om_0, om_10, om_20, om_30, om_40, om_50, om_60, om_f, F11]
                    all_goals ((first | omega | (rw [err1 (by omega)]; split <;> rename_i hs <;> unfold saysP at hs <;> omega) | (unfold errI; exact if_pos (by omega)) | trivial)))
                  have p14 := (Q.holds'_iff _ _ _).2 h14
                  try (
                    simp only [c_emp_q16, Q.holds', E.i, E.n, D.nat, E.den, BO.den, UO.den, D.toInt_int, i64min, i64max, om_0, om_10, om_20, om_30, om_40, om_50, om_60, om_f, F11] at p14)
                  exact calls_of_yesV sound tabT_ok specsT_ok oversT_ok c_emp_y38 rfl (tellA_ok (by (repeat refine told_cons (by assumption) ?_); exact told_nil)) r0 hargs
                · have p12 := (Q.holds'_iff _ _ _).2 h12
                  simp only [c_emp_q5, Q.holds', E.i, E.n, D.nat, E.den, BO.den, UO.den, D.toInt_int, i64min, i64max, om_0, om_10, om_20, om_30, om_40, om_50, om_60, om_f, F11] at p12
                  try (have q0 := err0 p0; unfold saysP at q0; clear p0)
                  have h13 : Q.val (om n0 n1 n2 n3 n4 0 0 [] n6) c_emp_q13 = true := (Q.holds'_iff _ _ _).1 (by
                    simp only [c_emp_q13, Q.holds', E.i, E.n, D.nat, E.den, BO.den, UO.den, D.toInt_int, i64min, i64max, om_0, om_10, om_20, om_30, om_40, om_50, om_60, om_f, F11]
                    all_goals ((first | omega | (rw [err1 (by omega)]; split <;> rename_i hs <;> unfold saysP at hs <;> omega) | (unfold errI; exact if_pos (by omega)) | trivial)))
                  have p13 := (Q.holds'_iff _ _ _).2 h13
                  try (
                    simp only [c_emp_q13, Q.holds', E.i, E.n, D.nat, E.den, BO.den, UO.den, D.toInt_int, i64min, i64max, om_0, om_10, om_20, om_30, om_40, om_50, om_60, om_f, F11] at p13)
                  exact calls_of_yesV sound tabT_ok specsT_ok oversT_ok c_emp_y32 rfl (tellA_ok (by (repeat refine told_cons (by assumption) ?_); exact told_nil)) r0 hargs
      · have p4 := (Q.holds'_iff _ _ _).2 h4
        simp only [c_emp_q4, Q.holds', E.i, E.n, D.nat, E.den, BO.den, UO.den, D.toInt_int, i64min, i64max, om_0, om_10, om_20, om_30, om_40, om_50, om_60, om_f, F11] at p4
        try (have q0 := err0 p0; unfold saysP at q0; clear p0)
        have h5 : Q.val (om n0 n1 n2 n3 n4 0 0 [] n6) c_emp_q5 = true := (Q.holds'_iff _ _ _).1 (by
          simp only [c_emp_q5, Q.holds', E.i, E.n, D.nat, E.den, BO.den, UO.den, D.toInt_int, i64min, i64max, om_0, om_10, om_20, om_30, om_40, om_50, om_60, om_f, F11]
          all_goals ((first | omega | (rw [err1 (by omega)]; split <;> rename_i hs <;> unfold saysP at hs <;> omega) | (unfold errI; exact if_pos (by omega)) | trivial)))
        have p5 := (Q.holds'_iff _ _ _).2 h5
        try (
          simp only [c_emp_q5, Q.holds', E.i, E.n, D.nat, E.den, BO.den, UO.den, D.toInt_int, i64min, i64max, om_0, om_10, om_20, om_30, om_40, om_50, om_60, om_f, F11] at p5)
        have h6 : Q.val (om n0 n1 n2 n3 n4 0 0 [] n6) c_emp_q6 = false := (Q.holds'_iff _ _ _).1 (by
          simp only [c_emp_q6, Q.holds', E.i, E.n, D.nat, E.den, BO.den, UO.den, D.toInt_int, i64min, i64max, om_0, om_10, om_20, om_30, om_40, om_50, om_60, om_f, F11]
          all_goals ((first | omega | (rw [err1 (by omega)]; split <;> rename_i hs <;> unfold saysP at hs <;> omega) | (unfold errI; exact if_pos (by omega)) | trivial)))
        have p6 := (Q.holds'_iff _ _ _).2 h6
        try (
          simp only [c_emp_q6, Q.holds', E.i, E.n, D.nat, E.den, BO.den, UO.den, D.toInt_int, i64min, i64max, om_0, om_10, om_20, om_30, om_40, om_50, om_60, om_f, F11] at p6)
        have h7 : Q.val (om n0 n1 n2 n3 n4 0 0 [] n6) c_emp_q7 = true := (Q.holds'_iff _ _ _).1 (by
          simp only [c_emp_q7, Q.holds', E.i, E.n, D.nat, E.den, BO.den, UO.den, D.toInt_int, i64min, i64max, om_0, om_10, om_20, om_30, om_40, om_50, om_60, om_f, F11]
          all_goals ((first | omega | (rw [err1 (by omega)]; split <;> rename_i hs <;> unfold saysP at hs <;> omega) | (unfold errI; exact if_pos (by omega)) | trivial)))
        have p7 := (Q.holds'_iff _ _ _).2 h7
        try (
          simp only [c_emp_q7, Q.holds', E.i, E.n, D.nat, E.den, BO.den, UO.den, D.toInt_int, i64min, i64max, om_0, om_10, om_20, om_30, om_40, om_50, om_60, om_f, F11] at p7)
        cases h8 : Q.val (om n0 n1 n2 n3 n4 0 0 [] n6) c_emp_q8
        · have p8 := (Q.holds'_iff _ _ _).2 h8
          simp only [c_emp_q8, Q.holds', E.i, E.n, D.nat, E.den, BO.den, UO.den, D.toInt_int, i64min, i64max, om_0, om_10, om_20, om_30, om_40, om_50, om_60, om_f, F11] at p8
          try (have q0 := err0 p0; unfold saysP at q0; clear p0)
          have h9 : Q.val (om n0 n1 n2 n3 n4 0 0 [] n6) c_emp_q9 = true := (Q.holds'_iff _ _ _).1 (by
            simp only [c_emp_q9, Q.holds', E.i, E.n, D.nat, E.den, BO.den, UO.den, D.toInt_int, i64min, i64max, om_0, om_10, om_20, om_30, om_40, om_50, om_60, om_f, F11]
            all_goals ((first | omega | (rw [err1 (by omega)]; split <;> rename_i hs <;> unfold saysP at hs <;> omega) | (unfold errI; exact if_pos (by omega)) | trivial)))
          have p9 := (Q.holds'_iff _ _ _).2 h9
          try (
            simp only [c_emp_q9, Q.holds', E.i, E.n, D.nat, E.den, BO.den, UO.den, D.toInt_int, i64min, i64max, om_0, om_10, om_20, om_30, om_40, om_50, om_60, om_f, F11] at p9)
          exact calls_of_yesV sound tabT_ok specsT_ok oversT_ok c_emp_y1 rfl (tellA_ok (by (repeat refine told_cons (by assumption) ?_); exact told_nil)) r0 hargs
        · have p8 := (Q.holds'_iff _ _ _).2 h8
          simp only [c_emp_q8, Q.holds', E.i, E.n, D.nat, E.den, BO.den, UO.den, D.toInt_int, i64min, i64max, om_0, om_10, om_20, om_30, om_40, om_50, om_60, om_f, F11] at p8
          try (have q0 := err0 p0; unfold saysP at q0; clear p0)
          cases h9 : Q.val (om n0 n1 n2 n3 n4 0 0 [] n6) c_emp_q10
          · have p9 := (Q.holds'_iff _ _ _).2 h9
            simp only [c_emp_q10, Q.holds', E.i, E.n, D.nat, E.den, BO.den, UO.den, D.toInt_int, i64min, i64max, om_0, om_10, om_20, om_30, om_40, om_50, om_60, om_f, F11] at p9
            try (have q0 := err0 p0; unfold saysP at q0; clear p0)
            have h10 : Q.val (om n0 n1 n2 n3 n4 0 0 [] n6) c_emp_q9 = true := (Q.holds'_iff _ _ _).1 (by
              simp only [c_emp_q9, Q.holds', E.i, E.n, D.nat, E.den, BO.den, UO.den, D.toInt_int, i64min, i64max, om_0, om_10, om_20, om_30, om_40, om_50, om_60, om_f, F11]
              all_goals ((first | omega | (rw [err1 (by omega)]; split <;> rename_i hs <;> unfold saysP at hs <;> omega) | (unfold errI; exact if_pos (by omega)) | trivial)))
            have p10 := (Q.holds'_iff _ _ _).2 h10
            try (
              simp only [c_emp_q9, Q.holds', E.i, E.n, D.nat, E.den, BO.den, UO.den, D.toInt_int, i64min, i64max, om_0, om_10, om_20, om_30, om_40, om_50, om_60, om_f, F11] at p10)
            exact calls_of_yesV sound tabT_ok specsT_ok oversT_ok c_emp_y7 rfl (tellA_ok (by (repeat refine told_cons (by assumption) ?_); exact told_nil)) r0 hargs
          · have p9 := (Q.holds'_iff _ _ _).2 h9
            simp only [c_emp_q10, Q.holds', E.i, E.n, D.nat, E.den, BO.den, UO.den, D.toInt_int, i64min, i64max, om_0, om_10, om_20, om_30, om_40, om_50, om_60, om_f, F11] at p9
            try (have q0 := err0 p0; unfold saysP at q0; clear p0)
            have h10 : Q.val (om n0 n1 n2 n3 n4 0 0 [] n6) c_emp_q11 = true := (Q.holds'_iff _ _ _).1 (by
              simp only [c_emp_q11, Q.holds', E.i, E.n, D.nat, E.den, BO.den, UO.den, D.toInt_int, i64min, i64max, om_0, om_10, om_20, om_30, om_40, om_50, om_60, om_f, F11]
              all_goals ((first | omega | (rw [err1 (by omega)]; split <;> rename_i hs <;> unfold saysP at hs <;> omega) | (unfold errI; exact if_pos (by omega)) | trivial)))
            have p10 := (Q.holds'_iff _ _ _).2 h10
            try (
              simp only [c_emp_q11, Q.holds', E.i, E.n, D.nat, E.den, BO.den, UO.den, D.toInt_int, i64min, i64max, om_0, om_10, om_20, om_30, om_40, om_50, om_60, om_f, F11] at p10)
            cases h11 : Q.val (om n0 n1 n2 n3 n4 0 0 [] n6) c_emp_q12
            · have p11 := (Q.holds'_iff _ _ _).2 h11
              simp only [c_emp_q12, Q.holds', E.i, E.n, D.nat, E.den, BO.den, UO.den, D.toInt_int, i64min, i64max, om_0, om_10, om_20, om_30, om_40, om_50, om_60, om_f, F11] at p11
              try (have q0 := err0 p0; unfold saysP at q0; clear p0)
              cases h12 : Q.val (om n0 n1 n2 n3 n4 0 0 [] n6) c_emp_q14
              · have p12 := (Q.holds'_iff _ _ _).2 h12
                simp only [c_emp_q14, Q.holds', E.i, E.n, D.nat, E.den, BO.den, UO.den, D.toInt_int, i64min, i64max, om_0, om_10, om_20, om_30, om_40, om_50, om_60, om_f, F11] at p12
                try (have q0 := err0 p0; unfold saysP at q0; clear p0)
                cases h13 : Q.val (om n0 n1 n2 n3 n4 0 0 [] n6) c_emp_q17
                · have p13 := (Q.holds'_iff _ _ _).2 h13
                  simp only [c_emp_q17, Q.holds', E.i, E.n, D.nat, E.den, BO.den, UO.den, D.toInt_int, i64min, i64max, om_0, om_10, om_20, om_30, om_40, om_50, om_60, om_f, F11] at p13
                  try (have q0 := err0 p0; unfold saysP at q0; clear p0)
                  cases h14 : Q.val (om n0 n1 n2 n3 n4 0 0 [] n6) c_emp_q18
                  · have p14 := (Q.holds'_iff _ _ _).2 h14
                    simp only [c_emp_q18, Q.holds', E.i, E.n, D.nat, E.den, BO.den, UO.den, D.toInt_int, i64min, i64max, om_0, om_10, om_20, om_30, om_40, om_50, om_60, om_f, F11] at p14
                    try (have q0 := err0 p0; unfold saysP at q0; clear p0)
                    have h15 : Q.val (om n0 n1 n2 n3 n4 0 0 [] n6) c_emp_q19 = true := (Q.holds'_iff _ _ _).1 (by
                      simp only [c_emp_q19, Q.holds', E.i, E.n, D.nat, E.den, BO.den, UO.den, D.toInt_int, i64min, i64max, om_0, om_10, om_20, om_30, om_40, om_50, om_60, om_f, F11]
                      all_goals ((first | omega | (rw [err1 (by omega)]; split <;> rename_i hs <;> unfold saysP at hs <;> omega) | (unfold errI; exact if_pos (by omega)) | trivial)))
                    have p15 := (Q.holds'_iff _ _ _).2 h15
                    try (
                      simp only [c_emp_q19, Q.holds', E.i, E.n, D.nat, E.den, BO.den, UO.den, D.toInt_int, i64min, i64max, om_0, om_10, om_20, om_30, om_40, om_50, om_60, om_f, F11] at p15)
                    have h16 : Q.val (om n0 n1 n2 n3 n4 0 0 [] n6) c_emp_q13 = true := (Q.holds'_iff _ _ _).1 (by
                      simp only [c_emp_q13, Q.holds', E.i, E.n, D.nat, E.den, BO.den, UO.den, D.toInt_int, i64min, i64max, om_0, om_10, om_20, om_30, om_40, om_50, om_60, om_f, F11]
                      all_goals ((first | omega | (rw [err1 (by omega)]; split <;> rename_i hs <;> unfold saysP at hs <;> omega) | (unfold errI; exact if_pos (by omega)) | trivial)))
                    have p16 := (Q.holds'_iff _ _ _).2 h16
                    try (
                      simp only [c_emp_q13, Q.holds', E.i, E.n, D.nat, E.den, BO.den, UO.den, D.toInt_int, i64min, i64max, om_0, om_10, om_20, om_30, om_40, om_50, om_60, om_f, F11] at p16)
                    exact calls_of_yesV sound tabT_ok specsT_ok oversT_ok c_emp_y6 rfl (tellA_ok (by (repeat refine told_cons (by assumption) ?_); exact told_nil)) r0 hargs
                  · have p14 := (Q.holds'_iff _ _ _).2 h14
                    simp only [c_emp_q18, Q.holds', E.i, E.n, D.nat, E.den, BO.den, UO.den, D.toInt_int, i64min, i64max, om_0, om_10, om_20, om_30, om_40, om_50, om_60, om_f, F11] at p14
                    try (have q0 := err0 p0; unfold saysP at q0; clear p0)
                    have h15 : Q.val (om n0 n1 n2 n3 n4 0 0 [] n6) c_emp_q15 = true := (Q.holds'_iff _ _ _).1 (by
                      simp only [c_emp_q15, Q.holds', E.i, E.n, D.nat, E.den, BO.den, UO.den, D.toInt_int, i64min, i64max, om_0, om_10, om_20, om_30, om_40, om_50, om_60, om_f, F11]
                      all_goals ((first | omega | (rw [err1 (by omega)]; split <;> rename_i hs <;> unfold saysP at hs <;> omega) | (unfold errI; exact if_pos (by omega)) | trivial)))
                    have p15 := (Q.holds'_iff _ _ _).2 h15
                    try (
                      simp only [c_emp_q15, Q.holds', E.i, E.n, D.nat, E.den, BO.den, UO.den, D.toInt_int, i64min, i64max, om_0, om_10, om_20, om_30, om_40, om_50, om_60, om_f, F11] at p15)
                    have h16 : Q.val (om n0 n1 n2 n3 n4 0 0 [] n6) c_emp_q13 = false := (Q.holds'_iff _ _ _).1 (by
                      simp only [c_emp_q13, Q.holds', E.i, E.n, D.nat, E.den, BO.den, UO.den, D.toInt_int, i64min, i64max, om_0, om_10, om_20, om_30, om_40, om_50, om_60, om_f, F11]
                      all_goals ((first | omega | (rw [err1 (by omega)]; split <;> rename_i hs <;> unfold saysP at hs <;> omega) | (unfold errI; exact if_pos (by omega)) | trivial)))
                    have p16 := (Q.holds'_iff _ _ _).2 h16
                    try (
                      simp only [c_emp_q13, Q.holds', E.i, E.n, D.nat, E.den, BO.den, UO.den, D.toInt_int, i64min, i64max, om_0, om_10, om_20, om_30, om_40, om_50, om_60, om_f, F11] at p16)
                    have h17 : Q.val (om n0 n1 n2 n3 n4 0 0 [] n6) c_emp_q16 = true := (Q.holds'_iff _ _ _).1 (by
                      simp only [c_emp_q16, Q.holds', E.i, E.n, D.nat, E.den, BO.den, UO.den, D.toInt_int, i64min, i64max, om_0, om_10, om_20, om_30, om_40, om_50, om_60, om_f, F11]
                      all_goals ((first | omega | (rw [err1 (by omega)]; split <;> rename_i hs <;> unfold saysP at hs <;> omega) | (unfold errI; exact if_pos (by omega)) | trivial)))
                    have p17 := (Q.holds'_iff _ _ _).2 h17
                    try (
                      simp only [c_emp_q16, Q.holds', E.i, E.n, D.nat, E.den, BO.den, UO.den, D.toInt_int, i64min, i64max, om_0, om_10, om_20, om_30, om_40, om_50, om_60, om_f, F11] at p17)
                    exact calls_of_yesV sound tabT_ok specsT_ok oversT_ok c_emp_y5 rfl (tellA_ok (by (repeat refine told_cons (by assumption) ?_); exact told_nil)) r0 hargs
                · have p13 := (Q.holds'_iff _ _ _).2 h13
                  simp only [c_emp_q17, Q.holds', E.i, E.n, D.nat, E.den, BO.den, UO.den, D.toInt_int, i64min, i64max, om_0, om_10, om_20, om_30, om_40, om_50, om_60, om_f, F11] at p13
                  try (have q0 := err0 p0; unfold saysP at q0; clear p0)
                  have h14 : Q.val (om n0 n1 n2 n3 n4 0 0 [] n6) c_emp_q15 = true := (Q.holds'_iff _ _ _).1 (by
                    simp only [c_emp_q15, Q.holds', E.i, E.n, D.nat, E.den, BO.den, UO.den, D.toInt_int, i64min, i64max, om_0, om_10, om_20, om_30, om_40, om_50, om_60, om_f, F11]
                    all_goals ((first | omega | (rw [err1 (by omega)]; split <;> rename_i hs <;> unfold saysP at hs <;> omega) | (unfold errI; exact if_pos (by omega)) | trivial)))
                  have p14 := (Q.holds'_iff _ _ _).2 h14
                  try (
                    simp only [c_emp_q15, Q.holds', E.i, E.n, D.nat, E.den, BO.den, UO.den, D.toInt_int, i64min, i64max, om_0, om_10, om_20, om_30, om_40, om_50, om_60, om_f, F11] at p14)
                  have h15 : Q.val (om n0 n1 n2 n3 n4 0 0 [] n6) c_emp_q13 = false := (Q.holds'_iff _ _ _).1 (by
                    simp only [c_emp_q13, Q.holds', E.i, E.n, D.nat, E.den, BO.den, UO.den, D.toInt_int, i64min, i64max, om_0, om_10, om_20, om_30, om_40, om_50, om_60, om_f, F11]
                    all_goals ((first | omega | (rw [err1 (by omega)]; split <;> rename_i hs <;> unfold saysP at hs <;> omega) | (unfold errI; exact if_pos (by omega)) | trivial)))
                  have p15 := (Q.holds'_iff _ _ _).2 h15
                  try (
                    simp only [c_emp_q13, Q.holds', E.i, E.n, D.nat, E.den, BO.den, UO.den, D.toInt_int, i64min, i64max, om_0, om_10, om_20, om_30, om_40, om_50, om_60, om_f, F11] at p15)
                  have h16 : Q.val (om n0 n1 n2 n3 n4 0 0 [] n6) c_emp_q16 = true := (Q.holds'_iff _ _ _).1 (by
                    simp only [c_emp_q16, Q.holds', E.i, E.n, D.nat, E.den, BO.den, UO.den, D.toInt_int, i64min, i64max, om_0, om_10, om_20, om_30, om_40, om_50, om_60, om_f, F11]
                    all_goals ((first | omega | (rw [err1 (by omega)]; split <;> rename_i hs <;> unfold saysP at hs <;> omega) | (unfold errI; exact if_pos (by omega)) | trivial)))
                  have p16 := (Q.holds'_iff _ _ _).2 h16
                  try (
                    simp only [c_emp_q16, Q.holds', E.i, E.n, D.nat, E.den, BO.den, UO.den, D.toInt_int, i64min, i64max, om_0, om_10, om_20, om_30, om_40, om_50, om_60, om_f, F11] at p16)
                  exact calls_of_yesV sound tabT_ok specsT_ok oversT_ok c_emp_y4 rfl (tellA_ok (by (repeat refine told_cons (by assumption) ?_); exact told_nil)) r0 hargs
              · have p12 := (Q.holds'_iff _ _ _).2 h12
                simp only [c_emp_q14, Q.holds', E.i, E.n, D.nat, E.den, BO.den, UO.den, D.toInt_int, i64min, i64max, om_0, om_10, om_20, om_30, om_40, om_50, om_60, om_f, F11] at p12
                try (have q0 := err0 p0; unfold saysP at q0; clear p0)
                have h13 : Q.val (om n0 n1 n2 n3 n4 0 0 [] n6) c_emp_q15 = true := (Q.holds'_iff _ _ _).1 (by
                  simp only [c_emp_q15, Q.holds', E.i, E.n, D.nat, E.den, BO.den, UO.den, D.toInt_int, i64min, i64max, om_0, om_10, om_20, om_30, om_40, om_50, om_60, om_f, F11]
                  all_goals ((first | omega | (rw [err1 (by omega)]; split <;> rename_i hs <;> unfold saysP at hs <;> omega) | (unfold errI; exact if_pos (by omega)) | trivial)))
                have p13 := (Q.holds'_iff _ _ _).2 h13
                try (
                  simp only [c_emp_q15, Q.holds', E.i, E.n, D.nat, E.den, BO.den, UO.den, D.toInt_int, i64min, i64max, om_0, om_10, om_20, om_30, om_40, om_50, om_60, om_f, F11] at p13)
                have h14 : Q.val (om n0 n1 n2 n3 n4 0 0 [] n6) c_emp_q13 = false := (Q.holds'_iff _ _ _).1 (by
                  simp only [c_emp_q13, Q.holds', E.i, E.n, D.nat, E.den, BO.den, UO.den, D.toInt_int, i64min, i64max, om_0, om_10, om_20, om_30, om_40, om_50, om_60, om_f, F11]
                  all_goals ((first | omega | (rw [err1 (by omega)]; split <;> rename_i hs <;> unfold saysP at hs <;> omega) | (unfold errI; exact if_pos (by omega)) | trivial)))
                have p14 := (Q.holds'_iff _ _ _).2 h14
                try (
                  simp only [c_emp_q13, Q.holds', E.i, E.n, D.nat, E.den, BO.den, UO.den, D.toInt_int, i64min, i64max, om_0, om_10, om_20, om_30, om_40, om_50, om_60, om_f, F11] at p14)
                have h15 : Q.val (om n0 n1 n2 n3 n4 0 0 [] n6) c_emp_q16 = true := (Q.holds'_iff _ _ _).1 (by
                  simp only [c_emp_q16, Q.holds', E.i, E.n, D.nat, E.den, BO.den, UO.den, D.toInt_int, i64min, i64max, om_0, om_10, om_20, om_30, om_40, om_50, om_60, om_f, F11]
                  all_goals ((first | omega | (rw [err1 (by omega)]; split <;> rename_i hs <;> unfold saysP at hs <;> omega) | (unfold errI; exact if_pos (by omega)) | trivial)))
                have p15 := (Q.holds'_iff _ _ _).2 h15
                try (
                  simp only [c_emp_q16, Q.holds', E.i, E.n, D.nat, E.den, BO.den, UO.den, D.toInt_int, i64min, i64max, om_0, om_10, om_20, om_30, om_40, om_50, om_60, om_f, F11] at p15)
                exact calls_of_yesV sound tabT_ok specsT_ok oversT_ok c_emp_y3 rfl (tellA_ok (by (repeat refine told_cons (by assumption) ?_); exact told_nil)) r0 hargs
            · have p11 := (Q.holds'_iff _ _ _).2 h11
              simp only [c_emp_q12, Q.holds', E.i, E.n, D.nat, E.den, BO.den, UO.den, D.toInt_int, i64min, i64max, om_0, om_10, om_20, om_30, om_40, om_50, om_60, om_f, F11] at p11
              try (have q0 := err0 p0; unfold saysP at q0; clear p0)
              have h12 : Q.val (om n0 n1 n2 n3 n4 0 0 [] n6) c_emp_q13 = true := (Q.holds'_iff _ _ _).1 (by
                simp only [c_emp_q13, Q.holds', E.i, E.n, D.nat, E.den, BO.den, UO.den, D.toInt_int, i64min, i64max, om_0, om_10, om_20, om_30, om_40, om_50, om_60, om_f, F11]
                all_goals ((first | omega | (rw [err1 (by omega)]; split <;> rename_i hs <;> unfold saysP at hs <;> omega) | (unfold errI; exact if_pos (by omega)) | trivial)))
              have p12 := (Q.holds'_iff _ _ _).2 h12
              try (
                simp only [c_emp_q13, Q.holds', E.i, E.n, D.nat, E.den, BO.den, UO.den, D.toInt_int, i64min, i64max, om_0, om_10, om_20, om_30, om_40, om_50, om_60, om_f, F11] at p12)
              exact calls_of_yesV sound tabT_ok specsT_ok oversT_ok c_emp_y2 rfl (tellA_ok (by (repeat refine told_cons (by assumption) ?_); exact told_nil)) r0 hargs
    · have p1 := (Q.holds'_iff _ _ _).2 h1
      simp only [c_emp_q1, Q.holds', E.i, E.n, D.nat, E.den, BO.den, UO.den, D.toInt_int, i64min, i64max, om_0, om_10, om_20, om_30, om_40, om_50, om_60, om_f, F11] at p1
      try (have q0 := err0 p0; unfold saysP at q0; clear p0)
      have h2 : Q.val (om n0 n1 n2 n3 n4 0 0 [] n6) c_emp_q2 = true := (Q.holds'_iff _ _ _).1 (by
        simp only [c_emp_q2, Q.holds', E.i, E.n, D.nat, E.den, BO.den, UO.den, D.toInt_int, i64min, i64max, om_0, om_10, om_20, om_30, om_40, om_50, om_60, om_f, F11]
        all_goals ((first | omega | (rw [err1 (by omega)]; split <;> rename_i hs <;> unfold saysP at hs <;> omega) | (unfold errI; exact if_pos (by omega)) | trivial)))
      have p2 := (Q.holds'_iff _ _ _).2 h2
      try (
        simp only [c_emp_q2, Q.holds', E.i, E.n, D.nat, E.den, BO.den, UO.den, D.toInt_int, i64min, i64max, om_0, om_10, om_20, om_30, om_40, om_50, om_60, om_f, F11] at p2)
      have h3 : Q.val (om n0 n1 n2 n3 n4 0 0 [] n6) c_emp_q3 = false := (Q.holds'_iff _ _ _).1 (by
        simp only [c_emp_q3, Q.holds', E.i, E.n, D.nat, E.den, BO.den, UO.den, D.toInt_int, i64min, i64max, om_0, om_10, om_20, om_30, om_40, om_50, om_60, om_f, F11]
        all_goals ((first | omega | (rw [err1 (by omega)]; split <;> rename_i hs <;> unfold saysP at hs <;> omega) | (unfold errI; exact if_pos (by omega)) | trivial)))
      have p3 := (Q.holds'_iff _ _ _).2 h3
      try (
        simp only [c_emp_q3, Q.holds', E.i, E.n, D.nat, E.den, BO.den, UO.den, D.toInt_int, i64min, i64max, om_0, om_10, om_20, om_30, om_40, om_50, om_60, om_f, F11] at p3)
      have h4 : Q.val (om n0 n1 n2 n3 n4 0 0 [] n6) c_emp_q4 = false := (Q.holds'_iff _ _ _).1 (by
        simp only [c_emp_q4, Q.holds', E.i, E.n, D.nat, E.den, BO.den, UO.den, D.toInt_int, i64min, i64max, om_0, om_10, om_20, om_30, om_40, om_50, om_60, om_f, F11]
        all_goals ((first | omega | (rw [err1 (by omega)]; split <;> rename_i hs <;> unfold saysP at hs <;> omega) | (unfold errI; exact if_pos (by omega)) | trivial)))
      have p4 := (Q.holds'_iff _ _ _).2 h4
      try (
        simp only [c_emp_q4, Q.holds', E.i, E.n, D.nat, E.den, BO.den, UO.den, D.toInt_int, i64min, i64max, om_0, om_10, om_20, om_30, om_40, om_50, om_60, om_f, F11] at p4)
      have h5 : Q.val (om n0 n1 n2 n3 n4 0 0 [] n6) c_emp_q20 = false := (Q.holds'_iff _ _ _).1 (by
        simp only [c_emp_q20, Q.holds', E.i, E.n, D.nat, E.den, BO.den, UO.den, D.toInt_int, i64min, i64max, om_0, om_10, om_20, om_30, om_40, om_50, om_60, om_f, F11]
        all_goals ((first | omega | (rw [err1 (by omega)]; split <;> rename_i hs <;> unfold saysP at hs <;> omega) | (unfold errI; exact if_pos (by omega)) | trivial)))
      have p5 := (Q.holds'_iff _ _ _).2 h5
      try (
        simp only [c_emp_q20, Q.holds', E.i, E.n, D.nat, E.den, BO.den, UO.den, D.toInt_int, i64min, i64max, om_0, om_10, om_20, om_30, om_40, om_50, om_60, om_f, F11] at p5)
      have h6 : Q.val (om n0 n1 n2 n3 n4 0 0 [] n6) c_emp_q5 = false := (Q.holds'_iff _ _ _).1 (by
        simp only [c_emp_q5, Q.holds', E.i, E.n, D.nat, E.den, BO.den, UO.den, D.toInt_int, i64min, i64max, om_0, om_10, om_20, om_30, om_40, om_50, om_60, om_f, F11]
        all_goals ((first | omega | (rw [err1 (by omega)]; split <;> rename_i hs <;> unfold saysP at hs <;> omega) | (unfold errI; exact if_pos (by omega)) | trivial)))
      have p6 := (Q.holds'_iff _ _ _).2 h6
      try (
        simp only [c_emp_q5, Q.holds', E.i, E.n, D.nat, E.den, BO.den, UO.den, D.toInt_int, i64min, i64max, om_0, om_10, om_20, om_30, om_40, om_50, om_60, om_f, F11] at p6)
      cases h7 : Q.val (om n0 n1 n2 n3 n4 0 0 [] n6) c_emp_q8
      · have p7 := (Q.holds'_iff _ _ _).2 h7
        simp only [c_emp_q8, Q.holds', E.i, E.n, D.nat, E.den, BO.den, UO.den, D.toInt_int, i64min, i64max, om_0, om_10, om_20, om_30, om_40, om_50, om_60, om_f, F11] at p7
        try (have q0 := err0 p0; unfold saysP at q0; clear p0)
        have h8 : Q.val (om n0 n1 n2 n3 n4 0 0 [] n6) c_emp_q9 = true := (Q.holds'_iff _ _ _).1 (by
          simp only [c_emp_q9, Q.holds', E.i, E.n, D.nat, E.den, BO.den, UO.den, D.toInt_int, i64min, i64max, om_0, om_10, om_20, om_30, om_40, om_50, om_60, om_f, F11]
          all_goals ((first | omega | (rw [err1 (by omega)]; split <;> rename_i hs <;> unfold saysP at hs <;> omega) | (unfold errI; exact if_pos (by omega)) | trivial)))
        have p8 := (Q.holds'_iff _ _ _).2 h8
        try (
          simp only [c_emp_q9, Q.holds', E.i, E.n, D.nat, E.den, BO.den, UO.den, D.toInt_int, i64min, i64max, om_0, om_10, om_20, om_30, om_40, om_50, om_60, om_f, F11] at p8)
        exact calls_of_yesV sound tabT_ok specsT_ok oversT_ok c_emp_y15 rfl (tellA_ok (by (repeat refine told_cons (by assumption) ?_); exact told_nil)) r0 hargs
      · have p7 := (Q.holds'_iff _ _ _).2 h7
        simp only [c_emp_q8, Q.holds', E.i, E.n, D.nat, E.den, BO.den, UO.den, D.toInt_int, i64min, i64max, om_0, om_10, om_20, om_30, om_40, om_50, om_60, om_f, F11] at p7
        try (have q0 := err0 p0; unfold saysP at q0; clear p0)
        cases h8 : Q.val (om n0 n1 n2 n3 n4 0 0 [] n6) c_emp_q10
        · have p8 := (Q.holds'_iff _ _ _).2 h8
          simp only [c_emp_q10, Q.holds', E.i, E.n, D.nat, E.den, BO.den, UO.den, D.toInt_int, i64min, i64max, om_0, om_10, om_20, om_30, om_40, om_50, om_60, om_f, F11] at p8
          try (have q0 := err0 p0; unfold saysP at q0; clear p0)
          have h9 : Q.val (om n0 n1 n2 n3 n4 0 0 [] n6) c_emp_q9 = true := (Q.holds'_iff _ _ _).1 (by
            simp only [c_emp_q9, Q.holds', E.i, E.n, D.nat, E.den, BO.den, UO.den, D.toInt_int, i64min, i64max, om_0, om_10, om_20, om_30, om_40, om_50, om_60, om_f, F11]
            all_goals ((first | omega | (rw [err1 (by omega)]; split <;> rename_i hs <;> unfold saysP at hs <;> omega) | (unfold errI; exact if_pos (by omega)) | trivial)))
          have p9 := (Q.holds'_iff _ _ _).2 h9
          try (
            simp only [c_emp_q9, Q.holds', E.i, E.n, D.nat, E.den, BO.den, UO.den, D.toInt_int, i64min, i64max, om_0, om_10, om_20, om_30, om_40, om_50, om_60, om_f, F11] at p9)
          exact calls_of_yesV sound tabT_ok specsT_ok oversT_ok c_emp_y21 rfl (tellA_ok (by (repeat refine told_cons (by assumption) ?_); exact told_nil)) r0 hargs
        · have p8 := (Q.holds'_iff _ _ _).2 h8
          simp only [c_emp_q10, Q.holds', E.i, E.n, D.nat, E.den, BO.den, UO.den, D.toInt_int, i64min, i64max, om_0, om_10, om_20, om_30, om_40, om_50, om_60, om_f, F11] at p8
          try (have q0 := err0 p0; unfold saysP at q0; clear p0)
          have h9 : Q.val (om n0 n1 n2 n3 n4 0 0 [] n6) c_emp_q11 = false := (Q.holds'_iff _ _ _).1 (by
            simp only [c_emp_q11, Q.holds', E.i, E.n, D.nat, E.den, BO.den, UO.den, D.toInt_int, i64min, i64max, om_0, om_10, om_20, om_30, om_40, om_50, om_60, om_f, F11]
            all_goals ((first | omega | (rw [err1 (by omega)]; split <;> rename_i hs <;> unfold saysP at hs <;> omega) | (unfold errI; exact if_pos (by omega)) | trivial)))
          have p9 := (Q.holds'_iff _ _ _).2 h9
          try (
            simp only [c_emp_q11, Q.holds', E.i, E.n, D.nat, E.den, BO.den, UO.den, D.toInt_int, i64min, i64max, om_0, om_10, om_20, om_30, om_40, om_50, om_60, om_f, F11] at p9)
          cases h10 : Q.val (om n0 n1 n2 n3 n4 0 0 [] n6) c_emp_q12
          · have p10 := (Q.holds'_iff _ _ _).2 h10
            simp only [c_emp_q12, Q.holds', E.i, E.n, D.nat, E.den, BO.den, UO.den, D.toInt_int, i64min, i64max, om_0, om_10, om_20, om_30, om_40, om_50, om_60, om_f, F11] at p10
            try (have q0 := err0 p0; unfold saysP at q0; clear p0)
            cases h11 : Q.val (om n0 n1 n2 n3 n4 0 0 [] n6) c_emp_q14
            · have p11 := (Q.holds'_iff _ _ _).2 h11
              simp only [c_emp_q14, Q.holds', E.i, E.n, D.nat, E.den, BO.den, UO.den, D.toInt_int, i64min, i64max, om_0, om_10, om_20, om_30, om_40, om_50, om_60, om_f, F11] at p11
              try (have q0 := err0 p0; unfold saysP at q0; clear p0)
              cases h12 : Q.val (om n0 n1 n2 n3 n4 0 0 [] n6) c_emp_q17
              · have p12 := (Q.holds'_iff _ _ _).2 h12
                simp only [c_emp_q17, Q.holds', E.i, E.n, D.nat, E.den, BO.den, UO.den, D.toInt_int, i64min, i64max, om_0, om_10, om_20, om_30, om_40, om_50, om_60, om_f, F11] at p12
                try (have q0 := err0 p0; unfold saysP at q0; clear p0)
                cases h13 : Q.val (om n0 n1 n2 n3 n4 0 0 [] n6) c_emp_q18
                · have p13 := (Q.holds'_iff _ _ _).2 h13
                  simp only [c_emp_q18, Q.holds', E.i, E.n, D.nat, E.den, BO.den, UO.den, D.toInt_int, i64min, i64max, om_0, om_10, om_20, om_30, om_40, om_50, om_60, om_f, F11] at p13
                  try (have q0 := err0 p0; unfold saysP at q0; clear p0)
                  have h14 : Q.val (om n0 n1 n2 n3 n4 0 0 [] n6) c_emp_q19 = true := (Q.holds'_iff _ _ _).1 (by
                    simp only [c_emp_q19, Q.holds', E.i, E.n, D.nat, E.den, BO.den, UO.den, D.toInt_int, i64min, i64max, om_0, om_10, om_20, om_30, om_40, om_50, om_60, om_f, F11]
                    all_goals ((first | omega | (rw [err1 (by omega)]; split <;> rename_i hs <;> unfold saysP at hs <;> omega) | (unfold errI; exact if_pos (by omega)) | trivial)))
                  have p14 := (Q.holds'_iff _ _ _).2 h14
                  try (
                    simp only [c_emp_q19, Q.holds', E.i, E.n, D.nat, E.den, BO.den, UO.den, D.toInt_int, i64min, i64max, om_0, om_10, om_20, om_30, om_40, om_50, om_60, om_f, F11] at p14)
                  have h15 : Q.val (om n0 n1 n2 n3 n4 0 0 [] n6) c_emp_q13 = false := (Q.holds'_iff _ _ _).1 (by
                    simp only [c_emp_q13, Q.holds', E.i, E.n, D.nat, E.den, BO.den, UO.den, D.toInt_int, i64min, i64max, om_0, om_10, om_20, om_30, om_40, om_50, om_60, om_f, F11]
                    all_goals ((first | omega | (rw [err1 (by omega)]; split <;> rename_i hs <;> unfold saysP at hs <;> omega) | (unfold errI; exact if_pos (by omega)) | trivial)))
                  have p15 := (Q.holds'_iff _ _ _).2 h15
                  try (
                    simp only [c_emp_q13, Q.holds', E.i, E.n, D.nat, E.den, BO.den, UO.den, D.toInt_int, i64min, i64max, om_0, om_10, om_20, om_30, om_40, om_50, om_60, om_f, F11] at p15)
                  have h16 : Q.val (om n0 n1 n2 n3 n4 0 0 [] n6) c_emp_q16 = true := (Q.holds'_iff _ _ _).1 (by
                    simp only [c_emp_q16, Q.holds', E.i, E.n, D.nat, E.den, BO.den, UO.den, D.toInt_int, i64min, i64max, om_0, om_10, om_20, om_30, om_40, om_50, om_60, om_f, F11]
                    all_goals ((first | omega | (rw [err1 (by omega)]; split <;> rename_i hs <;> unfold saysP at hs <;> omega) | (unfold errI; exact if_pos (by omega)) | trivial)))
                  have p16 := (Q.holds'_iff _ _ _).2 h16
                  try (
                    simp only [c_emp_q16, Q.holds', E.i, E.n, D.nat, E.den, BO.den, UO.den, D.toInt_int, i64min, i64max, om_0, om_10, om_20, om_30, om_40, om_50, om_60, om_f, F11] at p16)
                  exact calls_of_yesV sound tabT_ok specsT_ok oversT_ok c_emp_y20 rfl (tellA_ok (by (repeat refine told_cons (by assumption) ?_); exact told_nil)) r0 hargs
                · have p13 := (Q.holds'_iff _ _ _).2 h13
                  simp only [c_emp_q18, Q.holds', E.i, E.n, D.nat, E.den, BO.den, UO.den, D.toInt_int, i64min, i64max, om_0, om_10, om_20, om_30, om_40, om_50, om_60, om_f, F11] at p13
                  try (have q0 := err0 p0; unfold saysP at q0; clear p0)
                  have h14 : Q.val (om n0 n1 n2 n3 n4 0 0 [] n6) c_emp_q13 = false := (Q.holds'_iff _ _ _).1 (by
                    simp only [c_emp_q13, Q.holds', E.i, E.n, D.nat, E.den, BO.den, UO.den, D.toInt_int, i64min, i64max, om_0, om_10, om_20, om_30, om_40, om_50, om_60, om_f, F11]
                    all_goals ((first | omega | (rw [err1 (by omega)]; split <;> rename_i hs <;> unfold saysP at hs <;> omega) | (unfold errI; exact if_pos (by omega)) | trivial)))
                  have p14 := (Q.holds'_iff _ _ _).2 h14
                  try (
                    simp only [c_emp_q13, Q.holds', E.i, E.n, D.nat, E.den, BO.den, UO.den, D.toInt_int, i64min, i64max, om_0, om_10, om_20, om_30, om_40, om_50, om_60, om_f, F11] at p14)
                  have h15 : Q.val (om n0 n1 n2 n3 n4 0 0 [] n6) c_emp_q16 = true := (Q.holds'_iff _ _ _).1 (by
                    simp only [c_emp_q16, Q.holds', E.i, E.n, D.nat, E.den, BO.den, UO.den, D.toInt_int, i64min, i64max, om_0, om_10, om_20, om_30, om_40, om_50, om_60, om_f, F11]
                    all_goals ((first | omega | (rw [err1 (by omega)]; split <;> rename_i hs <;> unfold saysP at hs <;> omega) | (unfold errI; exact if_pos (by omega)) | trivial)))
                  have p15 := (Q.holds'_iff _ _ _).2 h15
                  try (
                    simp only [c_emp_q16, Q.holds', E.i, E.n, D.nat, E.den, BO.den, UO.den, D.toInt_int, i64min, i64max, om_0, om_10, om_20, om_30, om_40, om_50, om_60, om_f, F11] at p15)
                  exact calls_of_yesV sound tabT_ok specsT_ok oversT_ok c_emp_y19 rfl (tellA_ok (by (repeat refine told_cons (by assumption) ?_); exact told_nil)) r0 hargs
              · have p12 := (Q.holds'_iff _ _ _).2 h12
                simp only [c_emp_q17, Q.holds', E.i, E.n, D.nat, E.den, BO.den, UO.den, D.toInt_int, i64min, i64max, om_0, om_10, om_20, om_30, om_40, om_50, om_60, om_f, F11] at p12
                try (have q0 := err0 p0; unfold saysP at q0; clear p0)
                have h13 : Q.val (om n0 n1 n2 n3 n4 0 0 [] n6) c_emp_q15 = false := (Q.holds'_iff _ _ _).1 (by
                  simp only [c_emp_q15, Q.holds', E.i, E.n, D.nat, E.den, BO.den, UO.den, D.toInt_int, i64min, i64max, om_0, om_10, om_20, om_30, om_40, om_50, om_60, om_f, F11]
                  all_goals ((first | omega | (rw [err1 (by omega)]; split <;> rename_i hs <;> unfold saysP at hs <;> omega) | (unfold errI; exact if_pos (by omega)) | trivial)))
                have p13 := (Q.holds'_iff _ _ _).2 h13
                try (
                  simp only [c_emp_q15, Q.holds', E.i, E.n, D.nat, E.den, BO.den, UO.den, D.toInt_int, i64min, i64max, om_0, om_10, om_20, om_30, om_40, om_50, om_60, om_f, F11] at p13)
                have h14 : Q.val (om n0 n1 n2 n3 n4 0 0 [] n6) c_emp_q13 = true := (Q.holds'_iff _ _ _).1 (by
                  simp only [c_emp_q13, Q.holds', E.i, E.n, D.nat, E.den, BO.den, UO.den, D.toInt_int, i64min, i64max, om_0, om_10, om_20, om_30, om_40, om_50, om_60, om_f, F11]
                  all_goals ((first | omega | (rw [err1 (by omega)]; split <;> rename_i hs <;> unfold saysP at hs <;> omega) | (unfold errI; exact if_pos (by omega)) | trivial)))
                have p14 := (Q.holds'_iff _ _ _).2 h14
                try (
                  simp only [c_emp_q13, Q.holds', E.i, E.n, D.nat, E.den, BO.den, UO.den, D.toInt_int, i64min, i64max, om_0, om_10, om_20, om_30, om_40, om_50, om_60, om_f, F11] at p14)
                exact calls_of_yesV sound tabT_ok specsT_ok oversT_ok c_emp_y18 rfl (tellA_ok (by (repeat refine told_cons (by assumption) ?_); exact told_nil)) r0 hargs
            · have p11 := (Q.holds'_iff _ _ _).2 h11
              simp only [c_emp_q14, Q.holds', E.i, E.n, D.nat, E.den, BO.den, UO.den, D.toInt_int, i64min, i64max, om_0, om_10, om_20, om_30, om_40, om_50, om_60, om_f, F11] at p11
              try (have q0 := err0 p0; unfold saysP at q0; clear p0)
              have h12 : Q.val (om n0 n1 n2 n3 n4 0 0 [] n6) c_emp_q13 = false := (Q.holds'_iff _ _ _).1 (by
                simp only [c_emp_q13, Q.holds', E.i, E.n, D.nat, E.den, BO.den, UO.den, D.toInt_int, i64min, i64max, om_0, om_10, om_20, om_30, om_40, om_50, om_60, om_f, F11]
                all_goals ((first | omega | (rw [err1 (by omega)]; split <;> rename_i hs <;> unfold saysP at hs <;> omega) | (unfold errI; exact if_pos (by omega)) | trivial)))
              have p12 := (Q.holds'_iff _ _ _).2 h12
              try (
                simp only [c_emp_q13, Q.holds', E.i, E.n, D.nat, E.den, BO.den, UO.den, D.toInt_int, i64min, i64max, om_0, om_10, om_20, om_30, om_40, om_50, om_60, om_f, F11] at p12)
              have h13 : Q.val (om n0 n1 n2 n3 n4 0 0 [] n6) c_emp_q16 = true := (Q.holds'_iff _ _ _).1 (by
                simp only [c_emp_q16, Q.holds', E.i, E.n, D.nat, E.den, BO.den, UO.den, D.toInt_int, i64min, i64max, om_0, om_10, om_20, om_30, om_40, om_50, om_60, om_f, F11]
                all_goals ((first | omega | (rw [err1 (by omega)]; split <;> rename_i hs <;> unfold saysP at hs <;> omega) | (unfold errI; exact if_pos (by omega)) | trivial)))
              have p13 := (Q.holds'_iff _ _ _).2 h13
              try (
                simp only [c_emp_q16, Q.holds', E.i, E.n, D.nat, E.den, BO.den, UO.den, D.toInt_int, i64min, i64max, om_0, om_10, om_20, om_30, om_40, om_50, om_60, om_f, F11] at p13)
              exact calls_of_yesV sound tabT_ok specsT_ok oversT_ok c_emp_y17 rfl (tellA_ok (by (repeat refine told_cons (by assumption) ?_); exact told_nil)) r0 hargs
          · have p10 := (Q.holds'_iff _ _ _).2 h10
            simp only [c_emp_q12, Q.holds', E.i, E.n, D.nat, E.den, BO.den, UO.den, D.toInt_int, i64min, i64max, om_0, om_10, om_20, om_30, om_40, om_50, om_60, om_f, F11] at p10
            try (have q0 := err0 p0; unfold saysP at q0; clear p0)
            have h11 : Q.val (om n0 n1 n2 n3 n4 0 0 [] n6) c_emp_q13 = false := (Q.holds'_iff _ _ _).1 (by
              simp only [c_emp_q13, Q.holds', E.i, E.n, D.nat, E.den, BO.den, UO.den, D.toInt_int, i64min, i64max, om_0, om_10, om_20, om_30, om_40, om_50, om_60, om_f, F11]
              all_goals ((first | omega | (rw [err1 (by omega)]; split <;> rename_i hs <;> unfold saysP at hs <;> omega) | (unfold errI; exact if_pos (by omega)) | trivial)))
            have p11 := (Q.holds'_iff _ _ _).2 h11
            try (
              simp only [c_emp_q13, Q.holds', E.i, E.n, D.nat, E.den, BO.den, UO.den, D.toInt_int, i64min, i64max, om_0, om_10, om_20, om_30, om_40, om_50, om_60, om_f, F11] at p11)
            have h12 : Q.val (om n0 n1 n2 n3 n4 0 0 [] n6) c_emp_q16 = true := (Q.holds'_iff _ _ _).1 (by
              simp only [c_emp_q16, Q.holds', E.i, E.n, D.nat, E.den, BO.den, UO.den, D.toInt_int, i64min, i64max, om_0, om_10, om_20, om_30, om_40, om_50, om_60, om_f, F11]
              all_goals ((first | omega | (rw [err1 (by omega)]; split <;> rename_i hs <;> unfold saysP at hs <;> omega) | (unfold errI; exact if_pos (by omega)) | trivial)))
            have p12 := (Q.holds'_iff _ _ _).2 h12
            try (
              simp only [c_emp_q16, Q.holds', E.i, E.n, D.nat, E.den, BO.den, UO.den, D.toInt_int, i64min, i64max, om_0, om_10, om_20, om_30, om_40, om_50, om_60, om_f, F11] at p12)
            exact calls_of_yesV sound tabT_ok specsT_ok oversT_ok c_emp_y16 rfl (tellA_ok (by (repeat refine told_cons (by assumption) ?_); exact told_nil)) r0 hargs

abbrev c_in_q0 : Q := (.fit .i64 (.var 50))
abbrev c_in_q1 : Q := (.le (.var 50) (.int 2000))
abbrev c_in_q2 : Q := (.le (.int 0) (.var 50))
abbrev c_in_q3 : Q := (.le (.var 50) (.int 1000000))
abbrev c_in_q4 : Q := (.eq (.fn 11 (.bi .pair (.var 0) (.bi .pair (.var 10) (.bi .pair (.var 20) (.bi .pair (.var 30) (.bi .pair (.var 40) (.bi .pair (.var 50) (.int 0)))))))) (.int 0))
abbrev c_in_q5 : Q := (.eq (.var 0) (.int 3))
abbrev c_in_q6 : Q := (.le (.int 1) (.var 10))
abbrev c_in_q7 : Q := (.le (.var 30) (.int 0))
abbrev c_in_q8 : Q := (.eq (.var 0) (.int 1))
abbrev c_in_q9 : Q := (.eq (.var 0) (.int 5))
abbrev c_in_q10 : Q := (.eq (.var 20) (.int 0))
abbrev c_in_q11 : Q := (.le (.int 1) (.var 60))
abbrev c_in_q12 : Q := (.eq (.fn 11 (.bi .pair (.var 60) (.bi .pair (.var 10) (.bi .pair (.var 20) (.bi .pair (.var 30) (.bi .pair (.var 40) (.bi .pair (.var 50) (.int 0)))))))) (.int 213))
abbrev c_in_q13 : Q := (.le (.var 60) (.int 5))
abbrev c_in_q14 : Q := (.eq (.var 30) (.int 0))
abbrev c_in_q15 : Q := (.eq (.var 60) (.int 1))
abbrev c_in_q16 : Q := (.eq (.fn 11 (.bi .pair (.var 60) (.bi .pair (.var 10) (.bi .pair (.var 20) (.bi .pair (.var 30) (.bi .pair (.var 40) (.bi .pair (.var 50) (.int 0)))))))) (.int 0))
abbrev c_in_q17 : Q := (.eq (.fn 11 (.bi .pair (.var 60) (.bi .pair (.var 10) (.bi .pair (.var 20) (.bi .pair (.var 30) (.bi .pair (.var 40) (.bi .pair (.var 50) (.int 0)))))))) (.int 2))
abbrev c_in_q18 : Q := (.eq (.var 60) (.int 2))
abbrev c_in_q19 : Q := (.eq (.var 60) (.int 3))
abbrev c_in_q20 : Q := (.le (.var 20) (.int 0))
abbrev c_in_q21 : Q := (.eq (.var 60) (.int 4))
abbrev c_in_q22 : Q := (.eq (.var 60) (.int 5))
abbrev c_in_u0 : List (Q × Bool) := [(c_in_q0, true), (c_in_q1, false)]
set_option maxRecDepth 100000 in
theorem c_in_y0 : yesOf Tryd.prog (knownV (tellA c_in_u0) tabT specsT oversT) 8000 80 8 [.agg [.sint .i64 (.var 0), .sint .i64 (.var 10), .sint .i64 (.var 20), .sint .i64 (.var 30), .sint .i64 (.var 40), .sslice 1 (.int 0) (.var 50) (.var 51) false], .sint .i64 (.var 60)] ((globSt g0).newO (.eseq ⟨.u8, .var 50, .var 52⟩)) = true := by kernel_rfl
abbrev c_in_u1 : List (Q × Bool) := [(c_in_q0, true), (c_in_q1, true), (c_in_q2, true), (c_in_q3, true), (c_in_q4, false)]
set_option maxRecDepth 100000 in
theorem c_in_y1 : yesOf Tryd.prog (knownV (tellA c_in_u1) tabT specsT oversT) 8000 80 8 [.agg [.sint .i64 (.var 0), .sint .i64 (.var 10), .sint .i64 (.var 20), .sint .i64 (.var 30), .sint .i64 (.var 40), .sslice 1 (.int 0) (.var 50) (.var 51) false], .sint .i64 (.var 60)] ((globSt g0).newO (.eseq ⟨.u8, .var 50, .var 52⟩)) = true := by kernel_rfl
abbrev c_in_u2 : List (Q × Bool) := [(c_in_q0, true), (c_in_q1, true), (c_in_q2, true), (c_in_q3, true), (c_in_q4, true), (c_in_q5, true), (c_in_q6, true), (c_in_q7, false), (c_in_q8, false), (c_in_q9, false), (c_in_q10, false), (c_in_q11, false), (c_in_q12, true)]
set_option maxRecDepth 100000 in
theorem c_in_y2 : yesOf Tryd.prog (knownV (tellA c_in_u2) tabT specsT oversT) 8000 80 8 [.agg [.sint .i64 (.var 0), .sint .i64 (.var 10), .sint .i64 (.var 20), .sint .i64 (.var 30), .sint .i64 (.var 40), .sslice 1 (.int 0) (.var 50) (.var 51) false], .sint .i64 (.var 60)] ((globSt g0).newO (.eseq ⟨.u8, .var 50, .var 52⟩)) = true := by kernel_rfl
abbrev c_in_u3 : List (Q × Bool) := [(c_in_q0, true), (c_in_q1, true), (c_in_q2, true), (c_in_q3, true), (c_in_q4, true), (c_in_q5, true), (c_in_q6, true), (c_in_q7, false), (c_in_q8, false), (c_in_q9, false), (c_in_q10, false), (c_in_q11, true), (c_in_q13, true), (c_in_q14, false), (c_in_q15, true), (c_in_q16, false), (c_in_q17, true)]
set_option maxRecDepth 100000 in
theorem c_in_y3 : yesOf Tryd.prog (knownV (tellA c_in_u3) tabT specsT oversT) 8000 80 8 [.agg [.sint .i64 (.var 0), .sint .i64 (.var 10), .sint .i64 (.var 20), .sint .i64 (.var 30), .sint .i64 (.var 40), .sslice 1 (.int 0) (.var 50) (.var 51) false], .sint .i64 (.var 60)] ((globSt g0).newO (.eseq ⟨.u8, .var 50, .var 52⟩)) = true := by kernel_rfl
abbrev c_in_u4 : List (Q × Bool) := [(c_in_q0, true), (c_in_q1, true), (c_in_q2, true), (c_in_q3, true), (c_in_q4, true), (c_in_q5, true), (c_in_q6, true), (c_in_q7, false), (c_in_q8, false), (c_in_q9, false), (c_in_q10, false), (c_in_q11, true), (c_in_q13, true), (c_in_q14, false), (c_in_q15, false), (c_in_q18, true), (c_in_q16, false), (c_in_q17, true)]
set_option maxRecDepth 100000 in
theorem c_in_y4 : yesOf Tryd.prog (knownV (tellA c_in_u4) tabT specsT oversT) 8000 80 8 [.agg [.sint .i64 (.var 0), .sint .i64 (.var 10), .sint .i64 (.var 20), .sint .i64 (.var 30), .sint .i64 (.var 40), .sslice 1 (.int 0) (.var 50) (.var 51) false], .sint .i64 (.var 60)] ((globSt g0).newO (.eseq ⟨.u8, .var 50, .var 52⟩)) = true := by kernel_rfl
abbrev c_in_u5 : List (Q × Bool) := [(c_in_q0, true), (c_in_q1, true), (c_in_q2, true), (c_in_q3, true), (c_in_q4, true), (c_in_q5, true), (c_in_q6, true), (c_in_q7, false), (c_in_q8, false), (c_in_q9, false), (c_in_q10, false), (c_in_q11, true), (c_in_q13, true), (c_in_q14, false), (c_in_q15, false), (c_in_q18, false), (c_in_q19, true), (c_in_q20, false), (c_in_q16, true)]
set_option maxRecDepth 100000 in
theorem c_in_y5 : yesOf Tryd.prog (knownV (tellA c_in_u5) tabT specsT oversT) 8000 80 8 [.agg [.sint .i64 (.var 0), .sint .i64 (.var 10), .sint .i64 (.var 20), .sint .i64 (.var 30), .sint .i64 (.var 40), .sslice 1 (.int 0) (.var 50) (.var 51) false], .sint .i64 (.var 60)] ((globSt g0).newO (.eseq ⟨.u8, .var 50, .var 52⟩)) = true := by kernel_rfl
abbrev c_in_u6 : List (Q × Bool) := [(c_in_q0, true), (c_in_q1, true), (c_in_q2, true), (c_in_q3, true), (c_in_q4, true), (c_in_q5, true), (c_in_q6, true), (c_in_q7, false), (c_in_q8, false), (c_in_q9, false), (c_in_q10, false), (c_in_q11, true), (c_in_q13, true), (c_in_q14, false), (c_in_q15, false), (c_in_q18, false), (c_in_q19, false), (c_in_q21, true), (c_in_q16, false), (c_in_q17, true)]
set_option maxRecDepth 100000 in
theorem c_in_y6 : yesOf Tryd.prog (knownV (tellA c_in_u6) tabT specsT oversT) 8000 80 8 [.agg [.sint .i64 (.var 0), .sint .i64 (.var 10), .sint .i64 (.var 20), .sint .i64 (.var 30), .sint .i64 (.var 40), .sslice 1 (.int 0) (.var 50) (.var 51) false], .sint .i64 (.var 60)] ((globSt g0).newO (.eseq ⟨.u8, .var 50, .var 52⟩)) = true := by kernel_rfl
abbrev c_in_u7 : List (Q × Bool) := [(c_in_q0, true), (c_in_q1, true), (c_in_q2, true), (c_in_q3, true), (c_in_q4, true), (c_in_q5, true), (c_in_q6, true), (c_in_q7, false), (c_in_q8, false), (c_in_q9, false), (c_in_q10, false), (c_in_q11, true), (c_in_q13, true), (c_in_q14, false), (c_in_q15, false), (c_in_q18, false), (c_in_q19, false), (c_in_q21, false), (c_in_q22, true), (c_in_q16, false), (c_in_q17, true)]
set_option maxRecDepth 100000 in
theorem c_in_y7 : yesOf Tryd.prog (knownV (tellA c_in_u7) tabT specsT oversT) 8000 80 8 [.agg [.sint .i64 (.var 0), .sint .i64 (.var 10), .sint .i64 (.var 20), .sint .i64 (.var 30), .sint .i64 (.var 40), .sslice 1 (.int 0) (.var 50) (.var 51) false], .sint .i64 (.var 60)] ((globSt g0).newO (.eseq ⟨.u8, .var 50, .var 52⟩)) = true := by kernel_rfl
abbrev c_in_u8 : List (Q × Bool) := [(c_in_q0, true), (c_in_q1, true), (c_in_q2, true), (c_in_q3, true), (c_in_q4, true), (c_in_q5, true), (c_in_q6, true), (c_in_q7, false), (c_in_q8, false), (c_in_q9, false), (c_in_q10, false), (c_in_q11, true), (c_in_q13, false), (c_in_q12, true)]
set_option maxRecDepth 100000 in
theorem c_in_y8 : yesOf Tryd.prog (knownV (tellA c_in_u8) tabT specsT oversT) 8000 80 8 [.agg [.sint .i64 (.var 0), .sint .i64 (.var 10), .sint .i64 (.var 20), .sint .i64 (.var 30), .sint .i64 (.var 40), .sslice 1 (.int 0) (.var 50) (.var 51) false], .sint .i64 (.var 60)] ((globSt g0).newO (.eseq ⟨.u8, .var 50, .var 52⟩)) = true := by kernel_rfl
set_option maxRecDepth 100000 in
set_option maxHeartbeats 6000000 in
theorem c_in_walk {W : World} {n0 : Int} (hn0 : inK .i64 n0) {n1 : Int} (hn1 : inK .i64 n1) {n2 : Int} (hn2 : inK .i64 n2) {n3 : Int} (hn3 : inK .i64 n3) {n4 : Int} (hn4 : inK .i64 n4) {v5 : Value} {b5 off5 len5 cap5 : Nat} {zs5 : List Int} (h5 : InSlice W .u8 v5 b5 off5 len5 cap5 zs5) {n6 : Int} (hn6 : inK .i64 n6) (hG : GlobsR (om n0 n1 n2 n3 n4 len5 cap5 zs5 n6) W g0) : Calls Tryd.prog 8 #[.agg #[.int .i64 n0, .int .i64 n1, .int .i64 n2, .int .i64 n3, .int .i64 n4, v5], .int .i64 n6] W fun e w' => e = .returned (.bool true) ∧ Below W.heap.size W w' := by
  have r0 := Rel.globs (om n0 n1 n2 n3 n4 len5 cap5 zs5 n6) W g0 hG
  obtain ⟨le5, r1, x5⟩ := h5.open r0 (l := 50) (c := 51) (x := 52) rfl rfl rfl
  have pos5 := h5.pos
  have lec5 := h5.le
  have max5 := h5.max
  have zl5 := h5.len
  have rng5 := h5.rng
  have hargs : VRs _ [.agg [.sint .i64 (.var 0), .sint .i64 (.var 10), .sint .i64 (.var 20), .sint .i64 (.var 30), .sint .i64 (.var 40), .sslice 1 (.int 0) (.var 50) (.var 51) false], .sint .i64 (.var 60)] [.agg #[.int .i64 n0, .int .i64 n1, .int .i64 n2, .int .i64 n3, .int .i64 n4, v5], .int .i64 n6] := VRs_cons (vr_agg (VRs_cons (vr_sint (i := 0) hn0 (by rw [r1.opq]; rfl)) (VRs_cons (vr_sint (i := 10) hn1 (by rw [r1.opq]; rfl)) (VRs_cons (vr_sint (i := 20) hn2 (by rw [r1.opq]; rfl)) (VRs_cons (vr_sint (i := 30) hn3 (by rw [r1.opq]; rfl)) (VRs_cons (vr_sint (i := 40) hn4 (by rw [r1.opq]; rfl)) (VRs_cons (x5) (VRs_nil)))))))) (VRs_cons (vr_sint (i := 60) hn6 (by rw [r1.opq]; rfl)) (VRs_nil))
  simp only [inK, i64min, i64max, u8min, u8max, u32min, u32max, u64min, u64max] at hn0
  simp only [inK, i64min, i64max, u8min, u8max, u32min, u32max, u64min, u64max] at hn1
  simp only [inK, i64min, i64max, u8min, u8max, u32min, u32max, u64min, u64max] at hn2
  simp only [inK, i64min, i64max, u8min, u8max, u32min, u32max, u64min, u64max] at hn3
  simp only [inK, i64min, i64max, u8min, u8max, u32min, u32max, u64min, u64max] at hn4
  simp only [inK, i64min, i64max, u8min, u8max, u32min, u32max, u64min, u64max] at hn6
  have h0 : Q.val (om n0 n1 n2 n3 n4 len5 cap5 zs5 n6) c_in_q0 = true := (Q.holds'_iff _ _ _).1 (by
    simp only [c_in_q0, Q.holds', E.i, E.n, D.nat, E.den, BO.den, UO.den, D.toInt_int, i64min, i64max, om_0, om_10, om_20, om_30, om_40, om_50, om_60, om_f, F11]
    all_goals ((first | omega | (rw [err1 (by omega)]; split <;> rename_i hs <;> unfold saysP at hs <;> omega) | (unfold errI; exact if_pos (by omega)) | trivial)))
  have p0 := (Q.holds'_iff _ _ _).2 h0
  try (
    simp only [c_in_q0, Q.holds', E.i, E.n, D.nat, E.den, BO.den, UO.den, D.toInt_int, i64min, i64max, om_0, om_10, om_20, om_30, om_40, om_50, om_60, om_f, F11] at p0)
  cases h1 : Q.val (om n0 n1 n2 n3 n4 len5 cap5 zs5 n6) c_in_q1
  · have p1 := (Q.holds'_iff _ _ _).2 h1
    simp only [c_in_q1, Q.holds', E.i, E.n, D.nat, E.den, BO.den, UO.den, D.toInt_int, i64min, i64max, om_0, om_10, om_20, om_30, om_40, om_50, om_60, om_f, F11] at p1
    try (have q0 := err0 p4; unfold saysP at q0; clear p4)
    exact calls_of_yesV sound tabT_ok specsT_ok oversT_ok c_in_y0 rfl (tellA_ok (told_cons h0 (told_cons h1 told_nil))) r1 hargs
  · have p1 := (Q.holds'_iff _ _ _).2 h1
    simp only [c_in_q1, Q.holds', E.i, E.n, D.nat, E.den, BO.den, UO.den, D.toInt_int, i64min, i64max, om_0, om_10, om_20, om_30, om_40, om_50, om_60, om_f, F11] at p1
    try (have q0 := err0 p4; unfold saysP at q0; clear p4)
    have h2 : Q.val (om n0 n1 n2 n3 n4 len5 cap5 zs5 n6) c_in_q2 = true := (Q.holds'_iff _ _ _).1 (by
      simp only [c_in_q2, Q.holds', E.i, E.n, D.nat, E.den, BO.den, UO.den, D.toInt_int, i64min, i64max, om_0, om_10, om_20, om_30, om_40, om_50, om_60, om_f, F11]
      all_goals ((first | omega | (rw [err1 (by omega)]; split <;> rename_i hs <;> unfold saysP at hs <;> omega) | (unfold errI; exact if_pos (by omega)) | trivial)))
    have p2 := (Q.holds'_iff _ _ _).2 h2
    try (
      simp only [c_in_q2, Q.holds', E.i, E.n, D.nat, E.den, BO.den, UO.den, D.toInt_int, i64min, i64max, om_0, om_10, om_20, om_30, om_40, om_50, om_60, om_f, F11] at p2)
    have h3 : Q.val (om n0 n1 n2 n3 n4 len5 cap5 zs5 n6) c_in_q3 = true := (Q.holds'_iff _ _ _).1 (by
      simp only [c_in_q3, Q.holds', E.i, E.n, D.nat, E.den, BO.den, UO.den, D.toInt_int, i64min, i64max, om_0, om_10, om_20, om_30, om_40, om_50, om_60, om_f, F11]
      all_goals ((first | omega | (rw [err1 (by omega)]; split <;> rename_i hs <;> unfold saysP at hs <;> omega) | (unfold errI; exact if_pos (by omega)) | trivial)))
    have p3 := (Q.holds'_iff _ _ _).2 h3
    try (
      simp only [c_in_q3, Q.holds', E.i, E.n, D.nat, E.den, BO.den, UO.den, D.toInt_int, i64min, i64max, om_0, om_10, om_20, om_30, om_40, om_50, om_60, om_f, F11] at p3)
    cases h4 : Q.val (om n0 n1 n2 n3 n4 len5 cap5 zs5 n6) c_in_q4
    · have p4 := (Q.holds'_iff _ _ _).2 h4
      simp only [c_in_q4, Q.holds', E.i, E.n, D.nat, E.den, BO.den, UO.den, D.toInt_int, i64min, i64max, om_0, om_10, om_20, om_30, om_40, om_50, om_60, om_f, F11] at p4
      try (have q0 := err0 p4; unfold saysP at q0; clear p4)
      exact calls_of_yesV sound tabT_ok specsT_ok oversT_ok c_in_y1 rfl (tellA_ok (by (repeat refine told_cons (by assumption) ?_); exact told_nil)) r1 hargs
    · have p4 := (Q.holds'_iff _ _ _).2 h4
      simp only [c_in_q4, Q.holds', E.i, E.n, D.nat, E.den, BO.den, UO.den, D.toInt_int, i64min, i64max, om_0, om_10, om_20, om_30, om_40, om_50, om_60, om_f, F11] at p4
      try (have q0 := err0 p4; unfold saysP at q0; clear p4)
      have h5 : Q.val (om n0 n1 n2 n3 n4 len5 cap5 zs5 n6) c_in_q5 = true := (Q.holds'_iff _ _ _).1 (by
        simp only [c_in_q5, Q.holds', E.i, E.n, D.nat, E.den, BO.den, UO.den, D.toInt_int, i64min, i64max, om_0, om_10, om_20, om_30, om_40, om_50, om_60, om_f, F11]
        all_goals ((first | omega | (rw [err1 (by omega)]; split <;> rename_i hs <;> unfold saysP at hs <;> omega) | (unfold errI; exact if_pos (by omega)) | trivial)))
      have p5 := (Q.holds'_iff _ _ _).2 h5
      try (
        simp only [c_in_q5, Q.holds', E.i, E.n, D.nat, E.den, BO.den, UO.den, D.toInt_int, i64min, i64max, om_0, om_10, om_20, om_30, om_40, om_50, om_60, om_f, F11] at p5)
      have h6 : Q.val (om n0 n1 n2 n3 n4 len5 cap5 zs5 n6) c_in_q6 = true := (Q.holds'_iff _ _ _).1 (by
        simp only [c_in_q6, Q.holds', E.i, E.n, D.nat, E.den, BO.den, UO.den, D.toInt_int, i64min, i64max, om_0, om_10, om_20, om_30, om_40, om_50, om_60, om_f, F11]
        all_goals ((first | omega | (rw [err1 (by omega)]; split <;> rename_i hs <;> unfold saysP at hs <;> omega) | (unfold errI; exact if_pos (by omega)) | trivial)))
      have p6 := (Q.holds'_iff _ _ _).2 h6
      try (
        simp only [c_in_q6, Q.holds', E.i, E.n, D.nat, E.den, BO.den, UO.den, D.toInt_int, i64min, i64max, om_0, om_10, om_20, om_30, om_40, om_50, om_60, om_f, F11] at p6)
      have h7 : Q.val (om n0 n1 n2 n3 n4 len5 cap5 zs5 n6) c_in_q7 = false := (Q.holds'_iff _ _ _).1 (by
        simp only [c_in_q7, Q.holds', E.i, E.n, D.nat, E.den, BO.den, UO.den, D.toInt_int, i64min, i64max, om_0, om_10, om_20, om_30, om_40, om_50, om_60, om_f, F11]
        all_goals ((first | omega | (rw [err1 (by omega)]; split <;> rename_i hs <;> unfold saysP at hs <;> omega) | (unfold errI; exact if_pos (by omega)) | trivial)))
      have p7 := (Q.holds'_iff _ _ _).2 h7
      try (
        simp only [c_in_q7, Q.holds', E.i, E.n, D.nat, E.den, BO.den, UO.den, D.toInt_int, i64min, i64max, om_0, om_10, om_20, om_30, om_40, om_50, om_60, om_f, F11] at p7)
      have h8 : Q.val (om n0 n1 n2 n3 n4 len5 cap5 zs5 n6) c_in_q8 = false := (Q.holds'_iff _ _ _).1 (by
        simp only [c_in_q8, Q.holds', E.i, E.n, D.nat, E.den, BO.den, UO.den, D.toInt_int, i64min, i64max, om_0, om_10, om_20, om_30, om_40, om_50, om_60, om_f, F11]
        all_goals ((first | omega | (rw [err1 (by omega)]; split <;> rename_i hs <;> unfold saysP at hs <;> omega) | (unfold errI; exact if_pos (by omega)) | trivial)))
      have p8 := (Q.holds'_iff _ _ _).2 h8
      try (
        simp only [c_in_q8, Q.holds', E.i, E.n, D.nat, E.den, BO.den, UO.den, D.toInt_int, i64min, i64max, om_0, om_10, om_20, om_30, om_40, om_50, om_60, om_f, F11] at p8)
      have h9 : Q.val (om n0 n1 n2 n3 n4 len5 cap5 zs5 n6) c_in_q9 = false := (Q.holds'_iff _ _ _).1 (by
        simp only [c_in_q9, Q.holds', E.i, E.n, D.nat, E.den, BO.den, UO.den, D.toInt_int, i64min, i64max, om_0, om_10, om_20, om_30, om_40, om_50, om_60, om_f, F11]
        all_goals ((first | omega | (rw [err1 (by omega)]; split <;> rename_i hs <;> unfold saysP at hs <;> omega) | (unfold errI; exact if_pos (by omega)) | trivial)))
      have p9 := (Q.holds'_iff _ _ _).2 h9
      try (
        simp only [c_in_q9, Q.holds', E.i, E.n, D.nat, E.den, BO.den, UO.den, D.toInt_int, i64min, i64max, om_0, om_10, om_20, om_30, om_40, om_50, om_60, om_f, F11] at p9)
      have h10 : Q.val (om n0 n1 n2 n3 n4 len5 cap5 zs5 n6) c_in_q10 = false := (Q.holds'_iff _ _ _).1 (by
        simp only [c_in_q10, Q.holds', E.i, E.n, D.nat, E.den, BO.den, UO.den, D.toInt_int, i64min, i64max, om_0, om_10, om_20, om_30, om_40, om_50, om_60, om_f, F11]
        all_goals ((first | omega | (rw [err1 (by omega)]; split <;> rename_i hs <;> unfold saysP at hs <;> omega) | (unfold errI; exact if_pos (by omega)) | trivial)))
      have p10 := (Q.holds'_iff _ _ _).2 h10
      try (
        simp only [c_in_q10, Q.holds', E.i, E.n, D.nat, E.den, BO.den, UO.den, D.toInt_int, i64min, i64max, om_0, om_10, om_20, om_30, om_40, om_50, om_60, om_f, F11] at p10)
      cases h11 : Q.val (om n0 n1 n2 n3 n4 len5 cap5 zs5 n6) c_in_q11
      · have p11 := (Q.holds'_iff _ _ _).2 h11
        simp only [c_in_q11, Q.holds', E.i, E.n, D.nat, E.den, BO.den, UO.den, D.toInt_int, i64min, i64max, om_0, om_10, om_20, om_30, om_40, om_50, om_60, om_f, F11] at p11
        try (have q0 := err0 p4; unfold saysP at q0; clear p4)
        have h12 : Q.val (om n0 n1 n2 n3 n4 len5 cap5 zs5 n6) c_in_q12 = true := (Q.holds'_iff _ _ _).1 (by
          simp only [c_in_q12, Q.holds', E.i, E.n, D.nat, E.den, BO.den, UO.den, D.toInt_int, i64min, i64max, om_0, om_10, om_20, om_30, om_40, om_50, om_60, om_f, F11]
          all_goals ((first | omega | (rw [err1 (by omega)]; split <;> rename_i hs <;> unfold saysP at hs <;> omega) | (unfold errI; exact if_pos (by omega)) | trivial)))
        have p12 := (Q.holds'_iff _ _ _).2 h12
        try (
          simp only [c_in_q12, Q.holds', E.i, E.n, D.nat, E.den, BO.den, UO.den, D.toInt_int, i64min, i64max, om_0, om_10, om_20, om_30, om_40, om_50, om_60, om_f, F11] at p12)
        exact calls_of_yesV sound tabT_ok specsT_ok oversT_ok c_in_y2 rfl (tellA_ok (by (repeat refine told_cons (by assumption) ?_); exact told_nil)) r1 hargs
      · have p11 := (Q.holds'_iff _ _ _).2 h11
        simp only [c_in_q11, Q.holds', E.i, E.n, D.nat, E.den, BO.den, UO.den, D.toInt_int, i64min, i64max, om_0, om_10, om_20, om_30, om_40, om_50, om_60, om_f, F11] at p11
        try (have q0 := err0 p4; unfold saysP at q0; clear p4)
        cases h12 : Q.val (om n0 n1 n2 n3 n4 len5 cap5 zs5 n6) c_in_q13
        · have p12 := (Q.holds'_iff _ _ _).2 h12
          simp only [c_in_q13, Q.holds', E.i, E.n, D.nat, E.den, BO.den, UO.den, D.toInt_int, i64min, i64max, om_0, om_10, om_20, om_30, om_40, om_50, om_60, om_f, F11] at p12
          try (have q0 := err0 p4; unfold saysP at q0; clear p4)
          have h13 : Q.val (om n0 n1 n2 n3 n4 len5 cap5 zs5 n6) c_in_q12 = true := (Q.holds'_iff _ _ _).1 (by
            simp only [c_in_q12, Q.holds', E.i, E.n, D.nat, E.den, BO.den, UO.den, D.toInt_int, i64min, i64max, om_0, om_10, om_20, om_30, om_40, om_50, om_60, om_f, F11]
            all_goals ((first | omega | (rw [err1 (by omega)]; split <;> rename_i hs <;> unfold saysP at hs <;> omega) | (unfold errI; exact if_pos (by omega)) | trivial)))
          have p13 := (Q.holds'_iff _ _ _).2 h13
          try (
            simp only [c_in_q12, Q.holds', E.i, E.n, D.nat, E.den, BO.den, UO.den, D.toInt_int, i64min, i64max, om_0, om_10, om_20, om_30, om_40, om_50, om_60, om_f, F11] at p13)
          exact calls_of_yesV sound tabT_ok specsT_ok oversT_ok c_in_y8 rfl (tellA_ok (by (repeat refine told_cons (by assumption) ?_); exact told_nil)) r1 hargs
        · have p12 := (Q.holds'_iff _ _ _).2 h12
          simp only [c_in_q13, Q.holds', E.i, E.n, D.nat, E.den, BO.den, UO.den, D.toInt_int, i64min, i64max, om_0, om_10, om_20, om_30, om_40, om_50, om_60, om_f, F11] at p12
          try (have q0 := err0 p4; unfold saysP at q0; clear p4)
          have h13 : Q.val (om n0 n1 n2 n3 n4 len5 cap5 zs5 n6) c_in_q14 = false := (Q.holds'_iff _ _ _).1 (by
            simp only [c_in_q14, Q.holds', E.i, E.n, D.nat, E.den, BO.den, UO.den, D.toInt_int, i64min, i64max, om_0, om_10, om_20, om_30, om_40, om_50, om_60, om_f, F11]
            all_goals ((first | omega | (rw [err1 (by omega)]; split <;> rename_i hs <;> unfold saysP at hs <;> omega) | (unfold errI; exact if_pos (by omega)) | trivial)))
          have p13 := (Q.holds'_iff _ _ _).2 h13
          try (
            simp only [c_in_q14, Q.holds', E.i, E.n, D.nat, E.den, BO.den, UO.den, D.toInt_int, i64min, i64max, om_0, om_10, om_20, om_30, om_40, om_50, om_60, om_f, F11] at p13)
          cases h14 : Q.val (om n0 n1 n2 n3 n4 len5 cap5 zs5 n6) c_in_q15
          · have p14 := (Q.holds'_iff _ _ _).2 h14
            simp only [c_in_q15, Q.holds', E.i, E.n, D.nat, E.den, BO.den, UO.den, D.toInt_int, i64min, i64max, om_0, om_10, om_20, om_30, om_40, om_50, om_60, om_f, F11] at p14
            try (have q0 := err0 p4; unfold saysP at q0; clear p4)
            cases h15 : Q.val (om n0 n1 n2 n3 n4 len5 cap5 zs5 n6) c_in_q18
            · have p15 := (Q.holds'_iff _ _ _).2 h15
              simp only [c_in_q18, Q.holds', E.i, E.n, D.nat, E.den, BO.den, UO.den, D.toInt_int, i64min, i64max, om_0, om_10, om_20, om_30, om_40, om_50, om_60, om_f, F11] at p15
              try (have q0 := err0 p4; unfold saysP at q0; clear p4)
              cases h16 : Q.val (om n0 n1 n2 n3 n4 len5 cap5 zs5 n6) c_in_q19
              · have p16 := (Q.holds'_iff _ _ _).2 h16
                simp only [c_in_q19, Q.holds', E.i, E.n, D.nat, E.den, BO.den, UO.den, D.toInt_int, i64min, i64max, om_0, om_10, om_20, om_30, om_40, om_50, om_60, om_f, F11] at p16
                try (have q0 := err0 p4; unfold saysP at q0; clear p4)
                cases h17 : Q.val (om n0 n1 n2 n3 n4 len5 cap5 zs5 n6) c_in_q21
                · have p17 := (Q.holds'_iff _ _ _).2 h17
                  simp only [c_in_q21, Q.holds', E.i, E.n, D.nat, E.den, BO.den, UO.den, D.toInt_int, i64min, i64max, om_0, om_10, om_20, om_30, om_40, om_50, om_60, om_f, F11] at p17
                  try (have q0 := err0 p4; unfold saysP at q0; clear p4)
                  have h18 : Q.val (om n0 n1 n2 n3 n4 len5 cap5 zs5 n6) c_in_q22 = true := (Q.holds'_iff _ _ _).1 (by
                    simp only [c_in_q22, Q.holds', E.i, E.n, D.nat, E.den, BO.den, UO.den, D.toInt_int, i64min, i64max, om_0, om_10, om_20, om_30, om_40, om_50, om_60, om_f, F11]
                    all_goals ((first | omega | (rw [err1 (by omega)]; split <;> rename_i hs <;> unfold saysP at hs <;> omega) | (unfold errI; exact if_pos (by omega)) | trivial)))
                  have p18 := (Q.holds'_iff _ _ _).2 h18
                  try (
                    simp only [c_in_q22, Q.holds', E.i, E.n, D.nat, E.den, BO.den, UO.den, D.toInt_int, i64min, i64max, om_0, om_10, om_20, om_30, om_40, om_50, om_60, om_f, F11] at p18)
                  have h19 : Q.val (om n0 n1 n2 n3 n4 len5 cap5 zs5 n6) c_in_q16 = false := (Q.holds'_iff _ _ _).1 (by
                    simp only [c_in_q16, Q.holds', E.i, E.n, D.nat, E.den, BO.den, UO.den, D.toInt_int, i64min, i64max, om_0, om_10, om_20, om_30, om_40, om_50, om_60, om_f, F11]
                    all_goals ((first | omega | (rw [err1 (by omega)]; split <;> rename_i hs <;> unfold saysP at hs <;> omega) | (unfold errI; exact if_pos (by omega)) | trivial)))
                  have p19 := (Q.holds'_iff _ _ _).2 h19
                  try (
                    simp only [c_in_q16, Q.holds', E.i, E.n, D.nat, E.den, BO.den, UO.den, D.toInt_int, i64min, i64max, om_0, om_10, om_20, om_30, om_40, om_50, om_60, om_f, F11] at p19)
                  have h20 : Q.val (om n0 n1 n2 n3 n4 len5 cap5 zs5 n6) c_in_q17 = true := (Q.holds'_iff _ _ _).1 (by
                    simp only [c_in_q17, Q.holds', E.i, E.n, D.nat, E.den, BO.den, UO.den, D.toInt_int, i64min, i64max, om_0, om_10, om_20, om_30, om_40, om_50, om_60, om_f, F11]
                    all_goals ((first | omega | (rw [err1 (by omega)]; split <;> rename_i hs <;> unfold saysP at hs <;> omega) | (unfold errI; exact if_pos (by omega)) | trivial)))
                  have p20 := (Q.holds'_iff _ _ _).2 h20
                  try (
                    simp only [c_in_q17, Q.holds', E.i, E.n, D.nat, E.den, BO.den, UO.den, D.toInt_int, i64min, i64max, om_0, om_10, om_20, om_30, om_40, om_50, om_60, om_f, F11] at p20)
                  exact calls_of_yesV sound tabT_ok specsT_ok oversT_ok c_in_y7 rfl (tellA_ok (by (repeat refine told_cons (by assumption) ?_); exact told_nil)) r1 hargs
                · have p17 := (Q.holds'_iff _ _ _).2 h17
                  simp only [c_in_q21, Q.holds', E.i, E.n, D.nat, E.den, BO.den, UO.den, D.toInt_int, i64min, i64max, om_0, om_10, om_20, om_30, om_40, om_50, om_60, om_f, F11] at p17
                  try (have q0 := err0 p4; unfold saysP at q0; clear p4)
                  have h18 : Q.val (om n0 n1 n2 n3 n4 len5 cap5 zs5 n6) c_in_q16 = false := (Q.holds'_iff _ _ _).1 (by
                    simp only [c_in_q16, Q.holds', E.i, E.n, D.nat, E.den, BO.den, UO.den, D.toInt_int, i64min, i64max, om_0, om_10, om_20, om_30, om_40, om_50, om_60, om_f, F11]
                    all_goals ((first | omega | (rw [err1 (by omega)]; split <;> rename_i hs <;> unfold saysP at hs <;> omega) | (unfold errI; exact if_pos (by omega)) | trivial)))
                  have p18 := (Q.holds'_iff _ _ _).2 h18
                  try (
                    simp only [c_in_q16, Q.holds', E.i, E.n, D.nat, E.den, BO.den, UO.den, D.toInt_int, i64min, i64max, om_0, om_10, om_20, om_30, om_40, om_50, om_60, om_f, F11] at p18)
                  have h19 : Q.val (om n0 n1 n2 n3 n4 len5 cap5 zs5 n6) c_in_q17 = true := (Q.holds'_iff _ _ _).1 (by
                    simp only [c_in_q17, Q.holds', E.i, E.n, D.nat, E.den, BO.den, UO.den, D.toInt_int, i64min, i64max, om_0, om_10, om_20, om_30, om_40, om_50, om_60, om_f, F11]
                    all_goals ((first | omega | (rw [err1 (by omega)]; split <;> rename_i hs <;> unfold saysP at hs <;> omega) | (unfold errI; exact if_pos (by omega)) | trivial)))
                  have p19 := (Q.holds'_iff _ _ _).2 h19
                  try (
                    simp only [c_in_q17, Q.holds', E.i, E.n, D.nat, E.den, BO.den, UO.den, D.toInt_int, i64min, i64max, om_0, om_10, om_20, om_30, om_40, om_50, om_60, om_f, F11] at p19)
                  exact calls_of_yesV sound tabT_ok specsT_ok oversT_ok c_in_y6 rfl (tellA_ok (by (repeat refine told_cons (by assumption) ?_); exact told_nil)) r1 hargs
              · have p16 := (Q.holds'_iff _ _ _).2 h16
                simp only [c_in_q19, Q.holds', E.i, E.n, D.nat, E.den, BO.den, UO.den, D.toInt_int, i64min, i64max, om_0, om_10, om_20, om_30, om_40, om_50, om_60, om_f, F11] at p16
                try (have q0 := err0 p4; unfold saysP at q0; clear p4)
                have h17 : Q.val (om n0 n1 n2 n3 n4 len5 cap5 zs5 n6) c_in_q20 = false := (Q.holds'_iff _ _ _).1 (by
                  simp only [c_in_q20, Q.holds', E.i, E.n, D.nat, E.den, BO.den, UO.den, D.toInt_int, i64min, i64max, om_0, om_10, om_20, om_30, om_40, om_50, om_60, om_f, F11]
                  all_goals ((first | omega | (rw [err1 (by omega)]; split <;> rename_i hs <;> unfold saysP at hs <;> omega) | (unfold errI; exact if_pos (by omega)) | trivial)))
                have p17 := (Q.holds'_iff _ _ _).2 h17
                try (
                  simp only [c_in_q20, Q.holds', E.i, E.n, D.nat, E.den, BO.den, UO.den, D.toInt_int, i64min, i64max, om_0, om_10, om_20, om_30, om_40, om_50, om_60, om_f, F11] at p17)
                have h18 : Q.val (om n0 n1 n2 n3 n4 len5 cap5 zs5 n6) c_in_q16 = true := (Q.holds'_iff _ _ _).1 (by
                  simp only [c_in_q16, Q.holds', E.i, E.n, D.nat, E.den, BO.den, UO.den, D.toInt_int, i64min, i64max, om_0, om_10, om_20, om_30, om_40, om_50, om_60, om_f, F11]
                  all_goals ((first | omega | (rw [err1 (by omega)]; split <;> rename_i hs <;> unfold saysP at hs <;> omega) | (unfold errI; exact if_pos (by omega)) | trivial)))
                have p18 := (Q.holds'_iff _ _ _).2 h18
                try (
                  simp only [c_in_q16, Q.holds', E.i, E.n, D.nat, E.den, BO.den, UO.den, D.toInt_int, i64min, i64max, om_0, om_10, om_20, om_30, om_40, om_50, om_60, om_f, F11] at p18)
                exact calls_of_yesV sound tabT_ok specsT_ok oversT_ok c_in_y5 rfl (tellA_ok (by (repeat refine told_cons (by assumption) ?_); exact told_nil)) r1 hargs
            · have p15 := (Q.holds'_iff _ _ _).2 h15
              simp only [c_in_q18, Q.holds', E.i, E.n, D.nat, E.den, BO.den, UO.den, D.toInt_int, i64min, i64max, om_0, om_10, om_20, om_30, om_40, om_50, om_60, om_f, F11] at p15
              try (have q0 := err0 p4; unfold saysP at q0; clear p4)
              have h16 : Q.val (om n0 n1 n2 n3 n4 len5 cap5 zs5 n6) c_in_q16 = false := (Q.holds'_iff _ _ _).1 (by
                simp only [c_in_q16, Q.holds', E.i, E.n, D.nat, E.den, BO.den, UO.den, D.toInt_int, i64min, i64max, om_0, om_10, om_20, om_30, om_40, om_50, om_60, om_f, F11]
                all_goals ((first | omega | (rw [err1 (by omega)]; split <;> rename_i hs <;> unfold saysP at hs <;> omega) | (unfold errI; exact if_pos (by omega)) | trivial)))
              have p16 := (Q.holds'_iff _ _ _).2 h16
              try (
                simp only [c_in_q16, Q.holds', E.i, E.n, D.nat, E.den, BO.den, UO.den, D.toInt_int, i64min, i64max, om_0, om_10, om_20, om_30, om_40, om_50, om_60, om_f, F11] at p16)
              have h17 : Q.val (om n0 n1 n2 n3 n4 len5 cap5 zs5 n6) c_in_q17 = true := (Q.holds'_iff _ _ _).1 (by
                simp only [c_in_q17, Q.holds', E.i, E.n, D.nat, E.den, BO.den, UO.den, D.toInt_int, i64min, i64max, om_0, om_10, om_20, om_30, om_40, om_50, om_60, om_f, F11]
                all_goals ((first | omega | (rw [err1 (by omega)]; split <;> rename_i hs <;> unfold saysP at hs <;> omega) | (unfold errI; exact if_pos (by omega)) | trivial)))
              have p17 := (Q.holds'_iff _ _ _).2 h17
              try (
                simp only [c_in_q17, Q.holds', E.i, E.n, D.nat, E.den, BO.den, UO.den, D.toInt_int, i64min, i64max, om_0, om_10, om_20, om_30, om_40, om_50, om_60, om_f, F11] at p17)
              exact calls_of_yesV sound tabT_ok specsT_ok oversT_ok c_in_y4 rfl (tellA_ok (by (repeat refine told_cons (by assumption) ?_); exact told_nil)) r1 hargs
          · have p14 := (Q.holds'_iff _ _ _).2 h14
            simp only [c_in_q15, Q.holds', E.i, E.n, D.nat, E.den, BO.den, UO.den, D.toInt_int, i64min, i64max, om_0, om_10, om_20, om_30, om_40, om_50, om_60, om_f, F11] at p14
            try (have q0 := err0 p4; unfold saysP at q0; clear p4)
            have h15 : Q.val (om n0 n1 n2 n3 n4 len5 cap5 zs5 n6) c_in_q16 = false := (Q.holds'_iff _ _ _).1 (by
              simp only [c_in_q16, Q.holds', E.i, E.n, D.nat, E.den, BO.den, UO.den, D.toInt_int, i64min, i64max, om_0, om_10, om_20, om_30, om_40, om_50, om_60, om_f, F11]
              all_goals ((first | omega | (rw [err1 (by omega)]; split <;> rename_i hs <;> unfold saysP at hs <;> omega) | (unfold errI; exact if_pos (by omega)) | trivial)))
            have p15 := (Q.holds'_iff _ _ _).2 h15
            try (
              simp only [c_in_q16, Q.holds', E.i, E.n, D.nat, E.den, BO.den, UO.den, D.toInt_int, i64min, i64max, om_0, om_10, om_20, om_30, om_40, om_50, om_60, om_f, F11] at p15)
            have h16 : Q.val (om n0 n1 n2 n3 n4 len5 cap5 zs5 n6) c_in_q17 = true := (Q.holds'_iff _ _ _).1 (by
              simp only [c_in_q17, Q.holds', E.i, E.n, D.nat, E.den, BO.den, UO.den, D.toInt_int, i64min, i64max, om_0, om_10, om_20, om_30, om_40, om_50, om_60, om_f, F11]
              all_goals ((first | omega | (rw [err1 (by omega)]; split <;> rename_i hs <;> unfold saysP at hs <;> omega) | (unfold errI; exact if_pos (by omega)) | trivial)))
            have p16 := (Q.holds'_iff _ _ _).2 h16
            try (
              simp only [c_in_q17, Q.holds', E.i, E.n, D.nat, E.den, BO.den, UO.den, D.toInt_int, i64min, i64max, om_0, om_10, om_20, om_30, om_40, om_50, om_60, om_f, F11] at p16)
            exact calls_of_yesV sound tabT_ok specsT_ok oversT_ok c_in_y3 rfl (tellA_ok (by (repeat refine told_cons (by assumption) ?_); exact told_nil)) r1 hargs

theorem underS22 : Tryd.prog.underlying 22 = some (.slice 5) := by kernel_rfl
theorem underE5 : Tryd.prog.underlying 5 = some (.int .u8) := by kernel_rfl
theorem cellsE5 : Tryd.prog.cellsOf 5 = 1 := by kernel_rfl
theorem underI3 : Tryd.prog.underlying 3 = some (.int .i64) := by kernel_rfl
theorem len6 {l : List Value} (h : l.length = 6) : ∃ c0 c1 c2 c3 c4 c5, l = [c0, c1, c2, c3, c4, c5] := by
  match l, h with
  | [c0, c1, c2, c3, c4, c5], _ => exact ⟨_, _, _, _, _, _, rfl⟩

set_option maxRecDepth 100000 in
theorem lifted (os : Os) (started : os.Started) (H : Type) (enc : TypeId × Value → H) :
    ReturnsInHanded {} Tryd.checked os 8 .any (fun w args => (Rows.frameTypesSpec.pre enc Tryd.prog Tryd.f8 [] false w args ∧ laidMetH Tryd.prog laidL w) ∧ sizedMet enc Tryd.prog Tryd.f8 (OpenSpec.ofChange Rows.frameTypesSpec) false w args)
      (Rows.frameTypesSpec.post enc Tryd.prog Tryd.f8 false true false false) := by
  refine returnsInHanded_of_change_and (C := Tryd.checked) (X := fun w _ => laidMetH Tryd.prog laidL w) (fun _ _ _ hh h => h.of_heap hh) own started (by kernel_rfl) Tryd.func8
    (ChangeSpec.witness_shaped (enc := enc) (C := Tryd.checked) (os := os) (X := fun w _ => laidMetH Tryd.prog laidL w) false (World.doorLaid Tryd.prog 400 os) #[.agg #[.int .i64 0, .int .i64 0, .int .i64 0, .int .i64 0, .int .i64 0, .slice none 0 0], .int .i64 0] 8 rfl (World.shaped_of_RefB (by kernel_rfl) (by kernel_rfl)) (by kernel_rfl) (by kernel_rfl) (by kernel_rfl) (door_met os _)) ?_
  intro W base args ds gs before hval0 hW _ _ hL _
  have hval : ∀ (j : Nat) t v, Tryd.f8.params[j]? = some t → args[j]? = some v → Value.okWide Tryd.prog W .any base t v := hval0
  have hW' := hW
  have hlt := hW.lt
  obtain ⟨p, q, hA0, hV, rfl, hfz, hnd⟩ := hW
  have hA : DataW.TrodAll enc Tryd.prog W 0 (fun _ => true) true Tryd.f8.params.toList args.toList ds p := hA0
  have hAll := hA
  rw [Tryd.params8] at hA hval hAll
  obtain ⟨rfl, rfl⟩ := trodVars_none hV
  obtain ⟨pv0, pv1, d0, d1, p0, p1, rfl, rfl, rfl, h0, h1⟩ := trodAll_two hA
  obtain ⟨cs0, rfl, hl0, ht0⟩ := in_struct (L := [(3, 0, 1), (3, 1, 1), (3, 2, 1), (3, 3, 1), (3, 4, 1), (22, 5, 1)]) (n := 6) (by kernel_rfl) (by kernel_rfl) (hval 0 24 _ rfl rfl) h0
  obtain ⟨x0_0, x0_1, x0_2, x0_3, x0_4, x0_5, rfl⟩ := len6 hl0
  have q_ht0 := trod_pieces (L := [(3, 0, 1), (3, 1, 1), (3, 2, 1), (3, 3, 1), (3, 4, 1), (22, 5, 1)]) (by kernel_rfl) ht0
  obtain ⟨n0, rfl, wn0⟩ := leaf_int underI3 (show ∃ m y, DataW.trod enc Tryd.prog W 0 (fun _ => true) true m 3 [x0_0] = some y from q_ht0 (3, 0, 1) (by simp))
  obtain ⟨n1, rfl, wn1⟩ := leaf_int underI3 (show ∃ m y, DataW.trod enc Tryd.prog W 0 (fun _ => true) true m 3 [x0_1] = some y from q_ht0 (3, 1, 1) (by simp))
  obtain ⟨n2, rfl, wn2⟩ := leaf_int underI3 (show ∃ m y, DataW.trod enc Tryd.prog W 0 (fun _ => true) true m 3 [x0_2] = some y from q_ht0 (3, 2, 1) (by simp))
  obtain ⟨n3, rfl, wn3⟩ := leaf_int underI3 (show ∃ m y, DataW.trod enc Tryd.prog W 0 (fun _ => true) true m 3 [x0_3] = some y from q_ht0 (3, 3, 1) (by simp))
  obtain ⟨n4, rfl, wn4⟩ := leaf_int underI3 (show ∃ m y, DataW.trod enc Tryd.prog W 0 (fun _ => true) true m 3 [x0_4] = some y from q_ht0 (3, 4, 1) (by simp))
  have s5 := leaf_slice (k := .u8) underS22 underE5 cellsE5 (show ∃ m y, DataW.trod enc Tryd.prog W 0 (fun _ => true) true m 22 [x0_5] = some y from q_ht0 (22, 5, 1) (by simp))
  obtain ⟨n6, rfl, rfl, rfl, wn6⟩ := open_int underI3 (hval 1 3 _ rfl rfl) h1
  have wn6 := wf_inK wn6
  clear hA0 hval0
  have hcall : Calls Tryd.prog 8 #[.agg #[.int .i64 n0, .int .i64 n1, .int .i64 n2, .int .i64 n3, .int .i64 n4, x0_5], .int .i64 n6] W fun e w' => e = .returned (.bool true) ∧ Below W.heap.size W w' := by
    rcases s5 with rfl | ⟨a5, c5, rfl⟩ | ⟨_, _, _, _, _, s5⟩
    · exact c_emp_walk wn0 wn1 wn2 wn3 wn4 (fun _ => vr_emptyN) wn6 (globs0 _ hL)
    · exact c_emp_walk wn0 wn1 wn2 wn3 wn4 (fun _ => vr_emptyH a5 c5) wn6 (globs0 _ hL)
    · exact c_in_walk wn0 wn1 wn2 wn3 wn4 s5 wn6 (globs0 _ hL)
  refine hcall.mono fun e W' ⟨he, hg⟩ => ?_
  subst he
  exact ⟨_, rfl, _, [], _, [], _, [], hW', trodAll_cons_mk (shut_bool Tryd.underlying4 _) trodAll_mk0, trodAll_stays laid hg _ _ _ _ hAll (fun x hx => hlt x (by simpa using hx)) (by kernel_rfl), rfl, hg.frame _, fun h => by cases h⟩

theorem over : Rows.frameTypesRow.holds Tryd.pinned (OpenSpec.ofChange Rows.frameTypesSpec) :=
  OpenClaim.holds_of_wide 8 Tryd.f8 rfl rfl rfl rfl rfl rfl rfl ⟨rfl, rfl, rfl, rfl, rfl⟩ rfl rfl rfl rfl rfl (by kernel_rfl) Tryd.func8 (by kernel_rfl)
    (of_decide_eq_true (by kernel_rfl)) (by unfold Func.isWrapper; first | (rw [if_pos (by decide +kernel)]; kernel_rfl) | (rw [if_neg (by decide +kernel)]; exact ⟨rfl, rfl⟩))
    (fun os started H enc _ => lifted os started H enc)

/-- The statement: the tied card. -/
theorem proved : Rows.FrameTypesCardSaid :=
  Claim7.holds_tied_plain_at .later [] [.wider] true (true, "6723d8c1d0b12c6a2afdd924a4dfe7f1a7ea71b0fb2d32eb5ba4caa8938006bd") false
    over (fun _ h => by cases h) (by kernel_rfl) (fun _ h => by cases h) frameTypes_row_tie rfl ⟨rfl, rfl⟩ (by kernel_rfl) rfl
    (fun f fn hf hfn => by
      obtain rfl : f = 8 := Option.some.inj ((show Tryd.prog.funcNamed "satchel/satchellaw11.FrameTypes" = some 8 by kernel_rfl).symm.trans hf) |>.symm
      obtain rfl : fn = Tryd.f8 := (Option.some.inj (Tryd.func8.symm.trans hfn)).symm
      exact ⟨by kernel_rfl, fun j t ht => by
        rw [Tryd.params8] at ht
        have hm : t ∈ ([24, 3] : List TypeId) := by simpa using Array.mem_of_getElem? ht
        have hall : (([24, 3] : List TypeId).all fun u => !Tryd.prog.wantsStandIn u) = true := by kernel_rfl
        exact (show Tryd.prog.wantsStandIn t = false by simpa using List.all_eq_true.1 hall t hm)⟩)
    (by kernel_rfl)
#print axioms proved
end Go.Proofs.YtlmcjfcfmcdcpaaDoor.frameTypes
