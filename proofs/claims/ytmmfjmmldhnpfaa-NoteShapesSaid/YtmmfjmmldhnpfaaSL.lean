/-
 The law NoteShapes of the layer note holds of the code: for all inputs the call returns true, and the arguments read as they did. No condition.
-/
import Derived.Test.YtmmfjmmldhnpfaaCo
import Derived.Test.YtmmfjmmldhnpfaaSycp
import Derived.Test.YtmmfjmmldhnpfaaSyag
import Derived.Test.YtmmfjmmldhnpfaaSyvp
import Derived.Test.YtmmfjmmldhnpfaaSb
import Derived.Test.YtmmfjmmldhnpfaaSa
import Derived.WalkKit
import Derived.ProofKit
import Derived.OpenShut
set_option linter.unusedSimpArgs false
set_option linter.unusedVariables false
namespace Go.Proofs.Ytmmfjmmldhnpfaa.noteShapes
open Go.ChangeShapes Go.WideShapes Go.ChangeAt Go.RowKit Go.Ev Go.Proofs.Ytmmfjmmldhnpfaa.Co Go.Proofs.Ytmmfjmmldhnpfaa.Sb Go.Proofs.Ytmmfjmmldhnpfaa.Sa

def om (n0 : Int) (w1 : Value) (dv1 : D) (w2 : Value) (dv2 : D) (w3 : Value) (dv3 : D) (n4 : Int) : Om := ⟨fun i => if i = 10 then w1 else if i = 20 then w2 else if i = 30 then w3 else .bool false, fun i => if i = 0 then .int n0 else if i = 10 then dv1 else if i = 20 then dv2 else if i = 30 then dv3 else if i = 40 then .int n4 else .int 0, F⟩
theorem om_0 (n0 : Int) (w1 : Value) (dv1 : D) (w2 : Value) (dv2 : D) (w3 : Value) (dv3 : D) (n4 : Int) : (om n0 w1 dv1 w2 dv2 w3 dv3 n4).d 0 = .int n0 := rfl
theorem om_10 (n0 : Int) (w1 : Value) (dv1 : D) (w2 : Value) (dv2 : D) (w3 : Value) (dv3 : D) (n4 : Int) : (om n0 w1 dv1 w2 dv2 w3 dv3 n4).d 10 = dv1 := rfl
theorem om_20 (n0 : Int) (w1 : Value) (dv1 : D) (w2 : Value) (dv2 : D) (w3 : Value) (dv3 : D) (n4 : Int) : (om n0 w1 dv1 w2 dv2 w3 dv3 n4).d 20 = dv2 := rfl
theorem om_30 (n0 : Int) (w1 : Value) (dv1 : D) (w2 : Value) (dv2 : D) (w3 : Value) (dv3 : D) (n4 : Int) : (om n0 w1 dv1 w2 dv2 w3 dv3 n4).d 30 = dv3 := rfl
theorem om_40 (n0 : Int) (w1 : Value) (dv1 : D) (w2 : Value) (dv2 : D) (w3 : Value) (dv3 : D) (n4 : Int) : (om n0 w1 dv1 w2 dv2 w3 dv3 n4).d 40 = .int n4 := rfl
theorem om_f (n0 : Int) (w1 : Value) (dv1 : D) (w2 : Value) (dv2 : D) (w3 : Value) (dv3 : D) (n4 : Int) : (om n0 w1 dv1 w2 dv2 w3 dv3 n4).f = F := rfl
theorem wrong5 {k n i b : Int} {x : List Int} (h0 : nameI (kindI k) ≠ []) (h : ¬ (lowI (kindI k) 1 ≤ n ∧ n ≤ topI (kindI k) 1 ∧ lowI (kindI k) 2 ≤ i ∧ i ≤ topI (kindI k) 2 ∧ lowI (kindI k) 3 ≤ b ∧ b ≤ topI (kindI k) 3)) : wrongI k n i b x = 5 := by
 unfold wrongI
 rw [if_neg h0]
 rw [if_neg]
 intro h1
 simp only [holdB, Bool.and_eq_true, decide_eq_true_eq] at h1
 exact h ⟨h1.1.1.1, h1.1.1.2, h1.1.2.1, h1.1.2.2, h1.2.1, h1.2.2⟩
theorem wrong5x {k n i b : Int} {x : List Int} (h0 : nameI (kindI k) ≠ []) (h : ¬ fineL x = true) : wrongI k n i b x = 5 := by
 unfold wrongI
 rw [if_neg h0, if_neg h]
 split <;> rfl
theorem lens_t {s : Sh} {d : D} {B : Nat} (h : (Sh.sl s).lens B d) : d.ints.length ≤ B := by
 rw [Sh.lens] at h
 rw [← len_ints]
 exact h.1
theorem fine_set {x : List Int} {p : Nat} (h : p < x.length) : ¬ fineL (x.set p (-1)) = true := by
 intro g
 have := List.all_eq_true.1 g (-1) (List.mem_set h (-1))
 simp at this

abbrev as0 : Q × Bool := ((.fit .i64 (.un .len (.var 10))), true)
abbrev as1 : Q × Bool := ((.le (.un .len (.var 10)) (.int 200)), false)
def c_t0 : List (Q × Bool) := [as0, as1]
set_option maxRecDepth 100000 in
theorem c_y0 : yesOf Try.prog (knownV (tellA c_t0) tab specs overs) 8000 80 7 [.agg [.sint .i64 (.var 0), .pw 10 (.int .i64) (.var 10), .pw 20 (.agg [.int .u8, .int .u8, .int .u8, .int .u8, .int .u8, .int .u8, .int .u8, .int .u8, .int .u8, .int .u8, .int .u8, .int .u8, .int .u8, .int .u8, .int .u8, .int .u8]) (.var 20), .pw 30 (.int .u8) (.var 30)], .sint .i64 (.var 40)] (globSt g0) = true := by kernel_rfl
abbrev as2 : Q × Bool := ((.le (.un .len (.var 10)) (.int 200)), true)
abbrev as3 : Q × Bool := ((.fit .i64 (.un .len (.var 20))), true)
abbrev as4 : Q × Bool := ((.le (.un .len (.var 20)) (.int 40)), false)
def c_t1 : List (Q × Bool) := [as0, as2, as3, as4]
set_option maxRecDepth 100000 in
theorem c_y1 : yesOf Try.prog (knownV (tellA c_t1) tab specs overs) 8000 80 7 [.agg [.sint .i64 (.var 0), .pw 10 (.int .i64) (.var 10), .pw 20 (.agg [.int .u8, .int .u8, .int .u8, .int .u8, .int .u8, .int .u8, .int .u8, .int .u8, .int .u8, .int .u8, .int .u8, .int .u8, .int .u8, .int .u8, .int .u8, .int .u8]) (.var 20), .pw 30 (.int .u8) (.var 30)], .sint .i64 (.var 40)] (globSt g0) = true := by kernel_rfl
abbrev as5 : Q × Bool := ((.le (.un .len (.var 20)) (.int 40)), true)
abbrev as6 : Q × Bool := ((.fit .i64 (.un .len (.var 30))), true)
abbrev as7 : Q × Bool := ((.le (.un .len (.var 30)) (.int 2000)), false)
def c_t2 : List (Q × Bool) := [as0, as2, as3, as5, as6, as7]
set_option maxRecDepth 100000 in
theorem c_y2 : yesOf Try.prog (knownV (tellA c_t2) tab specs overs) 8000 80 7 [.agg [.sint .i64 (.var 0), .pw 10 (.int .i64) (.var 10), .pw 20 (.agg [.int .u8, .int .u8, .int .u8, .int .u8, .int .u8, .int .u8, .int .u8, .int .u8, .int .u8, .int .u8, .int .u8, .int .u8, .int .u8, .int .u8, .int .u8, .int .u8]) (.var 20), .pw 30 (.int .u8) (.var 30)], .sint .i64 (.var 40)] (globSt g0) = true := by kernel_rfl
abbrev as8 : Q × Bool := ((.le (.un .len (.var 30)) (.int 2000)), true)
abbrev as9 : Q × Bool := ((.le (.un .len (.var 10)) (.int 5000)), true)
abbrev as10 : Q × Bool := ((.le (.un .len (.var 20)) (.int 5000)), true)
abbrev as11 : Q × Bool := ((.le (.un .len (.var 30)) (.int 5000)), true)
abbrev as12 : Q × Bool := ((.eq (.fn 32 (.bi .pair (.var 0) (.bi .pair (.un .len (.var 10)) (.bi .pair (.un .len (.var 20)) (.bi .pair (.un .len (.var 30)) (.bi .pair (.var 10) (.int 0))))))) (.int 0)), false)
def c_t3 : List (Q × Bool) := [as0, as2, as3, as5, as6, as8, as9, as10, as11, as12]
set_option maxRecDepth 100000 in
theorem c_y3 : yesOf Try.prog (knownV (tellA c_t3) tab specs overs) 8000 80 7 [.agg [.sint .i64 (.var 0), .pw 10 (.int .i64) (.var 10), .pw 20 (.agg [.int .u8, .int .u8, .int .u8, .int .u8, .int .u8, .int .u8, .int .u8, .int .u8, .int .u8, .int .u8, .int .u8, .int .u8, .int .u8, .int .u8, .int .u8, .int .u8]) (.var 20), .pw 30 (.int .u8) (.var 30)], .sint .i64 (.var 40)] (globSt g0) = true := by kernel_rfl
abbrev as13 : Q × Bool := ((.eq (.fn 32 (.bi .pair (.var 0) (.bi .pair (.un .len (.var 10)) (.bi .pair (.un .len (.var 20)) (.bi .pair (.un .len (.var 30)) (.bi .pair (.var 10) (.int 0))))))) (.int 0)), true)
abbrev as14 : Q × Bool := ((.le (.bi .mul (.un .len (.var 10)) (.int 16)) (.int 281474976710656)), true)
abbrev as15 : Q × Bool := ((.eq (.un .len (.var 20)) (.int 0)), true)
abbrev as16 : Q × Bool := ((.le (.bi .mul (.un .len (.var 30)) (.int 2)) (.int 281474976710656)), true)
abbrev as17 : Q × Bool := ((.eq (.fn 34 (.bi .pair (.var 0) (.bi .pair (.un .len (.var 10)) (.bi .pair (.int 0) (.bi .pair (.un .len (.var 30)) (.bi .pair (.var 10) (.bi .pair (.int 1) (.int 0)))))))) (.int 1)), true)
abbrev as18 : Q × Bool := ((.le (.int 0) (.un .len (.var 10))), true)
abbrev as19 : Q × Bool := ((.le (.int 0) (.un .len (.var 30))), true)
abbrev as20 : Q × Bool := ((.eq (.fn 34 (.bi .pair (.var 0) (.bi .pair (.un .len (.var 10)) (.bi .pair (.int 0) (.bi .pair (.un .len (.var 30)) (.bi .pair (.var 10) (.bi .pair (.int 2) (.int 0)))))))) (.int 1)), true)
abbrev as21 : Q × Bool := ((.eq (.fn 34 (.bi .pair (.var 0) (.bi .pair (.un .len (.var 10)) (.bi .pair (.int 0) (.bi .pair (.un .len (.var 30)) (.bi .pair (.var 10) (.bi .pair (.int 3) (.int 0)))))))) (.int 1)), true)
abbrev as22 : Q × Bool := ((.fit .i64 (.fn 35 (.bi .pair (.var 0) (.bi .pair (.int 1) (.int 0))))), true)
abbrev as23 : Q × Bool := ((.le (.fn 35 (.bi .pair (.var 0) (.bi .pair (.int 1) (.int 0)))) (.int 129)), true)
abbrev as24 : Q × Bool := ((.fit .i64 (.fn 35 (.bi .pair (.var 0) (.bi .pair (.int 2) (.int 0))))), true)
abbrev as25 : Q × Bool := ((.le (.fn 35 (.bi .pair (.var 0) (.bi .pair (.int 2) (.int 0)))) (.int 17)), true)
abbrev as26 : Q × Bool := ((.fit .i64 (.fn 35 (.bi .pair (.var 0) (.bi .pair (.int 3) (.int 0))))), true)
abbrev as27 : Q × Bool := ((.le (.fn 35 (.bi .pair (.var 0) (.bi .pair (.int 3) (.int 0)))) (.int 1025)), true)
abbrev as28 : Q × Bool := ((.le (.un .len (.var 10)) (.int 0)), true)
abbrev as29 : Q × Bool := ((.le (.int 0) (.fn 35 (.bi .pair (.var 0) (.bi .pair (.int 1) (.int 0))))), true)
abbrev as30 : Q × Bool := ((.le (.fn 35 (.bi .pair (.var 0) (.bi .pair (.int 1) (.int 0)))) (.int 5000)), true)
abbrev as31 : Q × Bool := ((.eq (.fn 32 (.bi .pair (.var 0) (.bi .pair (.fn 35 (.bi .pair (.var 0) (.bi .pair (.int 1) (.int 0)))) (.bi .pair (.int 0) (.bi .pair (.un .len (.var 30)) (.bi .pair (.fn 36 (.bi .pair (.var 0) (.bi .pair (.int 1) (.bi .pair (.var 10) (.int 0))))) (.int 0))))))) (.int 5)), true)
abbrev as32 : Q × Bool := ((.le (.int 0) (.fn 35 (.bi .pair (.var 0) (.bi .pair (.int 2) (.int 0))))), true)
abbrev as33 : Q × Bool := ((.le (.fn 35 (.bi .pair (.var 0) (.bi .pair (.int 2) (.int 0)))) (.int 5000)), true)
abbrev as34 : Q × Bool := ((.eq (.fn 32 (.bi .pair (.var 0) (.bi .pair (.un .len (.var 10)) (.bi .pair (.fn 35 (.bi .pair (.var 0) (.bi .pair (.int 2) (.int 0)))) (.bi .pair (.un .len (.var 30)) (.bi .pair (.var 10) (.int 0))))))) (.int 5)), true)
abbrev as35 : Q × Bool := ((.le (.int 0) (.fn 35 (.bi .pair (.var 0) (.bi .pair (.int 3) (.int 0))))), true)
abbrev as36 : Q × Bool := ((.le (.fn 35 (.bi .pair (.var 0) (.bi .pair (.int 3) (.int 0)))) (.int 5000)), true)
abbrev as37 : Q × Bool := ((.eq (.fn 32 (.bi .pair (.var 0) (.bi .pair (.un .len (.var 10)) (.bi .pair (.int 0) (.bi .pair (.fn 35 (.bi .pair (.var 0) (.bi .pair (.int 3) (.int 0)))) (.bi .pair (.var 10) (.int 0))))))) (.int 5)), true)
def c_t4 : List (Q × Bool) := [as0, as2, as3, as5, as6, as8, as9, as10, as11, as13, as14, as15, as16, as17, as18, as19, as20, as21, as22, as23, as24, as25, as26, as27, as28, as29, as30, as31, as32, as33, as34, as35, as36, as37]
set_option maxRecDepth 100000 in
theorem c_y4 : yesOf Try.prog (knownV (tellA c_t4) tab specs overs) 8000 80 7 [.agg [.sint .i64 (.var 0), .pw 10 (.int .i64) (.var 10), .pw 20 (.agg [.int .u8, .int .u8, .int .u8, .int .u8, .int .u8, .int .u8, .int .u8, .int .u8, .int .u8, .int .u8, .int .u8, .int .u8, .int .u8, .int .u8, .int .u8, .int .u8]) (.var 20), .pw 30 (.int .u8) (.var 30)], .sint .i64 (.var 40)] (globSt g0) = true := by kernel_rfl
abbrev as38 : Q × Bool := ((.le (.un .len (.var 10)) (.int 0)), false)
abbrev as39 : Q × Bool := ((.le (.int 1) (.un .len (.var 10))), true)
abbrev as40 : Q × Bool := ((.eq (.un .len (.var 10)) (.int 0)), false)
abbrev as41 : Q × Bool := ((.le (.int 0) (.bi (.iop .rem .i64) (.var 40) (.un .len (.var 10)))), true)
abbrev as42 : Q × Bool := ((.le (.un .len (.var 10)) (.bi (.iop .rem .i64) (.var 40) (.un .len (.var 10)))), false)
abbrev as43 : Q × Bool := ((.eq (.fn 32 (.bi .pair (.var 0) (.bi .pair (.un .len (.var 10)) (.bi .pair (.int 0) (.bi .pair (.un .len (.var 30)) (.bi .pair (.tr .upd (.var 10) (.bi (.iop .rem .i64) (.var 40) (.un .len (.var 10))) (.int (-1))) (.int 0))))))) (.int 5)), true)
def c_t5 : List (Q × Bool) := [as0, as2, as3, as5, as6, as8, as9, as10, as11, as13, as14, as15, as16, as17, as18, as19, as20, as21, as22, as23, as24, as25, as26, as27, as38, as39, as40, as41, as42, as43, as29, as30, as31, as32, as33, as34, as35, as36, as37]
set_option maxRecDepth 100000 in
theorem c_y5 : yesOf Try.prog (knownV (tellA c_t5) tab specs overs) 8000 80 7 [.agg [.sint .i64 (.var 0), .pw 10 (.int .i64) (.var 10), .pw 20 (.agg [.int .u8, .int .u8, .int .u8, .int .u8, .int .u8, .int .u8, .int .u8, .int .u8, .int .u8, .int .u8, .int .u8, .int .u8, .int .u8, .int .u8, .int .u8, .int .u8]) (.var 20), .pw 30 (.int .u8) (.var 30)], .sint .i64 (.var 40)] (globSt g0) = true := by kernel_rfl
abbrev as44 : Q × Bool := ((.le (.int 0) (.bi (.iop .rem .i64) (.var 40) (.un .len (.var 10)))), false)
abbrev as45 : Q × Bool := ((.fit .i64 (.bi .add (.bi (.iop .rem .i64) (.var 40) (.un .len (.var 10))) (.un .len (.var 10)))), true)
abbrev as46 : Q × Bool := ((.le (.int 0) (.bi .add (.bi (.iop .rem .i64) (.var 40) (.un .len (.var 10))) (.un .len (.var 10)))), true)
abbrev as47 : Q × Bool := ((.le (.un .len (.var 10)) (.bi .add (.bi (.iop .rem .i64) (.var 40) (.un .len (.var 10))) (.un .len (.var 10)))), false)
abbrev as48 : Q × Bool := ((.eq (.fn 32 (.bi .pair (.var 0) (.bi .pair (.un .len (.var 10)) (.bi .pair (.int 0) (.bi .pair (.un .len (.var 30)) (.bi .pair (.tr .upd (.var 10) (.bi .add (.bi (.iop .rem .i64) (.var 40) (.un .len (.var 10))) (.un .len (.var 10))) (.int (-1))) (.int 0))))))) (.int 5)), true)
def c_t6 : List (Q × Bool) := [as0, as2, as3, as5, as6, as8, as9, as10, as11, as13, as14, as15, as16, as17, as18, as19, as20, as21, as22, as23, as24, as25, as26, as27, as38, as39, as40, as44, as45, as46, as47, as48, as29, as30, as31, as32, as33, as34, as35, as36, as37]
set_option maxRecDepth 100000 in
theorem c_y6 : yesOf Try.prog (knownV (tellA c_t6) tab specs overs) 8000 80 7 [.agg [.sint .i64 (.var 0), .pw 10 (.int .i64) (.var 10), .pw 20 (.agg [.int .u8, .int .u8, .int .u8, .int .u8, .int .u8, .int .u8, .int .u8, .int .u8, .int .u8, .int .u8, .int .u8, .int .u8, .int .u8, .int .u8, .int .u8, .int .u8]) (.var 20), .pw 30 (.int .u8) (.var 30)], .sint .i64 (.var 40)] (globSt g0) = true := by kernel_rfl
abbrev as49 : Q × Bool := ((.eq (.un .len (.var 20)) (.int 0)), false)
abbrev as50 : Q × Bool := ((.le (.bi .mul (.un .len (.var 20)) (.int 32)) (.int 281474976710656)), true)
abbrev as51 : Q × Bool := ((.eq (.fn 34 (.bi .pair (.var 0) (.bi .pair (.un .len (.var 10)) (.bi .pair (.un .len (.var 20)) (.bi .pair (.un .len (.var 30)) (.bi .pair (.var 10) (.bi .pair (.int 1) (.int 0)))))))) (.int 1)), true)
abbrev as52 : Q × Bool := ((.le (.int 0) (.un .len (.var 20))), true)
abbrev as53 : Q × Bool := ((.eq (.fn 34 (.bi .pair (.var 0) (.bi .pair (.un .len (.var 10)) (.bi .pair (.un .len (.var 20)) (.bi .pair (.un .len (.var 30)) (.bi .pair (.var 10) (.bi .pair (.int 2) (.int 0)))))))) (.int 1)), true)
abbrev as54 : Q × Bool := ((.le (.int 1) (.un .len (.var 20))), true)
abbrev as55 : Q × Bool := ((.eq (.fn 34 (.bi .pair (.var 0) (.bi .pair (.un .len (.var 10)) (.bi .pair (.un .len (.var 20)) (.bi .pair (.un .len (.var 30)) (.bi .pair (.var 10) (.bi .pair (.int 3) (.int 0)))))))) (.int 1)), true)
abbrev as56 : Q × Bool := ((.eq (.fn 32 (.bi .pair (.var 0) (.bi .pair (.fn 35 (.bi .pair (.var 0) (.bi .pair (.int 1) (.int 0)))) (.bi .pair (.un .len (.var 20)) (.bi .pair (.un .len (.var 30)) (.bi .pair (.fn 36 (.bi .pair (.var 0) (.bi .pair (.int 1) (.bi .pair (.var 10) (.int 0))))) (.int 0))))))) (.int 5)), true)
abbrev as57 : Q × Bool := ((.eq (.fn 32 (.bi .pair (.var 0) (.bi .pair (.un .len (.var 10)) (.bi .pair (.un .len (.var 20)) (.bi .pair (.fn 35 (.bi .pair (.var 0) (.bi .pair (.int 3) (.int 0)))) (.bi .pair (.var 10) (.int 0))))))) (.int 5)), true)
def c_t7 : List (Q × Bool) := [as0, as2, as3, as5, as6, as8, as9, as10, as11, as13, as14, as49, as50, as16, as51, as18, as19, as52, as53, as54, as55, as22, as23, as24, as25, as26, as27, as28, as29, as30, as56, as32, as33, as34, as35, as36, as57]
set_option maxRecDepth 100000 in
theorem c_y7 : yesOf Try.prog (knownV (tellA c_t7) tab specs overs) 8000 80 7 [.agg [.sint .i64 (.var 0), .pw 10 (.int .i64) (.var 10), .pw 20 (.agg [.int .u8, .int .u8, .int .u8, .int .u8, .int .u8, .int .u8, .int .u8, .int .u8, .int .u8, .int .u8, .int .u8, .int .u8, .int .u8, .int .u8, .int .u8, .int .u8]) (.var 20), .pw 30 (.int .u8) (.var 30)], .sint .i64 (.var 40)] (globSt g0) = true := by kernel_rfl
set_option maxRecDepth 100000 in
set_option maxHeartbeats 6000000 in
theorem c_walk {W : World} {n0 : Int} (hn0 : inK .i64 n0) {v1 : Value} {dv1 : D} (hv1 : PC (poolW W) (.sl (.int .i64)) dv1 [v1]) (hl1 : (Sh.sl (.int .i64)).lens 9223372036854775807 dv1) {v2 : Value} {dv2 : D} (hv2 : PC (poolW W) (.sl (.agg [.int .u8, .int .u8, .int .u8, .int .u8, .int .u8, .int .u8, .int .u8, .int .u8, .int .u8, .int .u8, .int .u8, .int .u8, .int .u8, .int .u8, .int .u8, .int .u8])) dv2 [v2]) (hl2 : (Sh.sl (.agg [.int .u8, .int .u8, .int .u8, .int .u8, .int .u8, .int .u8, .int .u8, .int .u8, .int .u8, .int .u8, .int .u8, .int .u8, .int .u8, .int .u8, .int .u8, .int .u8])).lens 9223372036854775807 dv2) {v3 : Value} {dv3 : D} (hv3 : PC (poolW W) (.sl (.int .u8)) dv3 [v3]) (hl3 : (Sh.sl (.int .u8)).lens 9223372036854775807 dv3) {n4 : Int} (hn4 : inK .i64 n4) (hG : GlobsR (om n0 v1 dv1 v2 dv2 v3 dv3 n4) W g0) : Calls Try.prog 7 #[.agg #[.int .i64 n0, v1, v2, v3], .int .i64 n4] W fun e w' => e = .returned (.bool true) ∧ Below W.heap.size W w' := by
 have r0 := Rel.globs (om n0 v1 dv1 v2 dv2 v3 dv3 n4) W g0 hG
 have x1 : VR (Env.none (om n0 v1 dv1 v2 dv2 v3 dv3 n4) W) (.pw 10 (.int .i64) (.var 10)) v1 := by
  have q : VR (Env.none (om n0 v1 dv1 v2 dv2 v3 dv3 n4) W) (.pv (.int .i64) (.var 10)) v1 := vr_val hv1 rfl
  simp only [VR] at q ⊢
  exact ⟨rfl, q⟩
 have ok1 := PC.ok _ _ _ hv1
 have x2 : VR (Env.none (om n0 v1 dv1 v2 dv2 v3 dv3 n4) W) (.pw 20 (.agg [.int .u8, .int .u8, .int .u8, .int .u8, .int .u8, .int .u8, .int .u8, .int .u8, .int .u8, .int .u8, .int .u8, .int .u8, .int .u8, .int .u8, .int .u8, .int .u8]) (.var 20)) v2 := by
  have q : VR (Env.none (om n0 v1 dv1 v2 dv2 v3 dv3 n4) W) (.pv (.agg [.int .u8, .int .u8, .int .u8, .int .u8, .int .u8, .int .u8, .int .u8, .int .u8, .int .u8, .int .u8, .int .u8, .int .u8, .int .u8, .int .u8, .int .u8, .int .u8]) (.var 20)) v2 := vr_val hv2 rfl
  simp only [VR] at q ⊢
  exact ⟨rfl, q⟩
 have ok2 := PC.ok _ _ _ hv2
 have x3 : VR (Env.none (om n0 v1 dv1 v2 dv2 v3 dv3 n4) W) (.pw 30 (.int .u8) (.var 30)) v3 := by
  have q : VR (Env.none (om n0 v1 dv1 v2 dv2 v3 dv3 n4) W) (.pv (.int .u8) (.var 30)) v3 := vr_val hv3 rfl
  simp only [VR] at q ⊢
  exact ⟨rfl, q⟩
 have ok3 := PC.ok _ _ _ hv3
 have hargs : VRs (Env.none (om n0 v1 dv1 v2 dv2 v3 dv3 n4) W) [.agg [.sint .i64 (.var 0), .pw 10 (.int .i64) (.var 10), .pw 20 (.agg [.int .u8, .int .u8, .int .u8, .int .u8, .int .u8, .int .u8, .int .u8, .int .u8, .int .u8, .int .u8, .int .u8, .int .u8, .int .u8, .int .u8, .int .u8, .int .u8]) (.var 20), .pw 30 (.int .u8) (.var 30)], .sint .i64 (.var 40)] [.agg #[.int .i64 n0, v1, v2, v3], .int .i64 n4] := VRs_cons (vr_agg (VRs_cons (vr_sint (i := 0) hn0 (by rw [r0.opq]; rfl)) (VRs_cons (x1) (VRs_cons (x2) (VRs_cons (x3) (VRs_nil)))))) (VRs_cons (vr_sint (i := 40) hn4 (by rw [r0.opq]; rfl)) (VRs_nil))
 simp only [inK, i64min, i64max, u8min, u8max, u32min, u32max, u64min, u64max] at hn0
 simp only [inK, i64min, i64max, u8min, u8max, u32min, u32max, u64min, u64max] at hn4
 have l1 := lens_t hl1
 have l2 := lens_t hl2
 have l3 := lens_t hl3
 by_cases b1 : 200 < dv1.ints.length
 ·refine calls_of_yesV sound tab_ok specs_ok overs_ok c_y0 rfl (tellA_ok (allTold'_iff.1 ?_)) r0 hargs
  simp only [c_t0, om_0, om_10, om_20, om_30, om_40, om_f, F32, F34, F35, F36, F37, D.toInt_int, D.ints_ofInts, tl]
  first | omega | (and_intros <;> first | omega | exact c | trivial)
 by_cases b2 : 40 < dv2.ints.length
 ·refine calls_of_yesV sound tab_ok specs_ok overs_ok c_y1 rfl (tellA_ok (allTold'_iff.1 ?_)) r0 hargs
  simp only [c_t1, om_0, om_10, om_20, om_30, om_40, om_f, F32, F34, F35, F36, F37, D.toInt_int, D.ints_ofInts, tl]
  first | omega | (and_intros <;> first | omega | exact c | trivial)
 by_cases b3 : 2000 < dv3.ints.length
 ·refine calls_of_yesV sound tab_ok specs_ok overs_ok c_y2 rfl (tellA_ok (allTold'_iff.1 ?_)) r0 hargs
  simp only [c_t2, om_0, om_10, om_20, om_30, om_40, om_f, F32, F34, F35, F36, F37, D.toInt_int, D.ints_ofInts, tl]
  first | omega | (and_intros <;> first | omega | exact c | trivial)
 by_cases c : wrongI n0 (dv1.ints.length : Int) (dv2.ints.length : Int) (dv3.ints.length : Int) dv1.ints = 0
 ·obtain ⟨h0, h1, h2⟩ := wrong_iff.1 c
  have tf := tab_in (kind_in n0)
  by_cases i0 : dv2.ints.length = 0
  ·by_cases m0 : dv1.ints.length = 0
   ·refine calls_of_yesV sound tab_ok specs_ok overs_ok c_y4 rfl (tellA_ok (allTold'_iff.1 ?_)) r0 hargs
    simp only [c_t4, om_0, om_10, om_20, om_30, om_40, om_f, F32, F34, F35, F36, F37, D.toInt_int, D.ints_ofInts, tl]
    and_intros <;> first | omega | exact c | (exact wrong5 h0 (by intro h; omega)) | (exact wrong5x h0 (fine_set (by omega))) | (exact one_to (almost_iff.2 ⟨h0, by simp; omega, h2⟩)) | trivial
   have r1 := Int.tmod_lt_of_pos n4 (show 0 < (dv1.ints.length : Int) by omega)
   have r2 : -(dv1.ints.length : Int) < n4.tmod (dv1.ints.length : Int) := by have := Int.neg_lt_of_neg_lt (show -(n4.tmod (dv1.ints.length : Int)) < (dv1.ints.length : Int) from by rw [← Int.neg_tmod]; exact Int.tmod_lt_of_pos _ (by omega)); exact this
   have r3 : iopI .rem .i64 n4 (dv1.ints.length : Int) = n4.tmod (dv1.ints.length : Int) := rfl
   by_cases r : 0 ≤ n4.tmod (dv1.ints.length : Int)
   ·refine calls_of_yesV sound tab_ok specs_ok overs_ok c_y5 rfl (tellA_ok (allTold'_iff.1 ?_)) r0 hargs
    simp only [c_t5, om_0, om_10, om_20, om_30, om_40, om_f, F32, F34, F35, F36, F37, D.toInt_int, D.ints_ofInts, tl]
    and_intros <;> first | omega | exact c | (exact wrong5 h0 (by intro h; omega)) | (exact wrong5x h0 (fine_set (by omega))) | (exact one_to (almost_iff.2 ⟨h0, by simp; omega, h2⟩)) | trivial
   refine calls_of_yesV sound tab_ok specs_ok overs_ok c_y6 rfl (tellA_ok (allTold'_iff.1 ?_)) r0 hargs
   simp only [c_t6, om_0, om_10, om_20, om_30, om_40, om_f, F32, F34, F35, F36, F37, D.toInt_int, D.ints_ofInts, tl]
   and_intros <;> first | omega | exact c | (exact wrong5 h0 (by intro h; omega)) | (exact wrong5x h0 (fine_set (by omega))) | (exact one_to (almost_iff.2 ⟨h0, by simp; omega, h2⟩)) | trivial
  refine calls_of_yesV sound tab_ok specs_ok overs_ok c_y7 rfl (tellA_ok (allTold'_iff.1 ?_)) r0 hargs
  simp only [c_t7, om_0, om_10, om_20, om_30, om_40, om_f, F32, F34, F35, F36, F37, D.toInt_int, D.ints_ofInts, tl]
  and_intros <;> first | omega | exact c | (exact wrong5 h0 (by intro h; omega)) | (exact wrong5x h0 (fine_set (by omega))) | (exact one_to (almost_iff.2 ⟨h0, by simp; omega, h2⟩)) | trivial
 refine calls_of_yesV sound tab_ok specs_ok overs_ok c_y3 rfl (tellA_ok (allTold'_iff.1 ?_)) r0 hargs
 simp only [c_t3, om_0, om_10, om_20, om_30, om_40, om_f, F32, F34, F35, F36, F37, D.toInt_int, D.ints_ofInts, tl]
 first | omega | (and_intros <;> first | omega | exact c | trivial)

theorem underI3 : Try.prog.underlying 3 = some (.int .i64) := by kernel_rfl
theorem shape22 : (Sh.sl (.int .i64)).is Try.prog 22 = true := by kernel_rfl
theorem shape23 : (Sh.sl (.agg [.int .u8, .int .u8, .int .u8, .int .u8, .int .u8, .int .u8, .int .u8, .int .u8, .int .u8, .int .u8, .int .u8, .int .u8, .int .u8, .int .u8, .int .u8, .int .u8])).is Try.prog 23 = true := by kernel_rfl
theorem shape24 : (Sh.sl (.int .u8)).is Try.prog 24 = true := by kernel_rfl
theorem len4 {l : List Value} (h : l.length = 4) : ∃ c0 c1 c2 c3, l = [c0, c1, c2, c3] := by
 match l, h with
 | [c0, c1, c2, c3], _ => exact ⟨_, _, _, _, rfl⟩

set_option maxRecDepth 100000 in
theorem lifted (os : Os) (started : os.Started) (H : Type) (enc : TypeId × Value → H) :
  ReturnsInHanded {} Try.checked os 7 .any (Rows.noteShapesSpec.pre6 enc Try.prog Try.f7 Rows.noteShapesRow.domain false) (Rows.noteShapesSpec.post enc Try.prog Try.f7 false true false false) := by
 refine returnsInHanded_of_change_sized (C := Try.checked) own started (by kernel_rfl) Try.func7
  (ChangeSpec.witness6 (enc := enc) (C := Try.checked) false ⟨#[], #[.agg #[.int .i64 0, .slice none 0 0, .slice none 0 0, .slice none 0 0], .int .i64 0], []⟩ 8 (by kernel_rfl) (by kernel_rfl) (by kernel_rfl) (by kernel_rfl)) ?_
 intro W base args ds gs before hval0 hW hcnd hZ _
 have hval : ∀ (j : Nat) t v, Try.f7.params[j]? = some t → args[j]? = some v → Value.okWide Try.prog W .any base t v := hval0
 have hW' := hW
 have hlt := hW.lt
 obtain ⟨p, q, hA0, hV, rfl, hfz, hnd⟩ := hW
 have hA : DataW.TrodAll enc Try.prog W 0 (fun _ => true) true Try.f7.params.toList args.toList ds p := hA0
 have hAll := hA
 rw [Try.params7] at hA hval hAll hZ
 obtain ⟨rfl, rfl⟩ := trodVars_none hV
 obtain ⟨pv0, pv1, d0, d1, p0, p1, rfl, rfl, rfl, h0, h1⟩ := trodAll_two hA
 obtain ⟨cs0, rfl, hl0, ht0⟩ := in_struct (L := [(3, 0, 1), (22, 1, 1), (23, 2, 1), (24, 3, 1)]) (n := 4) (by kernel_rfl) (by kernel_rfl) (hval 0 26 _ rfl rfl) h0
 obtain ⟨x0_0, x0_1, x0_2, x0_3, rfl⟩ := len4 hl0
 have q_ht0 := trod_pieces (L := [(3, 0, 1), (22, 1, 1), (23, 2, 1), (24, 3, 1)]) (by kernel_rfl) ht0
 obtain ⟨n0, rfl, wn0⟩ := leaf_int underI3 (show ∃ m y, DataW.trod enc Try.prog W 0 (fun _ => true) true m 3 [x0_0] = some y from q_ht0 (3, 0, 1) (by simp))
 obtain ⟨dv1, hv1, hl1⟩ := leaf_val (s := .sl (.int .i64)) shape22 (show ∃ m y, DataW.trod enc Try.prog W 0 (fun _ => true) true m 22 [x0_1] = some y from q_ht0 (22, 1, 1) (by simp))
 obtain ⟨dv2, hv2, hl2⟩ := leaf_val (s := .sl (.agg [.int .u8, .int .u8, .int .u8, .int .u8, .int .u8, .int .u8, .int .u8, .int .u8, .int .u8, .int .u8, .int .u8, .int .u8, .int .u8, .int .u8, .int .u8, .int .u8])) shape23 (show ∃ m y, DataW.trod enc Try.prog W 0 (fun _ => true) true m 23 [x0_2] = some y from q_ht0 (23, 2, 1) (by simp))
 obtain ⟨dv3, hv3, hl3⟩ := leaf_val (s := .sl (.int .u8)) shape24 (show ∃ m y, DataW.trod enc Try.prog W 0 (fun _ => true) true m 24 [x0_3] = some y from q_ht0 (24, 3, 1) (by simp))
 obtain ⟨n4, rfl, rfl, rfl, wn4⟩ := open_int underI3 (hval 1 3 _ rfl rfl) h1
 have wn4 := wf_inK wn4
 clear hA0 hval0
 have hcall : Calls Try.prog 7 #[.agg #[.int .i64 n0, x0_1, x0_2, x0_3], .int .i64 n4] W fun e w' => e = .returned (.bool true) ∧ Below W.heap.size W w' := by
  exact c_walk wn0 hv1 hl1 hv2 hl2 hv3 hl3 wn4 (globs0 _ W)
 refine hcall.mono fun e W' ⟨he, hg⟩ => ?_
 subst he
 exact ⟨_, rfl, _, [], _, [], _, [], hW', trodAll_cons_mk (shut_bool Try.underlying4 _) trodAll_mk0, trodAll_stays laid hg _ _ _ _ hAll (fun x hx => hlt x (by simpa using hx)) (by kernel_rfl), rfl, hg.frame _, fun h => by cases h⟩

theorem over : Rows.noteShapesRow.holds Try.pinned (OpenSpec.ofChange Rows.noteShapesSpec) :=
 OpenClaim.holds_of_wide 7 Try.f7 rfl rfl rfl rfl rfl rfl rfl ⟨rfl, rfl, rfl, rfl, rfl⟩ rfl rfl rfl rfl rfl (by kernel_rfl) Try.func7 (by kernel_rfl)
  (of_decide_eq_true (by kernel_rfl)) (by unfold Func.isWrapper; first | (rw [if_pos (by decide +kernel)]; kernel_rfl) | (rw [if_neg (by decide +kernel)]; exact ⟨rfl, rfl⟩))
  (fun os started H enc _ => lifted os started H enc)

theorem proved : Rows.NoteShapesSaid :=
 over
#print axioms proved
end Go.Proofs.Ytmmfjmmldhnpfaa.noteShapes
