/-
 The law NoteWrites of the layer note holds of the code: for all inputs the call returns true, and the arguments read as they did. No condition.
-/
import Derived.Test.YtmmfjmmldhnpfaaCo
import Derived.Test.YtmmfjmmldhnpfaaSycp
import Derived.Test.YtmmfjmmldhnpfaaSyag
import Derived.Test.YtmmfjmmldhnpfaaSyvp
import Derived.Test.YtmmfjmmldhnpfaaNd
import Derived.Test.YtmmfjmmldhnpfaaNa
import Derived.Test.YtmmfjmmldhnpfaaNb
import Derived.Test.YtmmfjmmldhnpfaaNc
import Derived.WalkKit
import Derived.ProofKit
import Derived.OpenShut
set_option linter.unusedSimpArgs false
set_option linter.unusedVariables false
namespace Go.Proofs.Ytmmfjmmldhnpfaa.noteWrites
open Go.ChangeShapes Go.WideShapes Go.ChangeAt Go.RowKit Go.Ev Go.Proofs.Ytmmfjmmldhnpfaa.Co Go.Proofs.Ytmmfjmmldhnpfaa.Nd Go.Proofs.Ytmmfjmmldhnpfaa.Na Go.Proofs.Ytmmfjmmldhnpfaa.Nb Go.Proofs.Ytmmfjmmldhnpfaa.Nc

def om (n0 : Int) (w1 : Value) (dv1 : D) (w2 : Value) (dv2 : D) (w3 : Value) (dv3 : D) : Om := ⟨fun i => if i = 10 then w1 else if i = 20 then w2 else if i = 30 then w3 else .bool false, fun i => if i = 0 then .int n0 else if i = 10 then dv1 else if i = 20 then dv2 else if i = 30 then dv3 else .int 0, F⟩
theorem om_0 (n0 : Int) (w1 : Value) (dv1 : D) (w2 : Value) (dv2 : D) (w3 : Value) (dv3 : D) : (om n0 w1 dv1 w2 dv2 w3 dv3).d 0 = .int n0 := rfl
theorem om_10 (n0 : Int) (w1 : Value) (dv1 : D) (w2 : Value) (dv2 : D) (w3 : Value) (dv3 : D) : (om n0 w1 dv1 w2 dv2 w3 dv3).d 10 = dv1 := rfl
theorem om_20 (n0 : Int) (w1 : Value) (dv1 : D) (w2 : Value) (dv2 : D) (w3 : Value) (dv3 : D) : (om n0 w1 dv1 w2 dv2 w3 dv3).d 20 = dv2 := rfl
theorem om_30 (n0 : Int) (w1 : Value) (dv1 : D) (w2 : Value) (dv2 : D) (w3 : Value) (dv3 : D) : (om n0 w1 dv1 w2 dv2 w3 dv3).d 30 = dv3 := rfl
theorem om_f (n0 : Int) (w1 : Value) (dv1 : D) (w2 : Value) (dv2 : D) (w3 : Value) (dv3 : D) : (om n0 w1 dv1 w2 dv2 w3 dv3).f = F := rfl
theorem lens_t {s : Sh} {d : D} {B : Nat} (h : (Sh.sl s).lens B d) : d.ints.length ≤ B := by
 rw [Sh.lens] at h
 rw [← len_ints]
 exact h.1

abbrev as0 : Q × Bool := ((.fit .i64 (.un .len (.var 10))), true)
abbrev as1 : Q × Bool := ((.le (.un .len (.var 10)) (.int 200)), false)
def c_t0 : List (Q × Bool) := [as0, as1]
set_option maxRecDepth 100000 in
theorem c_y0 : yesOf Try.prog (knownV (tellA c_t0) tab specs overs) 8000 80 3 [.agg [.sint .i64 (.var 0), .pw 10 (.int .i64) (.var 10), .pw 20 (.agg [.int .u8, .int .u8, .int .u8, .int .u8, .int .u8, .int .u8, .int .u8, .int .u8, .int .u8, .int .u8, .int .u8, .int .u8, .int .u8, .int .u8, .int .u8, .int .u8]) (.var 20), .pw 30 (.int .u8) (.var 30)]] (globSt g0) = true := by kernel_rfl
abbrev as2 : Q × Bool := ((.le (.un .len (.var 10)) (.int 200)), true)
abbrev as3 : Q × Bool := ((.fit .i64 (.un .len (.var 20))), true)
abbrev as4 : Q × Bool := ((.le (.un .len (.var 20)) (.int 40)), false)
def c_t1 : List (Q × Bool) := [as0, as2, as3, as4]
set_option maxRecDepth 100000 in
theorem c_y1 : yesOf Try.prog (knownV (tellA c_t1) tab specs overs) 8000 80 3 [.agg [.sint .i64 (.var 0), .pw 10 (.int .i64) (.var 10), .pw 20 (.agg [.int .u8, .int .u8, .int .u8, .int .u8, .int .u8, .int .u8, .int .u8, .int .u8, .int .u8, .int .u8, .int .u8, .int .u8, .int .u8, .int .u8, .int .u8, .int .u8]) (.var 20), .pw 30 (.int .u8) (.var 30)]] (globSt g0) = true := by kernel_rfl
abbrev as5 : Q × Bool := ((.le (.un .len (.var 20)) (.int 40)), true)
abbrev as6 : Q × Bool := ((.fit .i64 (.un .len (.var 30))), true)
abbrev as7 : Q × Bool := ((.le (.un .len (.var 30)) (.int 2000)), false)
def c_t2 : List (Q × Bool) := [as0, as2, as3, as5, as6, as7]
set_option maxRecDepth 100000 in
theorem c_y2 : yesOf Try.prog (knownV (tellA c_t2) tab specs overs) 8000 80 3 [.agg [.sint .i64 (.var 0), .pw 10 (.int .i64) (.var 10), .pw 20 (.agg [.int .u8, .int .u8, .int .u8, .int .u8, .int .u8, .int .u8, .int .u8, .int .u8, .int .u8, .int .u8, .int .u8, .int .u8, .int .u8, .int .u8, .int .u8, .int .u8]) (.var 20), .pw 30 (.int .u8) (.var 30)]] (globSt g0) = true := by kernel_rfl
abbrev as8 : Q × Bool := ((.le (.un .len (.var 30)) (.int 2000)), true)
abbrev as9 : Q × Bool := ((.le (.bi .mul (.un .len (.var 10)) (.int 16)) (.int 281474976710656)), true)
abbrev as10 : Q × Bool := ((.eq (.un .len (.var 20)) (.int 0)), true)
abbrev as11 : Q × Bool := ((.le (.bi .mul (.un .len (.var 30)) (.int 2)) (.int 281474976710656)), true)
abbrev as12 : Q × Bool := ((.eq (.fn 32 (.bi .pair (.var 0) (.bi .pair (.un .len (.var 10)) (.bi .pair (.int 0) (.bi .pair (.un .len (.var 30)) (.bi .pair (.var 10) (.int 0))))))) (.int 0)), false)
abbrev as13 : Q × Bool := ((.le (.int 0) (.un .len (.var 10))), true)
abbrev as14 : Q × Bool := ((.le (.un .len (.var 10)) (.int 5000)), true)
abbrev as15 : Q × Bool := ((.le (.int 0) (.un .len (.var 30))), true)
abbrev as16 : Q × Bool := ((.le (.un .len (.var 30)) (.int 5000)), true)
abbrev as17 : Q × Bool := ((.eq (.fn 32 (.bi .pair (.var 0) (.bi .pair (.un .len (.var 10)) (.bi .pair (.un .len (.var 20)) (.bi .pair (.un .len (.var 30)) (.bi .pair (.var 10) (.int 0))))))) (.int 0)), false)
abbrev as18 : Q × Bool := ((.le (.un .len (.var 20)) (.int 5000)), true)
abbrev as19 : Q × Bool := ((.eq (.fn 32 (.bi .pair (.var 0) (.bi .pair (.un .len (.var 10)) (.bi .pair (.int 0) (.bi .pair (.un .len (.var 30)) (.bi .pair (.var 10) (.int 0))))))) (.fn 32 (.bi .pair (.var 0) (.bi .pair (.un .len (.var 10)) (.bi .pair (.un .len (.var 20)) (.bi .pair (.un .len (.var 30)) (.bi .pair (.var 10) (.int 0)))))))), true)
abbrev as20 : Q × Bool := ((.le (.int 1) (.un .len (.var 10))), false)
abbrev as21 : Q × Bool := ((.eq (.int 0) (.un .len (.var 20))), true)
def c_t3 : List (Q × Bool) := [as0, as2, as3, as5, as6, as8, as9, as10, as11, as12, as13, as14, as15, as16, as17, as18, as19, as20, as21]
set_option maxRecDepth 100000 in
theorem c_y3 : yesOf Try.prog (knownV (tellA c_t3) tab specs overs) 8000 80 3 [.agg [.sint .i64 (.var 0), .pw 10 (.int .i64) (.var 10), .pw 20 (.agg [.int .u8, .int .u8, .int .u8, .int .u8, .int .u8, .int .u8, .int .u8, .int .u8, .int .u8, .int .u8, .int .u8, .int .u8, .int .u8, .int .u8, .int .u8, .int .u8]) (.var 20), .pw 30 (.int .u8) (.var 30)]] (globSt g0) = true := by kernel_rfl
abbrev as22 : Q × Bool := ((.le (.int 1) (.un .len (.var 10))), true)
abbrev as23 : Q × Bool := ((.le (.int 1) (.un .len (.var 30))), false)
def c_t4 : List (Q × Bool) := [as0, as2, as3, as5, as6, as8, as9, as10, as11, as12, as13, as14, as15, as16, as17, as18, as19, as22, as23, as21]
set_option maxRecDepth 100000 in
theorem c_y4 : yesOf Try.prog (knownV (tellA c_t4) tab specs overs) 8000 80 3 [.agg [.sint .i64 (.var 0), .pw 10 (.int .i64) (.var 10), .pw 20 (.agg [.int .u8, .int .u8, .int .u8, .int .u8, .int .u8, .int .u8, .int .u8, .int .u8, .int .u8, .int .u8, .int .u8, .int .u8, .int .u8, .int .u8, .int .u8, .int .u8]) (.var 20), .pw 30 (.int .u8) (.var 30)]] (globSt g0) = true := by kernel_rfl
abbrev as24 : Q × Bool := ((.le (.int 1) (.un .len (.var 30))), true)
def c_t5 : List (Q × Bool) := [as0, as2, as3, as5, as6, as8, as9, as10, as11, as12, as13, as14, as15, as16, as17, as18, as19, as22, as24, as21]
set_option maxRecDepth 100000 in
theorem c_y5 : yesOf Try.prog (knownV (tellA c_t5) tab specs overs) 8000 80 3 [.agg [.sint .i64 (.var 0), .pw 10 (.int .i64) (.var 10), .pw 20 (.agg [.int .u8, .int .u8, .int .u8, .int .u8, .int .u8, .int .u8, .int .u8, .int .u8, .int .u8, .int .u8, .int .u8, .int .u8, .int .u8, .int .u8, .int .u8, .int .u8]) (.var 20), .pw 30 (.int .u8) (.var 30)]] (globSt g0) = true := by kernel_rfl
abbrev as25 : Q × Bool := ((.eq (.un .len (.var 20)) (.int 0)), false)
abbrev as26 : Q × Bool := ((.le (.bi .mul (.un .len (.var 20)) (.int 32)) (.int 281474976710656)), true)
abbrev as27 : Q × Bool := ((.le (.int 0) (.un .len (.var 20))), true)
def c_t6 : List (Q × Bool) := [as0, as2, as3, as5, as6, as8, as9, as25, as26, as11, as17, as13, as14, as27, as18, as15, as16, as20]
set_option maxRecDepth 100000 in
theorem c_y6 : yesOf Try.prog (knownV (tellA c_t6) tab specs overs) 8000 80 3 [.agg [.sint .i64 (.var 0), .pw 10 (.int .i64) (.var 10), .pw 20 (.agg [.int .u8, .int .u8, .int .u8, .int .u8, .int .u8, .int .u8, .int .u8, .int .u8, .int .u8, .int .u8, .int .u8, .int .u8, .int .u8, .int .u8, .int .u8, .int .u8]) (.var 20), .pw 30 (.int .u8) (.var 30)]] (globSt g0) = true := by kernel_rfl
def c_t7 : List (Q × Bool) := [as0, as2, as3, as5, as6, as8, as9, as25, as26, as11, as17, as13, as14, as27, as18, as15, as16, as22]
set_option maxRecDepth 100000 in
theorem c_y7 : yesOf Try.prog (knownV (tellA c_t7) tab specs overs) 8000 80 3 [.agg [.sint .i64 (.var 0), .pw 10 (.int .i64) (.var 10), .pw 20 (.agg [.int .u8, .int .u8, .int .u8, .int .u8, .int .u8, .int .u8, .int .u8, .int .u8, .int .u8, .int .u8, .int .u8, .int .u8, .int .u8, .int .u8, .int .u8, .int .u8]) (.var 20), .pw 30 (.int .u8) (.var 30)]] (globSt g0) = true := by kernel_rfl
abbrev as28 : Q × Bool := ((.eq (.fn 32 (.bi .pair (.var 0) (.bi .pair (.un .len (.var 10)) (.bi .pair (.int 0) (.bi .pair (.un .len (.var 30)) (.bi .pair (.var 10) (.int 0))))))) (.int 0)), true)
abbrev as29 : Q × Bool := ((.eq (.fn 32 (.bi .pair (.var 0) (.bi .pair (.un .len (.var 10)) (.bi .pair (.un .len (.var 20)) (.bi .pair (.un .len (.var 30)) (.bi .pair (.var 10) (.int 0))))))) (.int 0)), true)
abbrev as30 : Q × Bool := ((.same (.fn 82 (.bi .pair (.var 0) (.bi .pair (.var 10) (.bi .pair (.lits []) (.bi .pair (.var 30) (.int 0)))))) (.fn 82 (.bi .pair (.var 0) (.bi .pair (.var 10) (.bi .pair (.var 20) (.bi .pair (.var 30) (.int 0))))))), true)
def c_t8 : List (Q × Bool) := [as0, as2, as3, as5, as6, as8, as9, as10, as11, as28, as13, as14, as15, as16, as29, as18, as30, as20, as19, as21]
set_option maxRecDepth 100000 in
theorem c_y8 : yesOf Try.prog (knownV (tellA c_t8) tab specs overs) 8000 80 3 [.agg [.sint .i64 (.var 0), .pw 10 (.int .i64) (.var 10), .pw 20 (.agg [.int .u8, .int .u8, .int .u8, .int .u8, .int .u8, .int .u8, .int .u8, .int .u8, .int .u8, .int .u8, .int .u8, .int .u8, .int .u8, .int .u8, .int .u8, .int .u8]) (.var 20), .pw 30 (.int .u8) (.var 30)]] (globSt g0) = true := by kernel_rfl
def c_t9 : List (Q × Bool) := [as0, as2, as3, as5, as6, as8, as9, as10, as11, as28, as13, as14, as15, as16, as29, as18, as30, as22, as23, as19, as21]
set_option maxRecDepth 100000 in
theorem c_y9 : yesOf Try.prog (knownV (tellA c_t9) tab specs overs) 8000 80 3 [.agg [.sint .i64 (.var 0), .pw 10 (.int .i64) (.var 10), .pw 20 (.agg [.int .u8, .int .u8, .int .u8, .int .u8, .int .u8, .int .u8, .int .u8, .int .u8, .int .u8, .int .u8, .int .u8, .int .u8, .int .u8, .int .u8, .int .u8, .int .u8]) (.var 20), .pw 30 (.int .u8) (.var 30)]] (globSt g0) = true := by kernel_rfl
def c_t10 : List (Q × Bool) := [as0, as2, as3, as5, as6, as8, as9, as10, as11, as28, as13, as14, as15, as16, as29, as18, as30, as22, as24, as19, as21]
set_option maxRecDepth 100000 in
theorem c_y10 : yesOf Try.prog (knownV (tellA c_t10) tab specs overs) 8000 80 3 [.agg [.sint .i64 (.var 0), .pw 10 (.int .i64) (.var 10), .pw 20 (.agg [.int .u8, .int .u8, .int .u8, .int .u8, .int .u8, .int .u8, .int .u8, .int .u8, .int .u8, .int .u8, .int .u8, .int .u8, .int .u8, .int .u8, .int .u8, .int .u8]) (.var 20), .pw 30 (.int .u8) (.var 30)]] (globSt g0) = true := by kernel_rfl
abbrev as31 : Q × Bool := ((.le (.int 1) (.un .len (.var 20))), true)
def c_t11 : List (Q × Bool) := [as0, as2, as3, as5, as6, as8, as9, as25, as26, as11, as29, as13, as14, as15, as16, as31, as18, as20, as27]
set_option maxRecDepth 100000 in
theorem c_y11 : yesOf Try.prog (knownV (tellA c_t11) tab specs overs) 8000 80 3 [.agg [.sint .i64 (.var 0), .pw 10 (.int .i64) (.var 10), .pw 20 (.agg [.int .u8, .int .u8, .int .u8, .int .u8, .int .u8, .int .u8, .int .u8, .int .u8, .int .u8, .int .u8, .int .u8, .int .u8, .int .u8, .int .u8, .int .u8, .int .u8]) (.var 20), .pw 30 (.int .u8) (.var 30)]] (globSt g0) = true := by kernel_rfl
set_option maxRecDepth 100000 in
set_option maxHeartbeats 6000000 in
theorem c_walk {W : World} {n0 : Int} (hn0 : inK .i64 n0) {v1 : Value} {dv1 : D} (hv1 : PC (poolW W) (.sl (.int .i64)) dv1 [v1]) (hl1 : (Sh.sl (.int .i64)).lens 9223372036854775807 dv1) {v2 : Value} {dv2 : D} (hv2 : PC (poolW W) (.sl (.agg [.int .u8, .int .u8, .int .u8, .int .u8, .int .u8, .int .u8, .int .u8, .int .u8, .int .u8, .int .u8, .int .u8, .int .u8, .int .u8, .int .u8, .int .u8, .int .u8])) dv2 [v2]) (hl2 : (Sh.sl (.agg [.int .u8, .int .u8, .int .u8, .int .u8, .int .u8, .int .u8, .int .u8, .int .u8, .int .u8, .int .u8, .int .u8, .int .u8, .int .u8, .int .u8, .int .u8, .int .u8])).lens 9223372036854775807 dv2) {v3 : Value} {dv3 : D} (hv3 : PC (poolW W) (.sl (.int .u8)) dv3 [v3]) (hl3 : (Sh.sl (.int .u8)).lens 9223372036854775807 dv3) (hG : GlobsR (om n0 v1 dv1 v2 dv2 v3 dv3) W g0) : Calls Try.prog 3 #[.agg #[.int .i64 n0, v1, v2, v3]] W fun e w' => e = .returned (.bool true) ∧ Below W.heap.size W w' := by
 have r0 := Rel.globs (om n0 v1 dv1 v2 dv2 v3 dv3) W g0 hG
 have x1 : VR (Env.none (om n0 v1 dv1 v2 dv2 v3 dv3) W) (.pw 10 (.int .i64) (.var 10)) v1 := by
  have q : VR (Env.none (om n0 v1 dv1 v2 dv2 v3 dv3) W) (.pv (.int .i64) (.var 10)) v1 := vr_val hv1 rfl
  simp only [VR] at q ⊢
  exact ⟨rfl, q⟩
 have ok1 := PC.ok _ _ _ hv1
 have x2 : VR (Env.none (om n0 v1 dv1 v2 dv2 v3 dv3) W) (.pw 20 (.agg [.int .u8, .int .u8, .int .u8, .int .u8, .int .u8, .int .u8, .int .u8, .int .u8, .int .u8, .int .u8, .int .u8, .int .u8, .int .u8, .int .u8, .int .u8, .int .u8]) (.var 20)) v2 := by
  have q : VR (Env.none (om n0 v1 dv1 v2 dv2 v3 dv3) W) (.pv (.agg [.int .u8, .int .u8, .int .u8, .int .u8, .int .u8, .int .u8, .int .u8, .int .u8, .int .u8, .int .u8, .int .u8, .int .u8, .int .u8, .int .u8, .int .u8, .int .u8]) (.var 20)) v2 := vr_val hv2 rfl
  simp only [VR] at q ⊢
  exact ⟨rfl, q⟩
 have ok2 := PC.ok _ _ _ hv2
 have x3 : VR (Env.none (om n0 v1 dv1 v2 dv2 v3 dv3) W) (.pw 30 (.int .u8) (.var 30)) v3 := by
  have q : VR (Env.none (om n0 v1 dv1 v2 dv2 v3 dv3) W) (.pv (.int .u8) (.var 30)) v3 := vr_val hv3 rfl
  simp only [VR] at q ⊢
  exact ⟨rfl, q⟩
 have ok3 := PC.ok _ _ _ hv3
 have hargs : VRs (Env.none (om n0 v1 dv1 v2 dv2 v3 dv3) W) [.agg [.sint .i64 (.var 0), .pw 10 (.int .i64) (.var 10), .pw 20 (.agg [.int .u8, .int .u8, .int .u8, .int .u8, .int .u8, .int .u8, .int .u8, .int .u8, .int .u8, .int .u8, .int .u8, .int .u8, .int .u8, .int .u8, .int .u8, .int .u8]) (.var 20), .pw 30 (.int .u8) (.var 30)]] [.agg #[.int .i64 n0, v1, v2, v3]] := VRs_cons (vr_agg (VRs_cons (vr_sint (i := 0) hn0 (by rw [r0.opq]; rfl)) (VRs_cons (x1) (VRs_cons (x2) (VRs_cons (x3) (VRs_nil)))))) (VRs_nil)
 simp only [inK, i64min, i64max, u8min, u8max, u32min, u32max, u64min, u64max] at hn0
 have l1 := lens_t hl1
 have l2 := lens_t hl2
 have l3 := lens_t hl3
 by_cases b1 : 200 < dv1.ints.length
 ·refine calls_of_yesV sound tab_ok specs_ok overs_ok c_y0 rfl (tellA_ok (allTold'_iff.1 ?_)) r0 hargs
  simp only [c_t0, om_0, om_10, om_20, om_30, om_f, F32, F82, D.toInt_int, D.ints_ofInts, tl]
  first | done | omega | (and_intros <;> first | omega | exact c | exact c2 | exact True.intro | (rw [i1]; done) | (rw [y0]; rfl) | rfl)
 by_cases b2 : 40 < dv2.ints.length
 ·refine calls_of_yesV sound tab_ok specs_ok overs_ok c_y1 rfl (tellA_ok (allTold'_iff.1 ?_)) r0 hargs
  simp only [c_t1, om_0, om_10, om_20, om_30, om_f, F32, F82, D.toInt_int, D.ints_ofInts, tl]
  first | done | omega | (and_intros <;> first | omega | exact c | exact c2 | exact True.intro | (rw [i1]; done) | (rw [y0]; rfl) | rfl)
 by_cases b3 : 2000 < dv3.ints.length
 ·refine calls_of_yesV sound tab_ok specs_ok overs_ok c_y2 rfl (tellA_ok (allTold'_iff.1 ?_)) r0 hargs
  simp only [c_t2, om_0, om_10, om_20, om_30, om_f, F32, F82, D.toInt_int, D.ints_ofInts, tl]
  first | done | omega | (and_intros <;> first | omega | exact c | exact c2 | exact True.intro | (rw [i1]; done) | (rw [y0]; rfl) | rfl)
 by_cases i0 : dv2.ints.length = 0
 ·have i1 : (dv2.ints.length : Int) = 0 := by omega
  have y0 : dv2.toList = [] := List.eq_nil_of_length_eq_zero (by rw [len_ints]; exact i0)
  by_cases c : wrongI n0 (dv1.ints.length : Int) 0 (dv3.ints.length : Int) dv1.ints = 0
  ·have c2 : wrongI n0 (dv1.ints.length : Int) (dv2.ints.length : Int) (dv3.ints.length : Int) dv1.ints = 0 := by rw [i1]; exact c
   by_cases e1 : dv1.ints.length = 0
   ·refine calls_of_yesV sound tab_ok specs_ok overs_ok c_y8 rfl (tellA_ok (allTold'_iff.1 ?_)) r0 hargs
    simp only [c_t8, om_0, om_10, om_20, om_30, om_f, F32, F82, D.toInt_int, D.ints_ofInts, tl]
    first | done | omega | (and_intros <;> first | omega | exact c | exact c2 | exact True.intro | (rw [i1]; done) | (rw [y0]; rfl) | rfl)
   by_cases e3 : dv3.ints.length = 0
   ·refine calls_of_yesV sound tab_ok specs_ok overs_ok c_y9 rfl (tellA_ok (allTold'_iff.1 ?_)) r0 hargs
    simp only [c_t9, om_0, om_10, om_20, om_30, om_f, F32, F82, D.toInt_int, D.ints_ofInts, tl]
    first | done | omega | (and_intros <;> first | omega | exact c | exact c2 | exact True.intro | (rw [i1]; done) | (rw [y0]; rfl) | rfl)
   refine calls_of_yesV sound tab_ok specs_ok overs_ok c_y10 rfl (tellA_ok (allTold'_iff.1 ?_)) r0 hargs
   simp only [c_t10, om_0, om_10, om_20, om_30, om_f, F32, F82, D.toInt_int, D.ints_ofInts, tl]
   first | done | omega | (and_intros <;> first | omega | exact c | exact c2 | exact True.intro | (rw [i1]; done) | (rw [y0]; rfl) | rfl)
  ·have c2 : ¬ wrongI n0 (dv1.ints.length : Int) (dv2.ints.length : Int) (dv3.ints.length : Int) dv1.ints = 0 := by rw [i1]; exact c
   by_cases e1 : dv1.ints.length = 0
   ·refine calls_of_yesV sound tab_ok specs_ok overs_ok c_y3 rfl (tellA_ok (allTold'_iff.1 ?_)) r0 hargs
    simp only [c_t3, om_0, om_10, om_20, om_30, om_f, F32, F82, D.toInt_int, D.ints_ofInts, tl]
    first | done | omega | (and_intros <;> first | omega | exact c | exact c2 | exact True.intro | (rw [i1]; done) | (rw [y0]; rfl) | rfl)
   by_cases e3 : dv3.ints.length = 0
   ·refine calls_of_yesV sound tab_ok specs_ok overs_ok c_y4 rfl (tellA_ok (allTold'_iff.1 ?_)) r0 hargs
    simp only [c_t4, om_0, om_10, om_20, om_30, om_f, F32, F82, D.toInt_int, D.ints_ofInts, tl]
    first | done | omega | (and_intros <;> first | omega | exact c | exact c2 | exact True.intro | (rw [i1]; done) | (rw [y0]; rfl) | rfl)
   refine calls_of_yesV sound tab_ok specs_ok overs_ok c_y5 rfl (tellA_ok (allTold'_iff.1 ?_)) r0 hargs
   simp only [c_t5, om_0, om_10, om_20, om_30, om_f, F32, F82, D.toInt_int, D.ints_ofInts, tl]
   first | done | omega | (and_intros <;> first | omega | exact c | exact c2 | exact True.intro | (rw [i1]; done) | (rw [y0]; rfl) | rfl)
 ·by_cases c : wrongI n0 (dv1.ints.length : Int) (dv2.ints.length : Int) (dv3.ints.length : Int) dv1.ints = 0
  ·obtain ⟨w0, w1, w2⟩ := wrong_iff.1 c
   have tf := tab_in (kind_in n0)
   have e1 : dv1.ints.length = 0 := by omega
   refine calls_of_yesV sound tab_ok specs_ok overs_ok c_y11 rfl (tellA_ok (allTold'_iff.1 ?_)) r0 hargs
   simp only [c_t11, om_0, om_10, om_20, om_30, om_f, F32, F82, D.toInt_int, D.ints_ofInts, tl]
   first | done | omega | (and_intros <;> first | omega | exact c | exact c2 | exact True.intro | (rw [i1]; done) | (rw [y0]; rfl) | rfl)
  ·by_cases e1 : dv1.ints.length = 0
   ·refine calls_of_yesV sound tab_ok specs_ok overs_ok c_y6 rfl (tellA_ok (allTold'_iff.1 ?_)) r0 hargs
    simp only [c_t6, om_0, om_10, om_20, om_30, om_f, F32, F82, D.toInt_int, D.ints_ofInts, tl]
    first | done | omega | (and_intros <;> first | omega | exact c | exact c2 | exact True.intro | (rw [i1]; done) | (rw [y0]; rfl) | rfl)
   refine calls_of_yesV sound tab_ok specs_ok overs_ok c_y7 rfl (tellA_ok (allTold'_iff.1 ?_)) r0 hargs
   simp only [c_t7, om_0, om_10, om_20, om_30, om_f, F32, F82, D.toInt_int, D.ints_ofInts, tl]
   first | done | omega | (and_intros <;> first | omega | exact c | exact c2 | exact True.intro | (rw [i1]; done) | (rw [y0]; rfl) | rfl)

theorem underI3 : Try.prog.underlying 3 = some (.int .i64) := by kernel_rfl
theorem shape22 : (Sh.sl (.int .i64)).is Try.prog 22 = true := by kernel_rfl
theorem shape23 : (Sh.sl (.agg [.int .u8, .int .u8, .int .u8, .int .u8, .int .u8, .int .u8, .int .u8, .int .u8, .int .u8, .int .u8, .int .u8, .int .u8, .int .u8, .int .u8, .int .u8, .int .u8])).is Try.prog 23 = true := by kernel_rfl
theorem shape24 : (Sh.sl (.int .u8)).is Try.prog 24 = true := by kernel_rfl
theorem len4 {l : List Value} (h : l.length = 4) : ∃ c0 c1 c2 c3, l = [c0, c1, c2, c3] := by
 match l, h with
 | [c0, c1, c2, c3], _ => exact ⟨_, _, _, _, rfl⟩

set_option maxRecDepth 100000 in
theorem lifted (os : Os) (started : os.Started) (H : Type) (enc : TypeId × Value → H) :
  ReturnsInHanded {} Try.checked os 3 .any (Rows.noteWritesSpec.pre6 enc Try.prog Try.f3 Rows.noteWritesRow.domain false) (Rows.noteWritesSpec.post enc Try.prog Try.f3 false true false false) := by
 refine returnsInHanded_of_change_sized (C := Try.checked) own started (by kernel_rfl) Try.func3
  (ChangeSpec.witness6 (enc := enc) (C := Try.checked) false ⟨#[], #[.agg #[.int .i64 0, .slice none 0 0, .slice none 0 0, .slice none 0 0]], []⟩ 8 (by kernel_rfl) (by kernel_rfl) (by kernel_rfl) (by kernel_rfl)) ?_
 intro W base args ds gs before hval0 hW hcnd hZ _
 have hval : ∀ (j : Nat) t v, Try.f3.params[j]? = some t → args[j]? = some v → Value.okWide Try.prog W .any base t v := hval0
 have hW' := hW
 have hlt := hW.lt
 obtain ⟨p, q, hA0, hV, rfl, hfz, hnd⟩ := hW
 have hA : DataW.TrodAll enc Try.prog W 0 (fun _ => true) true Try.f3.params.toList args.toList ds p := hA0
 have hAll := hA
 rw [Try.params3] at hA hval hAll hZ
 obtain ⟨rfl, rfl⟩ := trodVars_none hV
 obtain ⟨pv0, d0, rfl, rfl, h0⟩ := trodAll_one hA
 obtain ⟨cs0, rfl, hl0, ht0⟩ := in_struct (L := [(3, 0, 1), (22, 1, 1), (23, 2, 1), (24, 3, 1)]) (n := 4) (by kernel_rfl) (by kernel_rfl) (hval 0 26 _ rfl rfl) h0
 obtain ⟨x0_0, x0_1, x0_2, x0_3, rfl⟩ := len4 hl0
 have q_ht0 := trod_pieces (L := [(3, 0, 1), (22, 1, 1), (23, 2, 1), (24, 3, 1)]) (by kernel_rfl) ht0
 obtain ⟨n0, rfl, wn0⟩ := leaf_int underI3 (show ∃ m y, DataW.trod enc Try.prog W 0 (fun _ => true) true m 3 [x0_0] = some y from q_ht0 (3, 0, 1) (by simp))
 obtain ⟨dv1, hv1, hl1⟩ := leaf_val (s := .sl (.int .i64)) shape22 (show ∃ m y, DataW.trod enc Try.prog W 0 (fun _ => true) true m 22 [x0_1] = some y from q_ht0 (22, 1, 1) (by simp))
 obtain ⟨dv2, hv2, hl2⟩ := leaf_val (s := .sl (.agg [.int .u8, .int .u8, .int .u8, .int .u8, .int .u8, .int .u8, .int .u8, .int .u8, .int .u8, .int .u8, .int .u8, .int .u8, .int .u8, .int .u8, .int .u8, .int .u8])) shape23 (show ∃ m y, DataW.trod enc Try.prog W 0 (fun _ => true) true m 23 [x0_2] = some y from q_ht0 (23, 2, 1) (by simp))
 obtain ⟨dv3, hv3, hl3⟩ := leaf_val (s := .sl (.int .u8)) shape24 (show ∃ m y, DataW.trod enc Try.prog W 0 (fun _ => true) true m 24 [x0_3] = some y from q_ht0 (24, 3, 1) (by simp))
 clear hA0 hval0
 have hcall : Calls Try.prog 3 #[.agg #[.int .i64 n0, x0_1, x0_2, x0_3]] W fun e w' => e = .returned (.bool true) ∧ Below W.heap.size W w' := by
  exact c_walk wn0 hv1 hl1 hv2 hl2 hv3 hl3 (globs0 _ W)
 refine hcall.mono fun e W' ⟨he, hg⟩ => ?_
 subst he
 exact ⟨_, rfl, _, [], _, [], _, [], hW', trodAll_cons_mk (shut_bool Try.underlying4 _) trodAll_mk0, trodAll_stays laid hg _ _ _ _ hAll (fun x hx => hlt x (by simpa using hx)) (by kernel_rfl), rfl, hg.frame _, fun h => by cases h⟩

theorem over : Rows.noteWritesRow.holds Try.pinned (OpenSpec.ofChange Rows.noteWritesSpec) :=
 OpenClaim.holds_of_wide 3 Try.f3 rfl rfl rfl rfl rfl rfl rfl ⟨rfl, rfl, rfl, rfl, rfl⟩ rfl rfl rfl rfl rfl (by kernel_rfl) Try.func3 (by kernel_rfl)
  (of_decide_eq_true (by kernel_rfl)) (by unfold Func.isWrapper; first | (rw [if_pos (by decide +kernel)]; kernel_rfl) | (rw [if_neg (by decide +kernel)]; exact ⟨rfl, rfl⟩))
  (fun os started H enc _ => lifted os started H enc)

theorem proved : Rows.NoteWritesSaid :=
 over
#print axioms proved
end Go.Proofs.Ytmmfjmmldhnpfaa.noteWrites
