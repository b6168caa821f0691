/-
 The law PackPuts of the layer pack holds of the code: for all inputs the call returns true, and the arguments read as they did. No condition; the package variables that it reads are as the program's text lays them (the card ties them).
-/
import Derived.Test.YtidjfojcifjdjaaDoorCo
import Derived.Test.YtidjfojcifjdjaaDoorSycp
import Derived.Test.YtidjfojcifjdjaaDoorQp
import Derived.Test.YtidjfojcifjdjaaDoorP0
import Derived.Test.YtidjfojcifjdjaaDoorPa
import Derived.Test.YtidjfojcifjdjaaDoorPm
import Derived.Test.YtidjfojcifjdjaaDoorPl
import Derived.Test.YtidjfojcifjdjaaDoorPu
import Derived.Test.YtidjfojcifjdjaaDoorPq
import Derived.Test.YtidjfojcifjdjaaDoorPb
import Derived.Test.YtidjfojcifjdjaaDoorPd
import Derived.Test.YtidjfojcifjdjaaDoorPh
import Derived.Test.YtidjfojcifjdjaaDoorPho
import Derived.Test.YtidjfojcifjdjaaDoorPr
import Derived.Test.YtidjfojcifjdjaaDoorPc
import Derived.Test.YtidjfojcifjdjaaDoorPe
import Derived.Test.YtidjfojcifjdjaaDoorPw
import Derived.Test.YtidjfojcifjdjaaDoorCards
import Derived.Test.YtidjfojcifjdjaaDoorTie
import Derived.SevenTiedAt
import Derived.WalkKit
import Derived.ProofKit
import Derived.OpenShut
set_option linter.unusedSimpArgs false
set_option linter.unusedVariables false
namespace Go.Proofs.YtidjfojcifjdjaaDoor.packPuts
open Go.ChangeShapes Go.WideShapes Go.ChangeAt Go.RowKit Go.Ev Go.Proofs.YtidjfojcifjdjaaDoor.Co Go.Proofs.YtidjfojcifjdjaaDoor.Qp Go.Proofs.YtidjfojcifjdjaaDoor.P0 Go.Proofs.YtidjfojcifjdjaaDoor.Pa Go.Proofs.YtidjfojcifjdjaaDoor.Pm Go.Proofs.YtidjfojcifjdjaaDoor.Pl Go.Proofs.YtidjfojcifjdjaaDoor.Pn Go.Proofs.YtidjfojcifjdjaaDoor.Pu Go.Proofs.YtidjfojcifjdjaaDoor.Pud Go.Proofs.YtidjfojcifjdjaaDoor.Pq Go.Proofs.YtidjfojcifjdjaaDoor.Pqd Go.Proofs.YtidjfojcifjdjaaDoor.Pb Go.Proofs.YtidjfojcifjdjaaDoor.Pd Go.Proofs.YtidjfojcifjdjaaDoor.Ph Go.Proofs.YtidjfojcifjdjaaDoor.Pho Go.Proofs.YtidjfojcifjdjaaDoor.Pr Go.Proofs.YtidjfojcifjdjaaDoor.Pc Go.Proofs.YtidjfojcifjdjaaDoor.Pe Go.Proofs.YtidjfojcifjdjaaDoor.Pw

def om (len0 cap0 : Nat) (zs0 : List Int) (n1 : Int) : Om := ⟨fun _ => .bool false, fun i => if i = 0 then .int len0 else if i = 1 then .int cap0 else if i = 2 then D.ofInts zs0 else if i = 10 then .int n1 else .int 0, F⟩
theorem om_0 (len0 cap0 : Nat) (zs0 : List Int) (n1 : Int) : (om len0 cap0 zs0 n1).d 0 = .int len0 := rfl
theorem om_1 (len0 cap0 : Nat) (zs0 : List Int) (n1 : Int) : (om len0 cap0 zs0 n1).d 1 = .int cap0 := rfl
theorem om_2 (len0 cap0 : Nat) (zs0 : List Int) (n1 : Int) : (om len0 cap0 zs0 n1).d 2 = D.ofInts zs0 := rfl
theorem om_10 (len0 cap0 : Nat) (zs0 : List Int) (n1 : Int) : (om len0 cap0 zs0 n1).d 10 = .int n1 := rfl
theorem om_f (len0 cap0 : Nat) (zs0 : List Int) (n1 : Int) : (om len0 cap0 zs0 n1).f = F := rfl
theorem lent_prt {X : List Int} {l : Int} (h : 0 ≤ l) (h2 : l ≤ X.length) : prt (lentI (prt X 0 (0 + l))) 0 (0 + l) = prt X 0 (0 + l) := by
 have hl := prt_length (x := X) (o := 0) (t := 0 + l) (by omega) (by omega) (by omega)
 have e : ∀ (r t : List Int), (r.length : Int) = l → prt (r ++ t) 0 (0 + l) = r := by
  intro r t hr
  unfold prt
  rw [List.take_append_of_le_length (by omega), List.take_of_length_le (by omega)]
  rfl
 exact e _ _ (by omega)

abbrev as0 : Q × Bool := ((.le (.bi .add (.int 0) (.int 0)) (.int 3)), true)
abbrev as1 : Q × Bool := ((.le (.int 1) (.var 10)), false)
def c_emp_t0 : List (Q × Bool) := [as0, as1]
set_option maxRecDepth 100000 in
theorem c_emp_y0 : yesOf Tryd.prog (knownV (tellA c_emp_t0) tabS specsS oversS) 8000 80 3 [.empty, .sint .i64 (.var 10)] (globSt g0) = true := by kernel_rfl
abbrev as2 : Q × Bool := ((.le (.int 1) (.var 10)), true)
abbrev as3 : Q × Bool := ((.le (.var 10) (.int 1024)), false)
def c_emp_t1 : List (Q × Bool) := [as0, as2, as3]
set_option maxRecDepth 100000 in
theorem c_emp_y1 : yesOf Tryd.prog (knownV (tellA c_emp_t1) tabS specsS oversS) 8000 80 3 [.empty, .sint .i64 (.var 10)] (globSt g0) = true := by kernel_rfl
abbrev as4 : Q × Bool := ((.le (.var 10) (.int 1024)), true)
abbrev as5 : Q × Bool := ((.fit .i64 (.bi .add (.var 10) (.int 22))), true)
abbrev as6 : Q × Bool := ((.fit .i64 (.bi .add (.var 10) (.int 26))), true)
def c_emp_t2 : List (Q × Bool) := [as0, as2, as4, as5, as6]
set_option maxRecDepth 100000 in
theorem c_emp_y2 : yesOf Tryd.prog (knownV (tellA c_emp_t2) tabS specsS oversS) 8000 80 3 [.empty, .sint .i64 (.var 10)] (globSt g0) = true := by kernel_rfl
set_option maxRecDepth 100000 in
set_option maxHeartbeats 6000000 in
theorem c_emp_walk {W : World} {v0 : Value} (hv0 : ∀ e : Env, VR e .empty v0) {n1 : Int} (hn1 : inK .i64 n1) (hG : GlobsR (om 0 0 [] n1) W g0) : Calls Tryd.prog 3 #[v0, .int .i64 n1] W fun e w' => e = .returned (.bool true) ∧ Below W.heap.size W w' := by
 have r0 := Rel.globs (om 0 0 [] n1) W g0 hG
 have hargs : VRs (Env.none (om 0 0 [] n1) W) [.empty, .sint .i64 (.var 10)] [v0, .int .i64 n1] := VRs_cons (hv0 _) (VRs_cons (vr_sint (i := 10) hn1 (by rw [r0.opq]; rfl)) (VRs_nil))
 simp only [inK, i64min, i64max, u8min, u8max, u32min, u32max, u64min, u64max] at hn1
 by_cases c0 : n1 < 1
 ·refine calls_of_yesV sound tabS_ok specsS_ok oversS_ok c_emp_y0 rfl (tellA_ok (allTold'_iff.1 ?_)) r0 hargs
  simp only [c_emp_t0, om_0, om_1, om_2, om_10, om_f, F46, F61, F62, tl]
  try simp only [and_true, true_and]
  omega
 ·by_cases c1 : 1024 < n1
  ·refine calls_of_yesV sound tabS_ok specsS_ok oversS_ok c_emp_y1 rfl (tellA_ok (allTold'_iff.1 ?_)) r0 hargs
   simp only [c_emp_t1, om_0, om_1, om_2, om_10, om_f, F46, F61, F62, tl]
   try simp only [and_true, true_and]
   omega
  ·refine calls_of_yesV sound tabS_ok specsS_ok oversS_ok c_emp_y2 rfl (tellA_ok (allTold'_iff.1 ?_)) r0 hargs
   simp only [c_emp_t2, om_0, om_1, om_2, om_10, om_f, F46, F61, F62, tl]
   try simp only [and_true, true_and]
   omega

abbrev as7 : Q × Bool := ((.fit .i64 (.var 0)), true)
abbrev as8 : Q × Bool := ((.le (.var 0) (.int 1100)), false)
def c_in_t0 : List (Q × Bool) := [as7, as8]
set_option maxRecDepth 100000 in
theorem c_in_y0 : yesOf Tryd.prog (knownV (tellA c_in_t0) tabS specsS oversS) 8000 80 3 [.sslice 1 (.int 0) (.var 0) (.var 1) false, .sint .i64 (.var 10)] ((globSt g0).newO (.eseq ⟨.u8, .var 0, .var 2⟩)) = true := by kernel_rfl
abbrev as9 : Q × Bool := ((.le (.var 0) (.int 1100)), true)
abbrev as10 : Q × Bool := ((.le (.bi .add (.int 0) (.var 0)) (.var 0)), true)
abbrev as11 : Q × Bool := ((.le (.var 0) (.int 1000000)), true)
abbrev as12 : Q × Bool := ((.le (.bi .add (.int 0) (.var 0)) (.bi .add (.var 0) (.int 3))), true)
abbrev as13 : Q × Bool := ((.le (.int 1) (.var 0)), true)
abbrev as14 : Q × Bool := ((.le (.var 0) (.int 1024)), false)
abbrev as15 : Q × Bool := ((.eq (.var 0) (.int 0)), false)
def c_in_t1 : List (Q × Bool) := [as7, as9, as10, as11, as12, as13, as14, as15, as1]
set_option maxRecDepth 100000 in
theorem c_in_y1 : yesOf Tryd.prog (knownV (tellA c_in_t1) tabS specsS oversS) 8000 80 3 [.sslice 1 (.int 0) (.var 0) (.var 1) false, .sint .i64 (.var 10)] ((globSt g0).newO (.eseq ⟨.u8, .var 0, .var 2⟩)) = true := by kernel_rfl
def c_in_t2 : List (Q × Bool) := [as7, as9, as10, as11, as12, as13, as14, as15, as2, as3]
set_option maxRecDepth 100000 in
theorem c_in_y2 : yesOf Tryd.prog (knownV (tellA c_in_t2) tabS specsS oversS) 8000 80 3 [.sslice 1 (.int 0) (.var 0) (.var 1) false, .sint .i64 (.var 10)] ((globSt g0).newO (.eseq ⟨.u8, .var 0, .var 2⟩)) = true := by kernel_rfl
def c_in_t3 : List (Q × Bool) := [as7, as9, as10, as11, as12, as13, as14, as15, as2, as4, as5, as6]
set_option maxRecDepth 100000 in
theorem c_in_y3 : yesOf Tryd.prog (knownV (tellA c_in_t3) tabS specsS oversS) 8000 80 3 [.sslice 1 (.int 0) (.var 0) (.var 1) false, .sint .i64 (.var 10)] ((globSt g0).newO (.eseq ⟨.u8, .var 0, .var 2⟩)) = true := by kernel_rfl
abbrev as16 : Q × Bool := ((.le (.var 0) (.int 1024)), true)
abbrev as17 : Q × Bool := ((.eq (.bi .sel (.fn 61 (.bi .pair (.fn 46 (.bi .pair (.var 2) (.bi .pair (.int 0) (.bi .pair (.bi .add (.int 0) (.var 0)) (.int 0))))) (.bi .pair (.int 0) (.bi .pair (.var 0) (.int 0))))) (.int 0)) (.bi .sel (.fn 61 (.bi .pair (.var 2) (.bi .pair (.int 0) (.bi .pair (.var 0) (.int 0))))) (.int 0))), true)
abbrev as18 : Q × Bool := ((.eq (.bi .sel (.fn 61 (.bi .pair (.fn 46 (.bi .pair (.var 2) (.bi .pair (.int 0) (.bi .pair (.bi .add (.int 0) (.var 0)) (.int 0))))) (.bi .pair (.int 0) (.bi .pair (.var 0) (.int 0))))) (.int 1)) (.bi .sel (.fn 61 (.bi .pair (.var 2) (.bi .pair (.int 0) (.bi .pair (.var 0) (.int 0))))) (.int 1))), true)
abbrev as19 : Q × Bool := ((.eq (.bi .sel (.fn 61 (.bi .pair (.fn 46 (.bi .pair (.var 2) (.bi .pair (.int 0) (.bi .pair (.bi .add (.int 0) (.var 0)) (.int 0))))) (.bi .pair (.int 0) (.bi .pair (.var 0) (.int 0))))) (.int 2)) (.bi .sel (.fn 61 (.bi .pair (.var 2) (.bi .pair (.int 0) (.bi .pair (.var 0) (.int 0))))) (.int 2))), true)
abbrev as20 : Q × Bool := ((.eq (.bi .sel (.fn 61 (.bi .pair (.fn 46 (.bi .pair (.var 2) (.bi .pair (.int 0) (.bi .pair (.bi .add (.int 0) (.var 0)) (.int 0))))) (.bi .pair (.int 0) (.bi .pair (.var 0) (.int 0))))) (.int 3)) (.bi .sel (.fn 61 (.bi .pair (.var 2) (.bi .pair (.int 0) (.bi .pair (.var 0) (.int 0))))) (.int 3))), true)
abbrev as21 : Q × Bool := ((.eq (.bi .sel (.fn 61 (.bi .pair (.fn 46 (.bi .pair (.var 2) (.bi .pair (.int 0) (.bi .pair (.bi .add (.int 0) (.var 0)) (.int 0))))) (.bi .pair (.int 0) (.bi .pair (.var 0) (.int 0))))) (.int 4)) (.bi .sel (.fn 61 (.bi .pair (.var 2) (.bi .pair (.int 0) (.bi .pair (.var 0) (.int 0))))) (.int 4))), true)
abbrev as22 : Q × Bool := ((.eq (.bi .sel (.fn 61 (.bi .pair (.fn 46 (.bi .pair (.var 2) (.bi .pair (.int 0) (.bi .pair (.bi .add (.int 0) (.var 0)) (.int 0))))) (.bi .pair (.int 0) (.bi .pair (.var 0) (.int 0))))) (.int 5)) (.bi .sel (.fn 61 (.bi .pair (.var 2) (.bi .pair (.int 0) (.bi .pair (.var 0) (.int 0))))) (.int 5))), true)
abbrev as23 : Q × Bool := ((.eq (.bi .sel (.fn 61 (.bi .pair (.fn 46 (.bi .pair (.var 2) (.bi .pair (.int 0) (.bi .pair (.bi .add (.int 0) (.var 0)) (.int 0))))) (.bi .pair (.int 0) (.bi .pair (.var 0) (.int 0))))) (.int 6)) (.bi .sel (.fn 61 (.bi .pair (.var 2) (.bi .pair (.int 0) (.bi .pair (.var 0) (.int 0))))) (.int 6))), true)
abbrev as24 : Q × Bool := ((.eq (.bi .sel (.fn 61 (.bi .pair (.fn 46 (.bi .pair (.var 2) (.bi .pair (.int 0) (.bi .pair (.bi .add (.int 0) (.var 0)) (.int 0))))) (.bi .pair (.int 0) (.bi .pair (.var 0) (.int 0))))) (.int 7)) (.bi .sel (.fn 61 (.bi .pair (.var 2) (.bi .pair (.int 0) (.bi .pair (.var 0) (.int 0))))) (.int 7))), true)
abbrev as25 : Q × Bool := ((.eq (.bi .sel (.fn 61 (.bi .pair (.fn 46 (.bi .pair (.var 2) (.bi .pair (.int 0) (.bi .pair (.bi .add (.int 0) (.var 0)) (.int 0))))) (.bi .pair (.int 0) (.bi .pair (.var 0) (.int 0))))) (.int 8)) (.bi .sel (.fn 61 (.bi .pair (.var 2) (.bi .pair (.int 0) (.bi .pair (.var 0) (.int 0))))) (.int 8))), true)
abbrev as26 : Q × Bool := ((.eq (.bi .sel (.fn 61 (.bi .pair (.fn 46 (.bi .pair (.var 2) (.bi .pair (.int 0) (.bi .pair (.bi .add (.int 0) (.var 0)) (.int 0))))) (.bi .pair (.int 0) (.bi .pair (.var 0) (.int 0))))) (.int 9)) (.bi .sel (.fn 61 (.bi .pair (.var 2) (.bi .pair (.int 0) (.bi .pair (.var 0) (.int 0))))) (.int 9))), true)
abbrev as27 : Q × Bool := ((.eq (.bi .sel (.fn 61 (.bi .pair (.fn 46 (.bi .pair (.var 2) (.bi .pair (.int 0) (.bi .pair (.bi .add (.int 0) (.var 0)) (.int 0))))) (.bi .pair (.int 0) (.bi .pair (.var 0) (.int 0))))) (.int 10)) (.bi .sel (.fn 61 (.bi .pair (.var 2) (.bi .pair (.int 0) (.bi .pair (.var 0) (.int 0))))) (.int 10))), true)
abbrev as28 : Q × Bool := ((.eq (.bi .sel (.fn 61 (.bi .pair (.fn 46 (.bi .pair (.var 2) (.bi .pair (.int 0) (.bi .pair (.bi .add (.int 0) (.var 0)) (.int 0))))) (.bi .pair (.int 0) (.bi .pair (.var 0) (.int 0))))) (.int 11)) (.bi .sel (.fn 61 (.bi .pair (.var 2) (.bi .pair (.int 0) (.bi .pair (.var 0) (.int 0))))) (.int 11))), true)
abbrev as29 : Q × Bool := ((.eq (.bi .sel (.fn 61 (.bi .pair (.fn 46 (.bi .pair (.var 2) (.bi .pair (.int 0) (.bi .pair (.bi .add (.int 0) (.var 0)) (.int 0))))) (.bi .pair (.int 0) (.bi .pair (.var 0) (.int 0))))) (.int 12)) (.bi .sel (.fn 61 (.bi .pair (.var 2) (.bi .pair (.int 0) (.bi .pair (.var 0) (.int 0))))) (.int 12))), true)
abbrev as30 : Q × Bool := ((.eq (.bi .sel (.fn 61 (.bi .pair (.fn 46 (.bi .pair (.var 2) (.bi .pair (.int 0) (.bi .pair (.bi .add (.int 0) (.var 0)) (.int 0))))) (.bi .pair (.int 0) (.bi .pair (.var 0) (.int 0))))) (.int 13)) (.bi .sel (.fn 61 (.bi .pair (.var 2) (.bi .pair (.int 0) (.bi .pair (.var 0) (.int 0))))) (.int 13))), true)
abbrev as31 : Q × Bool := ((.eq (.bi .sel (.fn 61 (.bi .pair (.fn 46 (.bi .pair (.var 2) (.bi .pair (.int 0) (.bi .pair (.bi .add (.int 0) (.var 0)) (.int 0))))) (.bi .pair (.int 0) (.bi .pair (.var 0) (.int 0))))) (.int 14)) (.bi .sel (.fn 61 (.bi .pair (.var 2) (.bi .pair (.int 0) (.bi .pair (.var 0) (.int 0))))) (.int 14))), true)
abbrev as32 : Q × Bool := ((.eq (.bi .sel (.fn 61 (.bi .pair (.fn 46 (.bi .pair (.var 2) (.bi .pair (.int 0) (.bi .pair (.bi .add (.int 0) (.var 0)) (.int 0))))) (.bi .pair (.int 0) (.bi .pair (.var 0) (.int 0))))) (.int 15)) (.bi .sel (.fn 61 (.bi .pair (.var 2) (.bi .pair (.int 0) (.bi .pair (.var 0) (.int 0))))) (.int 15))), true)
abbrev as33 : Q × Bool := ((.same (.fn 62 (.bi .pair (.fn 46 (.bi .pair (.var 2) (.bi .pair (.int 0) (.bi .pair (.bi .add (.int 0) (.var 0)) (.int 0))))) (.bi .pair (.int 0) (.bi .pair (.var 0) (.int 0))))) (.fn 62 (.bi .pair (.var 2) (.bi .pair (.int 0) (.bi .pair (.var 0) (.int 0)))))), true)
def c_in_t4 : List (Q × Bool) := [as7, as9, as10, as11, as12, as13, as16, as17, as18, as19, as20, as21, as22, as23, as24, as25, as26, as27, as28, as29, as30, as31, as32, as33, as1]
set_option maxRecDepth 100000 in
theorem c_in_y4 : yesOf Tryd.prog (knownV (tellA c_in_t4) tabS specsS oversS) 8000 80 3 [.sslice 1 (.int 0) (.var 0) (.var 1) false, .sint .i64 (.var 10)] ((globSt g0).newO (.eseq ⟨.u8, .var 0, .var 2⟩)) = true := by kernel_rfl
def c_in_t5 : List (Q × Bool) := [as7, as9, as10, as11, as12, as13, as16, as17, as18, as19, as20, as21, as22, as23, as24, as25, as26, as27, as28, as29, as30, as31, as32, as33, as2, as3]
set_option maxRecDepth 100000 in
theorem c_in_y5 : yesOf Tryd.prog (knownV (tellA c_in_t5) tabS specsS oversS) 8000 80 3 [.sslice 1 (.int 0) (.var 0) (.var 1) false, .sint .i64 (.var 10)] ((globSt g0).newO (.eseq ⟨.u8, .var 0, .var 2⟩)) = true := by kernel_rfl
def c_in_t6 : List (Q × Bool) := [as7, as9, as10, as11, as12, as13, as16, as17, as18, as19, as20, as21, as22, as23, as24, as25, as26, as27, as28, as29, as30, as31, as32, as33, as2, as4, as5, as6]
set_option maxRecDepth 100000 in
theorem c_in_y6 : yesOf Tryd.prog (knownV (tellA c_in_t6) tabS specsS oversS) 8000 80 3 [.sslice 1 (.int 0) (.var 0) (.var 1) false, .sint .i64 (.var 10)] ((globSt g0).newO (.eseq ⟨.u8, .var 0, .var 2⟩)) = true := by kernel_rfl
set_option maxRecDepth 100000 in
set_option maxHeartbeats 6000000 in
theorem c_in_walk {W : World} {v0 : Value} {b0 off0 len0 cap0 : Nat} {zs0 : List Int} (h0 : InSlice W .u8 v0 b0 off0 len0 cap0 zs0) {n1 : Int} (hn1 : inK .i64 n1) (hG : GlobsR (om len0 cap0 zs0 n1) W g0) : Calls Tryd.prog 3 #[v0, .int .i64 n1] W fun e w' => e = .returned (.bool true) ∧ Below W.heap.size W w' := by
 have r0 := Rel.globs (om len0 cap0 zs0 n1) W g0 hG
 obtain ⟨le0, r1, x0⟩ := h0.open r0 (l := 0) (c := 1) (x := 2) rfl rfl rfl
 have pos0 := h0.pos
 have lec0 := h0.le
 have max0 := h0.max
 have zl0 := h0.len
 have rng0 := h0.rng
 have hargs : VRs _ [.sslice 1 (.int 0) (.var 0) (.var 1) false, .sint .i64 (.var 10)] [v0, .int .i64 n1] := VRs_cons (x0) (VRs_cons (vr_sint (i := 10) hn1 (by rw [r1.opq]; rfl)) (VRs_nil))
 simp only [inK, i64min, i64max, u8min, u8max, u32min, u32max, u64min, u64max] at hn1
 by_cases h : 1100 < len0
 ·refine calls_of_yesV sound tabS_ok specsS_ok oversS_ok c_in_y0 rfl (tellA_ok (allTold'_iff.1 ?_)) r1 hargs
  simp only [c_in_t0, om_0, om_1, om_2, om_10, om_f, tl]
  omega
 ·by_cases g : 1024 < len0
  ·by_cases c0 : n1 < 1
   ·refine calls_of_yesV sound tabS_ok specsS_ok oversS_ok c_in_y1 rfl (tellA_ok (allTold'_iff.1 ?_)) r1 hargs
    simp only [c_in_t1, om_0, om_1, om_2, om_10, om_f, F46, F61, F62, tl]
    try simp only [and_true, true_and]
    omega
   ·by_cases c1 : 1024 < n1
    ·refine calls_of_yesV sound tabS_ok specsS_ok oversS_ok c_in_y2 rfl (tellA_ok (allTold'_iff.1 ?_)) r1 hargs
     simp only [c_in_t2, om_0, om_1, om_2, om_10, om_f, F46, F61, F62, tl]
     try simp only [and_true, true_and]
     omega
    ·refine calls_of_yesV sound tabS_ok specsS_ok oversS_ok c_in_y3 rfl (tellA_ok (allTold'_iff.1 ?_)) r1 hargs
     simp only [c_in_t3, om_0, om_1, om_2, om_10, om_f, F46, F61, F62, tl]
     try simp only [and_true, true_and]
     omega
  ·have hL := lent_prt (X := zs0) (l := len0) (by omega) (by omega)
   by_cases c0 : n1 < 1
   ·refine calls_of_yesV sound tabS_ok specsS_ok oversS_ok c_in_y4 rfl (tellA_ok (allTold'_iff.1 ?_)) r1 hargs
    simp only [c_in_t4, om_0, om_1, om_2, om_10, om_f, F46, F61, F62, tl]
    simp only [hL, and_true, true_and]
    omega
   ·by_cases c1 : 1024 < n1
    ·refine calls_of_yesV sound tabS_ok specsS_ok oversS_ok c_in_y5 rfl (tellA_ok (allTold'_iff.1 ?_)) r1 hargs
     simp only [c_in_t5, om_0, om_1, om_2, om_10, om_f, F46, F61, F62, tl]
     simp only [hL, and_true, true_and]
     omega
    ·refine calls_of_yesV sound tabS_ok specsS_ok oversS_ok c_in_y6 rfl (tellA_ok (allTold'_iff.1 ?_)) r1 hargs
     simp only [c_in_t6, om_0, om_1, om_2, om_10, om_f, F46, F61, F62, tl]
     simp only [hL, and_true, true_and]
     omega

theorem underS22 : Tryd.prog.underlying 22 = some (.slice 5) := by kernel_rfl
theorem underE5 : Tryd.prog.underlying 5 = some (.int .u8) := by kernel_rfl
theorem cellsE5 : Tryd.prog.cellsOf 5 = 1 := by kernel_rfl
theorem underI3 : Tryd.prog.underlying 3 = some (.int .i64) := by kernel_rfl

set_option maxRecDepth 100000 in
theorem lifted (os : Os) (started : os.Started) (H : Type) (enc : TypeId × Value → H) :
  ReturnsInHanded {} Tryd.checked os 3 .any (fun w args => (Rows.packPutsSpec.pre enc Tryd.prog Tryd.f3 [] false w args ∧ laidMetH Tryd.prog laidL w) ∧ sizedMet enc Tryd.prog Tryd.f3 (OpenSpec.ofChange Rows.packPutsSpec) false w args)
   (Rows.packPutsSpec.post enc Tryd.prog Tryd.f3 false true false false) := by
 refine returnsInHanded_of_change_and (C := Tryd.checked) (X := fun w _ => laidMetH Tryd.prog laidL w) (fun _ _ _ hh h => h.of_heap hh) own started (by kernel_rfl) Tryd.func3
  (ChangeSpec.witness_shaped (enc := enc) (C := Tryd.checked) (os := os) (X := fun w _ => laidMetH Tryd.prog laidL w) false (World.doorLaid Tryd.prog 400 os) #[.slice none 0 0, .int .i64 0] 8 rfl (World.shaped_of_RefB (by kernel_rfl) (by kernel_rfl)) (by kernel_rfl) (by kernel_rfl) (by kernel_rfl) (door_met os _)) ?_
 intro W base args ds gs before hval0 hW _ _ hL _
 have hval : ∀ (j : Nat) t v, Tryd.f3.params[j]? = some t → args[j]? = some v → Value.okWide Tryd.prog W .any base t v := hval0
 have hW' := hW
 have hlt := hW.lt
 obtain ⟨p, q, hA0, hV, rfl, hfz, hnd⟩ := hW
 have hA : DataW.TrodAll enc Tryd.prog W 0 (fun _ => true) true Tryd.f3.params.toList args.toList ds p := hA0
 have hAll := hA
 rw [Tryd.params3] at hA hval hAll
 obtain ⟨rfl, rfl⟩ := trodVars_none hV
 obtain ⟨pv0, pv1, d0, d1, p0, p1, rfl, rfl, rfl, h0, h1⟩ := trodAll_two hA
 have s0 := in_slice (k := .u8) underS22 underE5 cellsE5 (hval 0 22 _ rfl rfl) h0
 obtain ⟨n1, rfl, rfl, rfl, wn1⟩ := open_int underI3 (hval 1 3 _ rfl rfl) h1
 have wn1 := wf_inK wn1
 clear hA0 hval0
 have hcall : Calls Tryd.prog 3 #[pv0, .int .i64 n1] W fun e w' => e = .returned (.bool true) ∧ Below W.heap.size W w' := by
  rcases s0 with rfl | ⟨a0, c0, rfl⟩ | ⟨_, _, _, _, _, s0⟩
  ·exact c_emp_walk (fun _ => vr_emptyN) wn1 (globs0 _ hL)
  ·exact c_emp_walk (fun _ => vr_emptyH a0 c0) wn1 (globs0 _ hL)
  ·exact c_in_walk s0 wn1 (globs0 _ hL)
 refine hcall.mono fun e W' ⟨he, hg⟩ => ?_
 subst he
 exact ⟨_, rfl, _, [], _, [], _, [], hW', trodAll_cons_mk (shut_bool Tryd.underlying4 _) trodAll_mk0, trodAll_stays laid hg _ _ _ _ hAll (fun x hx => hlt x (by simpa using hx)) (by kernel_rfl), rfl, hg.frame _, fun h => by cases h⟩

theorem over : Rows.packPutsRow.holds Tryd.pinned (OpenSpec.ofChange Rows.packPutsSpec) :=
 OpenClaim.holds_of_wide 3 Tryd.f3 rfl rfl rfl rfl rfl rfl rfl ⟨rfl, rfl, rfl, rfl, rfl⟩ rfl rfl rfl rfl rfl (by kernel_rfl) Tryd.func3 (by kernel_rfl)
  (of_decide_eq_true (by kernel_rfl)) (by unfold Func.isWrapper; first | (rw [if_pos (by decide +kernel)]; kernel_rfl) | (rw [if_neg (by decide +kernel)]; exact ⟨rfl, rfl⟩))
  (fun os started H enc _ => lifted os started H enc)

theorem proved : Rows.PackPutsCardSaid :=
 Claim7.holds_tied_plain_at .later [] [.data] true (true, "52efef33b2a9fb46a90e9c7ce2784e6524408f1832c9027874ac55aeda9878d3") false
  over (fun _ h => by cases h) (by kernel_rfl) (fun _ h => by cases h) packPuts_row_tie rfl ⟨rfl, rfl⟩ (by kernel_rfl) rfl
  (fun f fn hf hfn => by
   obtain rfl : f = 3 := Option.some.inj ((show Tryd.prog.funcNamed "satchel/satchellaw17.PackPuts" = some 3 by kernel_rfl).symm.trans hf) |>.symm
   obtain rfl : fn = Tryd.f3 := (Option.some.inj (Tryd.func3.symm.trans hfn)).symm
   exact ⟨by kernel_rfl, fun j t ht => by
    rw [Tryd.params3] at ht
    have hm : t ∈ ([22, 3] : List TypeId) := by simpa using Array.mem_of_getElem? ht
    have hall : (([22, 3] : List TypeId).all fun u => !Tryd.prog.wantsStandIn u) = true := by kernel_rfl
    exact (show Tryd.prog.wantsStandIn t = false by simpa using List.all_eq_true.1 hall t hm)⟩)
  (by kernel_rfl)
#print axioms proved
end Go.Proofs.YtidjfojcifjdjaaDoor.packPuts
