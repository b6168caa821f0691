/-
  The law FrameTurned of the layer frame holds of the code: for all inputs the call returns true, and the arguments read as they did. No condition; the package variables that it reads are as the program's text lays them (the card ties them).
-/
import Derived.Test.YtlmcjfcfmcdcpaaDoorCo
import Derived.Test.YtlmcjfcfmcdcpaaDoorSycp
import Derived.Test.YtlmcjfcfmcdcpaaDoorSyag
import Derived.Test.YtlmcjfcfmcdcpaaDoorQu
import Derived.Test.YtlmcjfcfmcdcpaaDoorGa
import Derived.Test.YtlmcjfcfmcdcpaaDoorGm
import Derived.Test.YtlmcjfcfmcdcpaaDoorGx
import Derived.Test.YtlmcjfcfmcdcpaaDoorFl
import Derived.Test.YtlmcjfcfmcdcpaaDoorFa
import Derived.Test.YtlmcjfcfmcdcpaaDoorFb
import Derived.Test.YtlmcjfcfmcdcpaaDoorFc
import Derived.Test.YtlmcjfcfmcdcpaaDoorFd
import Derived.Test.YtlmcjfcfmcdcpaaDoorFp
import Derived.Test.YtlmcjfcfmcdcpaaDoorFu
import Derived.Test.YtlmcjfcfmcdcpaaDoorCards
import Derived.Test.YtlmcjfcfmcdcpaaDoorTie
import Derived.SevenTiedAt
import Derived.WalkKit
import Derived.ProofKit
import Derived.OpenShut
set_option linter.unusedSimpArgs false
set_option linter.unusedVariables false
namespace Go.Proofs.YtlmcjfcfmcdcpaaDoor.frameTurned
open Go.ChangeShapes Go.WideShapes Go.ChangeAt Go.RowKit Go.Ev Go.Proofs.YtlmcjfcfmcdcpaaDoor.Co Go.Proofs.YtlmcjfcfmcdcpaaDoor.Qu Go.Proofs.YtlmcjfcfmcdcpaaDoor.Ga Go.Proofs.YtlmcjfcfmcdcpaaDoor.Gm Go.Proofs.YtlmcjfcfmcdcpaaDoor.Gx Go.Proofs.YtlmcjfcfmcdcpaaDoor.Fl Go.Proofs.YtlmcjfcfmcdcpaaDoor.Fa Go.Proofs.YtlmcjfcfmcdcpaaDoor.Fb Go.Proofs.YtlmcjfcfmcdcpaaDoor.Fc Go.Proofs.YtlmcjfcfmcdcpaaDoor.Fd Go.Proofs.YtlmcjfcfmcdcpaaDoor.Fp Go.Proofs.YtlmcjfcfmcdcpaaDoor.Fu

def om (n0 : Int) (n1 : Int) (n2 : Int) (n3 : Int) (n4 : Int) (len5 cap5 : Nat) (zs5 : List Int) (n6 : Int) (n7 : Int) : Om := ⟨fun _ => .bool false, fun i => if i = 0 then .int n0 else if i = 10 then .int n1 else if i = 20 then .int n2 else if i = 30 then .int n3 else if i = 40 then .int n4 else if i = 50 then .int len5 else if i = 51 then .int cap5 else if i = 52 then D.ofInts zs5 else if i = 60 then .int n6 else if i = 70 then .int n7 else .int 0, F⟩
theorem om_0 (n0 : Int) (n1 : Int) (n2 : Int) (n3 : Int) (n4 : Int) (len5 cap5 : Nat) (zs5 : List Int) (n6 : Int) (n7 : Int) : (om n0 n1 n2 n3 n4 len5 cap5 zs5 n6 n7).d 0 = .int n0 := rfl
theorem om_10 (n0 : Int) (n1 : Int) (n2 : Int) (n3 : Int) (n4 : Int) (len5 cap5 : Nat) (zs5 : List Int) (n6 : Int) (n7 : Int) : (om n0 n1 n2 n3 n4 len5 cap5 zs5 n6 n7).d 10 = .int n1 := rfl
theorem om_20 (n0 : Int) (n1 : Int) (n2 : Int) (n3 : Int) (n4 : Int) (len5 cap5 : Nat) (zs5 : List Int) (n6 : Int) (n7 : Int) : (om n0 n1 n2 n3 n4 len5 cap5 zs5 n6 n7).d 20 = .int n2 := rfl
theorem om_30 (n0 : Int) (n1 : Int) (n2 : Int) (n3 : Int) (n4 : Int) (len5 cap5 : Nat) (zs5 : List Int) (n6 : Int) (n7 : Int) : (om n0 n1 n2 n3 n4 len5 cap5 zs5 n6 n7).d 30 = .int n3 := rfl
theorem om_40 (n0 : Int) (n1 : Int) (n2 : Int) (n3 : Int) (n4 : Int) (len5 cap5 : Nat) (zs5 : List Int) (n6 : Int) (n7 : Int) : (om n0 n1 n2 n3 n4 len5 cap5 zs5 n6 n7).d 40 = .int n4 := rfl
theorem om_50 (n0 : Int) (n1 : Int) (n2 : Int) (n3 : Int) (n4 : Int) (len5 cap5 : Nat) (zs5 : List Int) (n6 : Int) (n7 : Int) : (om n0 n1 n2 n3 n4 len5 cap5 zs5 n6 n7).d 50 = .int len5 := rfl
theorem om_51 (n0 : Int) (n1 : Int) (n2 : Int) (n3 : Int) (n4 : Int) (len5 cap5 : Nat) (zs5 : List Int) (n6 : Int) (n7 : Int) : (om n0 n1 n2 n3 n4 len5 cap5 zs5 n6 n7).d 51 = .int cap5 := rfl
theorem om_52 (n0 : Int) (n1 : Int) (n2 : Int) (n3 : Int) (n4 : Int) (len5 cap5 : Nat) (zs5 : List Int) (n6 : Int) (n7 : Int) : (om n0 n1 n2 n3 n4 len5 cap5 zs5 n6 n7).d 52 = D.ofInts zs5 := rfl
theorem om_60 (n0 : Int) (n1 : Int) (n2 : Int) (n3 : Int) (n4 : Int) (len5 cap5 : Nat) (zs5 : List Int) (n6 : Int) (n7 : Int) : (om n0 n1 n2 n3 n4 len5 cap5 zs5 n6 n7).d 60 = .int n6 := rfl
theorem om_70 (n0 : Int) (n1 : Int) (n2 : Int) (n3 : Int) (n4 : Int) (len5 cap5 : Nat) (zs5 : List Int) (n6 : Int) (n7 : Int) : (om n0 n1 n2 n3 n4 len5 cap5 zs5 n6 n7).d 70 = .int n7 := rfl
theorem om_f (n0 : Int) (n1 : Int) (n2 : Int) (n3 : Int) (n4 : Int) (len5 cap5 : Nat) (zs5 : List Int) (n6 : Int) (n7 : Int) : (om n0 n1 n2 n3 n4 len5 cap5 zs5 n6 n7).f = F := rfl

abbrev as0 : Q × Bool := ((.eq (.var 70) (.int 0)), true)
def c_emp_t0 : List (Q × Bool) := [as0]
set_option maxRecDepth 100000 in
theorem c_emp_y0 : yesOf Tryd.prog (knownV (tellA c_emp_t0) tabU specsU oversU) 8000 80 7 [.agg [.sint .i64 (.var 0), .sint .i64 (.var 10), .sint .i64 (.var 20), .sint .i64 (.var 30), .sint .i64 (.var 40), .empty], .sint .i64 (.var 60), .sint .u32 (.var 70)] (globSt g0) = true := by kernel_rfl
abbrev as1 : Q × Bool := ((.eq (.var 70) (.int 0)), false)
abbrev as2 : Q × Bool := ((.eq (.fn 11 (.bi .pair (.var 0) (.bi .pair (.var 10) (.bi .pair (.var 20) (.bi .pair (.var 30) (.bi .pair (.var 40) (.bi .pair (.int 0) (.int 0)))))))) (.int 0)), false)
def c_emp_t1 : List (Q × Bool) := [as1, as2]
set_option maxRecDepth 100000 in
theorem c_emp_y1 : yesOf Tryd.prog (knownV (tellA c_emp_t1) tabU specsU oversU) 8000 80 7 [.agg [.sint .i64 (.var 0), .sint .i64 (.var 10), .sint .i64 (.var 20), .sint .i64 (.var 30), .sint .i64 (.var 40), .empty], .sint .i64 (.var 60), .sint .u32 (.var 70)] (globSt g0) = true := by kernel_rfl
abbrev as3 : Q × Bool := ((.eq (.fn 11 (.bi .pair (.var 0) (.bi .pair (.var 10) (.bi .pair (.var 20) (.bi .pair (.var 30) (.bi .pair (.var 40) (.bi .pair (.int 0) (.int 0)))))))) (.int 0)), true)
abbrev as4 : Q × Bool := ((.le (.int 0) (.fn 7 (.bi .pair (.var 60) (.bi .pair (.int 177) (.int 0))))), true)
abbrev as5 : Q × Bool := ((.le (.bi .add (.fn 7 (.bi .pair (.var 60) (.bi .pair (.int 177) (.int 0)))) (.int 32)) (.bi .mul (.int 8) (.int 26))), true)
abbrev as6 : Q × Bool := ((.le (.bi .add (.int 0) (.int 26)) (.int 26)), true)
abbrev as7 : Q × Bool := ((.eq (.fn 16 (.bi .pair (.fn 10 (.bi .pair (.fn 12 (.bi .pair (.var 0) (.bi .pair (.var 10) (.bi .pair (.var 20) (.bi .pair (.var 30) (.bi .pair (.var 40) (.bi .pair (.lits []) (.bi .pair (.int 0) (.bi .pair (.int 0) (.int 0)))))))))) (.bi .pair (.fn 7 (.bi .pair (.var 60) (.bi .pair (.int 177) (.int 0)))) (.bi .pair (.var 70) (.bi .pair (.int 0) (.int 0)))))) (.bi .pair (.int 0) (.bi .pair (.bi .add (.int 0) (.int 26)) (.int 0))))) (.int 0)), false)
abbrev as8 : Q × Bool := ((.eq (.fn 16 (.bi .pair (.fn 10 (.bi .pair (.fn 12 (.bi .pair (.var 0) (.bi .pair (.var 10) (.bi .pair (.var 20) (.bi .pair (.var 30) (.bi .pair (.var 40) (.bi .pair (.lits []) (.bi .pair (.int 0) (.bi .pair (.int 0) (.int 0)))))))))) (.bi .pair (.fn 7 (.bi .pair (.var 60) (.bi .pair (.int 177) (.int 0)))) (.bi .pair (.var 70) (.bi .pair (.int 0) (.int 0)))))) (.bi .pair (.int 0) (.bi .pair (.bi .add (.int 0) (.int 26)) (.int 0))))) (.int 210)), true)
def c_emp_t2 : List (Q × Bool) := [as1, as3, as4, as5, as6, as7, as8]
set_option maxRecDepth 100000 in
theorem c_emp_y2 : yesOf Tryd.prog (knownV (tellA c_emp_t2) tabU specsU oversU) 8000 80 7 [.agg [.sint .i64 (.var 0), .sint .i64 (.var 10), .sint .i64 (.var 20), .sint .i64 (.var 30), .sint .i64 (.var 40), .empty], .sint .i64 (.var 60), .sint .u32 (.var 70)] (globSt g0) = true := by kernel_rfl
set_option maxRecDepth 100000 in
set_option maxHeartbeats 6000000 in
theorem c_emp_walk {W : World} {n0 : Int} (hn0 : inK .i64 n0) {n1 : Int} (hn1 : inK .i64 n1) {n2 : Int} (hn2 : inK .i64 n2) {n3 : Int} (hn3 : inK .i64 n3) {n4 : Int} (hn4 : inK .i64 n4) {v5 : Value} (hv5 : ∀ e : Env, VR e .empty v5) {n6 : Int} (hn6 : inK .i64 n6) {n7 : Int} (hn7 : inK .u32 n7) (hG : GlobsR (om n0 n1 n2 n3 n4 0 0 [] n6 n7) W g0) : Calls Tryd.prog 7 #[.agg #[.int .i64 n0, .int .i64 n1, .int .i64 n2, .int .i64 n3, .int .i64 n4, v5], .int .i64 n6, .int .u32 n7] W fun e w' => e = .returned (.bool true) ∧ Below W.heap.size W w' := by
  have r0 := Rel.globs (om n0 n1 n2 n3 n4 0 0 [] n6 n7) W g0 hG
  have hargs : VRs (Env.none (om n0 n1 n2 n3 n4 0 0 [] n6 n7)) [.agg [.sint .i64 (.var 0), .sint .i64 (.var 10), .sint .i64 (.var 20), .sint .i64 (.var 30), .sint .i64 (.var 40), .empty], .sint .i64 (.var 60), .sint .u32 (.var 70)] [.agg #[.int .i64 n0, .int .i64 n1, .int .i64 n2, .int .i64 n3, .int .i64 n4, v5], .int .i64 n6, .int .u32 n7] := VRs_cons (vr_agg (VRs_cons (vr_sint (i := 0) hn0 (by rw [r0.opq]; rfl)) (VRs_cons (vr_sint (i := 10) hn1 (by rw [r0.opq]; rfl)) (VRs_cons (vr_sint (i := 20) hn2 (by rw [r0.opq]; rfl)) (VRs_cons (vr_sint (i := 30) hn3 (by rw [r0.opq]; rfl)) (VRs_cons (vr_sint (i := 40) hn4 (by rw [r0.opq]; rfl)) (VRs_cons (hv5 _) (VRs_nil)))))))) (VRs_cons (vr_sint (i := 60) hn6 (by rw [r0.opq]; rfl)) (VRs_cons (vr_sint (i := 70) hn7 (by rw [r0.opq]; rfl)) (VRs_nil)))
  simp only [inK, i64min, i64max, u8min, u8max, u32min, u32max, u64min, u64max] at hn0
  simp only [inK, i64min, i64max, u8min, u8max, u32min, u32max, u64min, u64max] at hn1
  simp only [inK, i64min, i64max, u8min, u8max, u32min, u32max, u64min, u64max] at hn2
  simp only [inK, i64min, i64max, u8min, u8max, u32min, u32max, u64min, u64max] at hn3
  simp only [inK, i64min, i64max, u8min, u8max, u32min, u32max, u64min, u64max] at hn4
  simp only [inK, i64min, i64max, u8min, u8max, u32min, u32max, u64min, u64max] at hn6
  simp only [inK, i64min, i64max, u8min, u8max, u32min, u32max, u64min, u64max] at hn7
  by_cases h2 : n7 = 0
  · refine calls_of_yesV sound tabU_ok specsU_ok oversU_ok c_emp_y0 rfl (tellA_ok (allTold'_iff.1 ?_)) r0 hargs
    simp only [c_emp_t0, om_0, om_10, om_20, om_30, om_40, om_50, om_51, om_52, om_60, om_70, om_f, allTold', dutiesTold, factsA, factsC, factsP, factsR, AV.facts, RW.facts, inK, and_true, Q.holds', E.i, E.s, E.n, D.nat, E.den, BO.den, UO.den, TO.den, D.toInt_int, D.toList_list, D.ints_ofInts, i64min, i64max, u8min, u8max, u16min, u16max, u32min, u32max, u64min, u64max, i32min, i32max, Om.sub, selI, ints_app, ints_cut, ints_upd, ints_rep, ints_splice, ints_seg, len_ints]
    omega
  · by_cases g : errI n0 n1 n2 n3 n4 0 = 0
    · have hf := emod_in (x := n6) (n := 177) (by omega)
      have hr := turned_read (t := n0) (s := n1) (b := n2) (q := n3) (a := n4) (B := []) (f := n6 % 177) (m := n7) (n := 26) (fun c hc => by cases hc) rfl (by simp) (by omega) (by omega) hn7 h2
      refine calls_of_yesV sound tabU_ok specsU_ok oversU_ok c_emp_y2 rfl (tellA_ok (allTold'_iff.1 ?_)) r0 hargs
      simp only [c_emp_t2, om_0, om_10, om_20, om_30, om_40, om_50, om_51, om_52, om_60, om_70, om_f, F7, F10, F11, F12, F16, allTold', dutiesTold, factsA, factsC, factsP, factsR, AV.facts, RW.facts, inK, and_true, Q.holds', E.i, E.s, E.n, D.nat, E.den, BO.den, UO.den, TO.den, D.toInt_int, D.toList_list, D.ints_ofInts, i64min, i64max, u8min, u8max, u16min, u16max, u32min, u32max, u64min, u64max, i32min, i32max, Om.sub, selI, ints_app, ints_cut, ints_upd, ints_rep, ints_splice, ints_seg, len_ints]
      rw [prt_e, hr]
      and_intros <;> omega
    · refine calls_of_yesV sound tabU_ok specsU_ok oversU_ok c_emp_y1 rfl (tellA_ok (allTold'_iff.1 ?_)) r0 hargs
      simp only [c_emp_t1, om_0, om_10, om_20, om_30, om_40, om_50, om_51, om_52, om_60, om_70, om_f, F11, allTold', dutiesTold, factsA, factsC, factsP, factsR, AV.facts, RW.facts, inK, and_true, Q.holds', E.i, E.s, E.n, D.nat, E.den, BO.den, UO.den, TO.den, D.toInt_int, D.toList_list, D.ints_ofInts, i64min, i64max, u8min, u8max, u16min, u16max, u32min, u32max, u64min, u64max, i32min, i32max, Om.sub, selI, ints_app, ints_cut, ints_upd, ints_rep, ints_splice, ints_seg, len_ints]
      and_intros <;> first | omega | skip

abbrev as9 : Q × Bool := ((.fit .i64 (.var 50)), true)
abbrev as10 : Q × Bool := ((.le (.var 50) (.int 300)), false)
def c_in_t0 : List (Q × Bool) := [as9, as10]
set_option maxRecDepth 100000 in
theorem c_in_y0 : yesOf Tryd.prog (knownV (tellA c_in_t0) tabU specsU oversU) 8000 80 7 [.agg [.sint .i64 (.var 0), .sint .i64 (.var 10), .sint .i64 (.var 20), .sint .i64 (.var 30), .sint .i64 (.var 40), .sslice 1 (.int 0) (.var 50) (.var 51) false], .sint .i64 (.var 60), .sint .u32 (.var 70)] ((globSt g0).newO (.eseq ⟨.u8, .var 50, .var 52⟩)) = true := by kernel_rfl
abbrev as11 : Q × Bool := ((.le (.var 50) (.int 300)), true)
def c_in_t1 : List (Q × Bool) := [as9, as11, as0]
set_option maxRecDepth 100000 in
theorem c_in_y1 : yesOf Tryd.prog (knownV (tellA c_in_t1) tabU specsU oversU) 8000 80 7 [.agg [.sint .i64 (.var 0), .sint .i64 (.var 10), .sint .i64 (.var 20), .sint .i64 (.var 30), .sint .i64 (.var 40), .sslice 1 (.int 0) (.var 50) (.var 51) false], .sint .i64 (.var 60), .sint .u32 (.var 70)] ((globSt g0).newO (.eseq ⟨.u8, .var 50, .var 52⟩)) = true := by kernel_rfl
abbrev as12 : Q × Bool := ((.le (.bi .add (.int 0) (.var 50)) (.var 50)), true)
abbrev as13 : Q × Bool := ((.le (.var 50) (.int 900000)), true)
abbrev as14 : Q × Bool := ((.le (.int 0) (.var 50)), true)
abbrev as15 : Q × Bool := ((.eq (.fn 11 (.bi .pair (.var 0) (.bi .pair (.var 10) (.bi .pair (.var 20) (.bi .pair (.var 30) (.bi .pair (.var 40) (.bi .pair (.var 50) (.int 0)))))))) (.int 0)), false)
def c_in_t2 : List (Q × Bool) := [as9, as11, as1, as12, as13, as14, as15]
set_option maxRecDepth 100000 in
theorem c_in_y2 : yesOf Tryd.prog (knownV (tellA c_in_t2) tabU specsU oversU) 8000 80 7 [.agg [.sint .i64 (.var 0), .sint .i64 (.var 10), .sint .i64 (.var 20), .sint .i64 (.var 30), .sint .i64 (.var 40), .sslice 1 (.int 0) (.var 50) (.var 51) false], .sint .i64 (.var 60), .sint .u32 (.var 70)] ((globSt g0).newO (.eseq ⟨.u8, .var 50, .var 52⟩)) = true := by kernel_rfl
abbrev as16 : Q × Bool := ((.eq (.fn 11 (.bi .pair (.var 0) (.bi .pair (.var 10) (.bi .pair (.var 20) (.bi .pair (.var 30) (.bi .pair (.var 40) (.bi .pair (.var 50) (.int 0)))))))) (.int 0)), true)
abbrev as17 : Q × Bool := ((.fit .i64 (.bi .add (.var 50) (.int 26))), true)
abbrev as18 : Q × Bool := ((.le (.int 26) (.bi .add (.var 50) (.int 26))), true)
abbrev as19 : Q × Bool := ((.fit .i64 (.bi .mul (.bi .add (.var 50) (.int 26)) (.int 8))), true)
abbrev as20 : Q × Bool := ((.fit .i64 (.bi .add (.bi .mul (.bi .add (.var 50) (.int 26)) (.int 8)) (.int (-31)))), true)
abbrev as21 : Q × Bool := ((.le (.int 1) (.bi .add (.bi .mul (.bi .add (.var 50) (.int 26)) (.int 8)) (.int (-31)))), true)
abbrev as22 : Q × Bool := ((.le (.int 0) (.fn 7 (.bi .pair (.var 60) (.bi .pair (.bi .add (.bi .mul (.bi .add (.var 50) (.int 26)) (.int 8)) (.int (-31))) (.int 0))))), true)
abbrev as23 : Q × Bool := ((.le (.bi .add (.fn 7 (.bi .pair (.var 60) (.bi .pair (.bi .add (.bi .mul (.bi .add (.var 50) (.int 26)) (.int 8)) (.int (-31))) (.int 0)))) (.int 32)) (.bi .mul (.int 8) (.bi .add (.var 50) (.int 26)))), true)
abbrev as24 : Q × Bool := ((.le (.bi .add (.var 50) (.int 26)) (.int 1000000)), true)
abbrev as25 : Q × Bool := ((.le (.bi .add (.int 0) (.bi .add (.var 50) (.int 26))) (.bi .add (.var 50) (.int 26))), true)
abbrev as26 : Q × Bool := ((.eq (.fn 16 (.bi .pair (.fn 10 (.bi .pair (.fn 12 (.bi .pair (.var 0) (.bi .pair (.var 10) (.bi .pair (.var 20) (.bi .pair (.var 30) (.bi .pair (.var 40) (.bi .pair (.var 52) (.bi .pair (.int 0) (.bi .pair (.var 50) (.int 0)))))))))) (.bi .pair (.fn 7 (.bi .pair (.var 60) (.bi .pair (.bi .add (.bi .mul (.bi .add (.var 50) (.int 26)) (.int 8)) (.int (-31))) (.int 0)))) (.bi .pair (.var 70) (.bi .pair (.int 0) (.int 0)))))) (.bi .pair (.int 0) (.bi .pair (.bi .add (.int 0) (.bi .add (.var 50) (.int 26))) (.int 0))))) (.int 0)), false)
abbrev as27 : Q × Bool := ((.eq (.fn 16 (.bi .pair (.fn 10 (.bi .pair (.fn 12 (.bi .pair (.var 0) (.bi .pair (.var 10) (.bi .pair (.var 20) (.bi .pair (.var 30) (.bi .pair (.var 40) (.bi .pair (.var 52) (.bi .pair (.int 0) (.bi .pair (.var 50) (.int 0)))))))))) (.bi .pair (.fn 7 (.bi .pair (.var 60) (.bi .pair (.bi .add (.bi .mul (.bi .add (.var 50) (.int 26)) (.int 8)) (.int (-31))) (.int 0)))) (.bi .pair (.var 70) (.bi .pair (.int 0) (.int 0)))))) (.bi .pair (.int 0) (.bi .pair (.bi .add (.int 0) (.bi .add (.var 50) (.int 26))) (.int 0))))) (.int 210)), true)
def c_in_t3 : List (Q × Bool) := [as9, as11, as1, as12, as13, as14, as16, as17, as18, as19, as20, as21, as22, as23, as24, as25, as26, as27]
set_option maxRecDepth 100000 in
theorem c_in_y3 : yesOf Tryd.prog (knownV (tellA c_in_t3) tabU specsU oversU) 8000 80 7 [.agg [.sint .i64 (.var 0), .sint .i64 (.var 10), .sint .i64 (.var 20), .sint .i64 (.var 30), .sint .i64 (.var 40), .sslice 1 (.int 0) (.var 50) (.var 51) false], .sint .i64 (.var 60), .sint .u32 (.var 70)] ((globSt g0).newO (.eseq ⟨.u8, .var 50, .var 52⟩)) = true := by kernel_rfl
set_option maxRecDepth 100000 in
set_option maxHeartbeats 6000000 in
theorem c_in_walk {W : World} {n0 : Int} (hn0 : inK .i64 n0) {n1 : Int} (hn1 : inK .i64 n1) {n2 : Int} (hn2 : inK .i64 n2) {n3 : Int} (hn3 : inK .i64 n3) {n4 : Int} (hn4 : inK .i64 n4) {v5 : Value} {b5 off5 len5 cap5 : Nat} {zs5 : List Int} (h5 : InSlice W .u8 v5 b5 off5 len5 cap5 zs5) {n6 : Int} (hn6 : inK .i64 n6) {n7 : Int} (hn7 : inK .u32 n7) (hG : GlobsR (om n0 n1 n2 n3 n4 len5 cap5 zs5 n6 n7) W g0) : Calls Tryd.prog 7 #[.agg #[.int .i64 n0, .int .i64 n1, .int .i64 n2, .int .i64 n3, .int .i64 n4, v5], .int .i64 n6, .int .u32 n7] W fun e w' => e = .returned (.bool true) ∧ Below W.heap.size W w' := by
  have r0 := Rel.globs (om n0 n1 n2 n3 n4 len5 cap5 zs5 n6 n7) W g0 hG
  obtain ⟨le5, r1, x5⟩ := h5.open r0 (l := 50) (c := 51) (x := 52) rfl rfl rfl
  have pos5 := h5.pos
  have lec5 := h5.le
  have max5 := h5.max
  have zl5 := h5.len
  have rng5 := h5.rng
  have hargs : VRs _ [.agg [.sint .i64 (.var 0), .sint .i64 (.var 10), .sint .i64 (.var 20), .sint .i64 (.var 30), .sint .i64 (.var 40), .sslice 1 (.int 0) (.var 50) (.var 51) false], .sint .i64 (.var 60), .sint .u32 (.var 70)] [.agg #[.int .i64 n0, .int .i64 n1, .int .i64 n2, .int .i64 n3, .int .i64 n4, v5], .int .i64 n6, .int .u32 n7] := VRs_cons (vr_agg (VRs_cons (vr_sint (i := 0) hn0 (by rw [r1.opq]; rfl)) (VRs_cons (vr_sint (i := 10) hn1 (by rw [r1.opq]; rfl)) (VRs_cons (vr_sint (i := 20) hn2 (by rw [r1.opq]; rfl)) (VRs_cons (vr_sint (i := 30) hn3 (by rw [r1.opq]; rfl)) (VRs_cons (vr_sint (i := 40) hn4 (by rw [r1.opq]; rfl)) (VRs_cons (x5) (VRs_nil)))))))) (VRs_cons (vr_sint (i := 60) hn6 (by rw [r1.opq]; rfl)) (VRs_cons (vr_sint (i := 70) hn7 (by rw [r1.opq]; rfl)) (VRs_nil)))
  simp only [inK, i64min, i64max, u8min, u8max, u32min, u32max, u64min, u64max] at hn0
  simp only [inK, i64min, i64max, u8min, u8max, u32min, u32max, u64min, u64max] at hn1
  simp only [inK, i64min, i64max, u8min, u8max, u32min, u32max, u64min, u64max] at hn2
  simp only [inK, i64min, i64max, u8min, u8max, u32min, u32max, u64min, u64max] at hn3
  simp only [inK, i64min, i64max, u8min, u8max, u32min, u32max, u64min, u64max] at hn4
  simp only [inK, i64min, i64max, u8min, u8max, u32min, u32max, u64min, u64max] at hn6
  simp only [inK, i64min, i64max, u8min, u8max, u32min, u32max, u64min, u64max] at hn7
  by_cases h : 300 < len5
  · refine calls_of_yesV sound tabU_ok specsU_ok oversU_ok c_in_y0 rfl (tellA_ok (allTold'_iff.1 ?_)) r1 hargs
    simp only [c_in_t0, om_0, om_10, om_20, om_30, om_40, om_50, om_51, om_52, om_60, om_70, om_f, allTold', dutiesTold, factsA, factsC, factsP, factsR, AV.facts, RW.facts, inK, and_true, Q.holds', E.i, E.s, E.n, D.nat, E.den, BO.den, UO.den, TO.den, D.toInt_int, D.toList_list, D.ints_ofInts, i64min, i64max, u8min, u8max, u16min, u16max, u32min, u32max, u64min, u64max, i32min, i32max, Om.sub, selI, ints_app, ints_cut, ints_upd, ints_rep, ints_splice, ints_seg, len_ints]
    omega
  · by_cases h2 : n7 = 0
    · refine calls_of_yesV sound tabU_ok specsU_ok oversU_ok c_in_y1 rfl (tellA_ok (allTold'_iff.1 ?_)) r1 hargs
      simp only [c_in_t1, om_0, om_10, om_20, om_30, om_40, om_50, om_51, om_52, om_60, om_70, om_f, allTold', dutiesTold, factsA, factsC, factsP, factsR, AV.facts, RW.facts, inK, and_true, Q.holds', E.i, E.s, E.n, D.nat, E.den, BO.den, UO.den, TO.den, D.toInt_int, D.toList_list, D.ints_ofInts, i64min, i64max, u8min, u8max, u16min, u16max, u32min, u32max, u64min, u64max, i32min, i32max, Om.sub, selI, ints_app, ints_cut, ints_upd, ints_rep, ints_splice, ints_seg, len_ints]
      omega
    · by_cases g : errI n0 n1 n2 n3 n4 len5 = 0
      · have hf := emod_in (x := n6) (n := ((len5 : Int) + 26) * 8 + -31) (by omega)
        have h3 : prt zs5 0 (0 + (len5 : Int)) = zs5 := prt_all (by omega)
        have hr := turned_read (t := n0) (s := n1) (b := n2) (q := n3) (a := n4) (B := zs5) (f := n6 % (((len5 : Int) + 26) * 8 + -31)) (m := n7) (n := (len5 : Int) + 26) rng5 (by omega) (by omega) (by omega) (by omega) hn7 h2
        refine calls_of_yesV sound tabU_ok specsU_ok oversU_ok c_in_y3 rfl (tellA_ok (allTold'_iff.1 ?_)) r1 hargs
        simp only [c_in_t3, om_0, om_10, om_20, om_30, om_40, om_50, om_51, om_52, om_60, om_70, om_f, F7, F10, F11, F12, F16, allTold', dutiesTold, factsA, factsC, factsP, factsR, AV.facts, RW.facts, inK, and_true, Q.holds', E.i, E.s, E.n, D.nat, E.den, BO.den, UO.den, TO.den, D.toInt_int, D.toList_list, D.ints_ofInts, i64min, i64max, u8min, u8max, u16min, u16max, u32min, u32max, u64min, u64max, i32min, i32max, Om.sub, selI, ints_app, ints_cut, ints_upd, ints_rep, ints_splice, ints_seg, len_ints]
        rw [h3, hr]
        and_intros <;> omega
      · refine calls_of_yesV sound tabU_ok specsU_ok oversU_ok c_in_y2 rfl (tellA_ok (allTold'_iff.1 ?_)) r1 hargs
        simp only [c_in_t2, om_0, om_10, om_20, om_30, om_40, om_50, om_51, om_52, om_60, om_70, om_f, F11, allTold', dutiesTold, factsA, factsC, factsP, factsR, AV.facts, RW.facts, inK, and_true, Q.holds', E.i, E.s, E.n, D.nat, E.den, BO.den, UO.den, TO.den, D.toInt_int, D.toList_list, D.ints_ofInts, i64min, i64max, u8min, u8max, u16min, u16max, u32min, u32max, u64min, u64max, i32min, i32max, Om.sub, selI, ints_app, ints_cut, ints_upd, ints_rep, ints_splice, ints_seg, len_ints]
        and_intros <;> first | omega | skip

theorem underS22 : Tryd.prog.underlying 22 = some (.slice 5) := by kernel_rfl
theorem underE5 : Tryd.prog.underlying 5 = some (.int .u8) := by kernel_rfl
theorem cellsE5 : Tryd.prog.cellsOf 5 = 1 := by kernel_rfl
theorem underI3 : Tryd.prog.underlying 3 = some (.int .i64) := by kernel_rfl
theorem underI43 : Tryd.prog.underlying 43 = some (.int .u32) := by kernel_rfl
theorem len6 {l : List Value} (h : l.length = 6) : ∃ c0 c1 c2 c3 c4 c5, l = [c0, c1, c2, c3, c4, c5] := by
  match l, h with
  | [c0, c1, c2, c3, c4, c5], _ => exact ⟨_, _, _, _, _, _, rfl⟩

set_option maxRecDepth 100000 in
theorem lifted (os : Os) (started : os.Started) (H : Type) (enc : TypeId × Value → H) :
    ReturnsInHanded {} Tryd.checked os 7 .any (fun w args => (Rows.frameTurnedSpec.pre enc Tryd.prog Tryd.f7 [] false w args ∧ laidMetH Tryd.prog laidL w) ∧ sizedMet enc Tryd.prog Tryd.f7 (OpenSpec.ofChange Rows.frameTurnedSpec) false w args)
      (Rows.frameTurnedSpec.post enc Tryd.prog Tryd.f7 false true false false) := by
  refine returnsInHanded_of_change_and (C := Tryd.checked) (X := fun w _ => laidMetH Tryd.prog laidL w) (fun _ _ _ hh h => h.of_heap hh) own started (by kernel_rfl) Tryd.func7
    (ChangeSpec.witness_shaped (enc := enc) (C := Tryd.checked) (os := os) (X := fun w _ => laidMetH Tryd.prog laidL w) false (World.doorLaid Tryd.prog 400 os) #[.agg #[.int .i64 0, .int .i64 0, .int .i64 0, .int .i64 0, .int .i64 0, .slice none 0 0], .int .i64 0, .int .u32 0] 8 rfl (World.shaped_of_RefB (by kernel_rfl) (by kernel_rfl)) (by kernel_rfl) (by kernel_rfl) (by kernel_rfl) (door_met os _)) ?_
  intro W base args ds gs before hval0 hW _ _ hL _
  have hval : ∀ (j : Nat) t v, Tryd.f7.params[j]? = some t → args[j]? = some v → Value.okWide Tryd.prog W .any base t v := hval0
  have hW' := hW
  have hlt := hW.lt
  obtain ⟨p, q, hA0, hV, rfl, hfz, hnd⟩ := hW
  have hA : DataW.TrodAll enc Tryd.prog W 0 (fun _ => true) true Tryd.f7.params.toList args.toList ds p := hA0
  have hAll := hA
  rw [Tryd.params7] at hA hval hAll
  obtain ⟨rfl, rfl⟩ := trodVars_none hV
  obtain ⟨pv0, pv1, pv2, d0, d1, d2, p0, p1, p2, rfl, rfl, rfl, h0, h1, h2⟩ := trodAll_three hA
  obtain ⟨cs0, rfl, hl0, ht0⟩ := in_struct (L := [(3, 0, 1), (3, 1, 1), (3, 2, 1), (3, 3, 1), (3, 4, 1), (22, 5, 1)]) (n := 6) (by kernel_rfl) (by kernel_rfl) (hval 0 24 _ rfl rfl) h0
  obtain ⟨x0_0, x0_1, x0_2, x0_3, x0_4, x0_5, rfl⟩ := len6 hl0
  have q_ht0 := trod_pieces (L := [(3, 0, 1), (3, 1, 1), (3, 2, 1), (3, 3, 1), (3, 4, 1), (22, 5, 1)]) (by kernel_rfl) ht0
  obtain ⟨n0, rfl, wn0⟩ := leaf_int underI3 (show ∃ m y, DataW.trod enc Tryd.prog W 0 (fun _ => true) true m 3 [x0_0] = some y from q_ht0 (3, 0, 1) (by simp))
  obtain ⟨n1, rfl, wn1⟩ := leaf_int underI3 (show ∃ m y, DataW.trod enc Tryd.prog W 0 (fun _ => true) true m 3 [x0_1] = some y from q_ht0 (3, 1, 1) (by simp))
  obtain ⟨n2, rfl, wn2⟩ := leaf_int underI3 (show ∃ m y, DataW.trod enc Tryd.prog W 0 (fun _ => true) true m 3 [x0_2] = some y from q_ht0 (3, 2, 1) (by simp))
  obtain ⟨n3, rfl, wn3⟩ := leaf_int underI3 (show ∃ m y, DataW.trod enc Tryd.prog W 0 (fun _ => true) true m 3 [x0_3] = some y from q_ht0 (3, 3, 1) (by simp))
  obtain ⟨n4, rfl, wn4⟩ := leaf_int underI3 (show ∃ m y, DataW.trod enc Tryd.prog W 0 (fun _ => true) true m 3 [x0_4] = some y from q_ht0 (3, 4, 1) (by simp))
  have s5 := leaf_slice (k := .u8) underS22 underE5 cellsE5 (show ∃ m y, DataW.trod enc Tryd.prog W 0 (fun _ => true) true m 22 [x0_5] = some y from q_ht0 (22, 5, 1) (by simp))
  obtain ⟨n6, rfl, rfl, rfl, wn6⟩ := open_int underI3 (hval 1 3 _ rfl rfl) h1
  have wn6 := wf_inK wn6
  obtain ⟨n7, rfl, rfl, rfl, wn7⟩ := open_int underI43 (hval 2 43 _ rfl rfl) h2
  have wn7 := wf_inK wn7
  clear hA0 hval0
  have hcall : Calls Tryd.prog 7 #[.agg #[.int .i64 n0, .int .i64 n1, .int .i64 n2, .int .i64 n3, .int .i64 n4, x0_5], .int .i64 n6, .int .u32 n7] W fun e w' => e = .returned (.bool true) ∧ Below W.heap.size W w' := by
    rcases s5 with rfl | ⟨a5, c5, rfl⟩ | ⟨_, _, _, _, _, s5⟩
    · exact c_emp_walk wn0 wn1 wn2 wn3 wn4 (fun _ => vr_emptyN) wn6 wn7 (globs0 _ hL)
    · exact c_emp_walk wn0 wn1 wn2 wn3 wn4 (fun _ => vr_emptyH a5 c5) wn6 wn7 (globs0 _ hL)
    · exact c_in_walk wn0 wn1 wn2 wn3 wn4 s5 wn6 wn7 (globs0 _ hL)
  refine hcall.mono fun e W' ⟨he, hg⟩ => ?_
  subst he
  exact ⟨_, rfl, _, [], _, [], _, [], hW', trodAll_cons_mk (shut_bool Tryd.underlying4 _) trodAll_mk0, trodAll_stays laid hg _ _ _ _ hAll (fun x hx => hlt x (by simpa using hx)) (by kernel_rfl), rfl, hg.frame _, fun h => by cases h⟩

theorem over : Rows.frameTurnedRow.holds Tryd.pinned (OpenSpec.ofChange Rows.frameTurnedSpec) :=
  OpenClaim.holds_of_wide 7 Tryd.f7 rfl rfl rfl rfl rfl rfl rfl ⟨rfl, rfl, rfl, rfl, rfl⟩ rfl rfl rfl rfl rfl (by kernel_rfl) Tryd.func7 (by kernel_rfl)
    (of_decide_eq_true (by kernel_rfl)) (by unfold Func.isWrapper; first | (rw [if_pos (by decide +kernel)]; kernel_rfl) | (rw [if_neg (by decide +kernel)]; exact ⟨rfl, rfl⟩))
    (fun os started H enc _ => lifted os started H enc)

/-- The statement: the tied card. -/
theorem proved : Rows.FrameTurnedCardSaid :=
  Claim7.holds_tied_plain_at .later [] [.wider] true (true, "6723d8c1d0b12c6a2afdd924a4dfe7f1a7ea71b0fb2d32eb5ba4caa8938006bd") false
    over (fun _ h => by cases h) (by kernel_rfl) (fun _ h => by cases h) frameTurned_row_tie rfl ⟨rfl, rfl⟩ (by kernel_rfl) rfl
    (fun f fn hf hfn => by
      obtain rfl : f = 7 := Option.some.inj ((show Tryd.prog.funcNamed "satchel/satchellaw11.FrameTurned" = some 7 by kernel_rfl).symm.trans hf) |>.symm
      obtain rfl : fn = Tryd.f7 := (Option.some.inj (Tryd.func7.symm.trans hfn)).symm
      exact ⟨by kernel_rfl, fun j t ht => by
        rw [Tryd.params7] at ht
        have hm : t ∈ ([24, 3, 43] : List TypeId) := by simpa using Array.mem_of_getElem? ht
        have hall : (([24, 3, 43] : List TypeId).all fun u => !Tryd.prog.wantsStandIn u) = true := by kernel_rfl
        exact (show Tryd.prog.wantsStandIn t = false by simpa using List.all_eq_true.1 hall t hm)⟩)
    (by kernel_rfl)
#print axioms proved
end Go.Proofs.YtlmcjfcfmcdcpaaDoor.frameTurned
