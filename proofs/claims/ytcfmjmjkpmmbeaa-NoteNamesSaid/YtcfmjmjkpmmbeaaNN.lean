/-
  The law NoteNames of the layer note holds of the code: for all inputs the call returns true, and the arguments read as they did. No condition.
-/
import Derived.Test.YtcfmjmjkpmmbeaaCo
import Derived.Test.YtcfmjmjkpmmbeaaSycp
import Derived.Test.YtcfmjmjkpmmbeaaNa
import Derived.WalkKit
import Derived.ProofKit
import Derived.OpenShut
set_option linter.unusedSimpArgs false
set_option linter.unusedVariables false
namespace Go.Proofs.Ytcfmjmjkpmmbeaa.noteNames
open Go.ChangeShapes Go.WideShapes Go.ChangeAt Go.RowKit Go.Ev Go.Proofs.Ytcfmjmjkpmmbeaa.Co Go.Proofs.Ytcfmjmjkpmmbeaa.Na

def om (n0 : Int) : Om := ⟨fun _ => .bool false, fun i => if i = 0 then .int n0 else .int 0, F⟩
theorem om_0 (n0 : Int) : (om n0).d 0 = .int n0 := rfl
theorem om_f (n0 : Int) : (om n0).f = F := rfl

def c_k0_t0 : List (Q × Bool) := []
set_option maxRecDepth 100000 in
theorem c_k0_y0 : yesOf Try.prog (knownV (tellA c_k0_t0) tab specs overs) 6000 60 9 [.int .i64 (0)] (globSt g0) = true := by kernel_rfl
set_option maxRecDepth 100000 in
set_option maxHeartbeats 6000000 in
theorem c_k0_walk {W : World}  (hG : GlobsR (om (0)) W g0) : Calls Try.prog 9 #[.int .i64 (0)] W fun e w' => e = .returned (.bool true) ∧ Below W.heap.size W w' := by
  have r0 := Rel.globs (om (0)) W g0 hG
  have hargs : VRs (Env.none (om (0))) [.int .i64 (0)] [.int .i64 (0)] := VRs_cons (by simp only [VR]) (VRs_nil)
  refine calls_of_yesV sound tab_ok specs_ok overs_ok c_k0_y0 rfl (tellA_ok (allTold'_iff.1 ?_)) r0 hargs
  simp only [c_k0_t0, om_0, om_f, allTold', dutiesTold, factsA, factsC, factsP, factsR, AV.facts, RW.facts, inK, and_true, Q.holds', E.i, E.s, E.n, D.nat, E.den, BO.den, UO.den, TO.den, D.toInt_int, D.toList_list, D.ints_ofInts, i64min, i64max, u8min, u8max, u16min, u16max, u32min, u32max, u64min, u64max, i32min, i32max, Om.sub, selI, ints_app, ints_cut, ints_upd, ints_rep, ints_splice, ints_seg, len_ints]
  first | done | omega | trivial

def c_k1_t0 : List (Q × Bool) := []
set_option maxRecDepth 100000 in
theorem c_k1_y0 : yesOf Try.prog (knownV (tellA c_k1_t0) tab specs overs) 6000 60 9 [.int .i64 (1)] (globSt g0) = true := by kernel_rfl
set_option maxRecDepth 100000 in
set_option maxHeartbeats 6000000 in
theorem c_k1_walk {W : World}  (hG : GlobsR (om (1)) W g0) : Calls Try.prog 9 #[.int .i64 (1)] W fun e w' => e = .returned (.bool true) ∧ Below W.heap.size W w' := by
  have r0 := Rel.globs (om (1)) W g0 hG
  have hargs : VRs (Env.none (om (1))) [.int .i64 (1)] [.int .i64 (1)] := VRs_cons (by simp only [VR]) (VRs_nil)
  refine calls_of_yesV sound tab_ok specs_ok overs_ok c_k1_y0 rfl (tellA_ok (allTold'_iff.1 ?_)) r0 hargs
  simp only [c_k1_t0, om_0, om_f, allTold', dutiesTold, factsA, factsC, factsP, factsR, AV.facts, RW.facts, inK, and_true, Q.holds', E.i, E.s, E.n, D.nat, E.den, BO.den, UO.den, TO.den, D.toInt_int, D.toList_list, D.ints_ofInts, i64min, i64max, u8min, u8max, u16min, u16max, u32min, u32max, u64min, u64max, i32min, i32max, Om.sub, selI, ints_app, ints_cut, ints_upd, ints_rep, ints_splice, ints_seg, len_ints]
  first | done | omega | trivial

def c_k2_t0 : List (Q × Bool) := []
set_option maxRecDepth 100000 in
theorem c_k2_y0 : yesOf Try.prog (knownV (tellA c_k2_t0) tab specs overs) 6000 60 9 [.int .i64 (2)] (globSt g0) = true := by kernel_rfl
set_option maxRecDepth 100000 in
set_option maxHeartbeats 6000000 in
theorem c_k2_walk {W : World}  (hG : GlobsR (om (2)) W g0) : Calls Try.prog 9 #[.int .i64 (2)] W fun e w' => e = .returned (.bool true) ∧ Below W.heap.size W w' := by
  have r0 := Rel.globs (om (2)) W g0 hG
  have hargs : VRs (Env.none (om (2))) [.int .i64 (2)] [.int .i64 (2)] := VRs_cons (by simp only [VR]) (VRs_nil)
  refine calls_of_yesV sound tab_ok specs_ok overs_ok c_k2_y0 rfl (tellA_ok (allTold'_iff.1 ?_)) r0 hargs
  simp only [c_k2_t0, om_0, om_f, allTold', dutiesTold, factsA, factsC, factsP, factsR, AV.facts, RW.facts, inK, and_true, Q.holds', E.i, E.s, E.n, D.nat, E.den, BO.den, UO.den, TO.den, D.toInt_int, D.toList_list, D.ints_ofInts, i64min, i64max, u8min, u8max, u16min, u16max, u32min, u32max, u64min, u64max, i32min, i32max, Om.sub, selI, ints_app, ints_cut, ints_upd, ints_rep, ints_splice, ints_seg, len_ints]
  first | done | omega | trivial

def c_k3_t0 : List (Q × Bool) := []
set_option maxRecDepth 100000 in
theorem c_k3_y0 : yesOf Try.prog (knownV (tellA c_k3_t0) tab specs overs) 6000 60 9 [.int .i64 (3)] (globSt g0) = true := by kernel_rfl
set_option maxRecDepth 100000 in
set_option maxHeartbeats 6000000 in
theorem c_k3_walk {W : World}  (hG : GlobsR (om (3)) W g0) : Calls Try.prog 9 #[.int .i64 (3)] W fun e w' => e = .returned (.bool true) ∧ Below W.heap.size W w' := by
  have r0 := Rel.globs (om (3)) W g0 hG
  have hargs : VRs (Env.none (om (3))) [.int .i64 (3)] [.int .i64 (3)] := VRs_cons (by simp only [VR]) (VRs_nil)
  refine calls_of_yesV sound tab_ok specs_ok overs_ok c_k3_y0 rfl (tellA_ok (allTold'_iff.1 ?_)) r0 hargs
  simp only [c_k3_t0, om_0, om_f, allTold', dutiesTold, factsA, factsC, factsP, factsR, AV.facts, RW.facts, inK, and_true, Q.holds', E.i, E.s, E.n, D.nat, E.den, BO.den, UO.den, TO.den, D.toInt_int, D.toList_list, D.ints_ofInts, i64min, i64max, u8min, u8max, u16min, u16max, u32min, u32max, u64min, u64max, i32min, i32max, Om.sub, selI, ints_app, ints_cut, ints_upd, ints_rep, ints_splice, ints_seg, len_ints]
  first | done | omega | trivial

def c_k4_t0 : List (Q × Bool) := []
set_option maxRecDepth 100000 in
theorem c_k4_y0 : yesOf Try.prog (knownV (tellA c_k4_t0) tab specs overs) 6000 60 9 [.int .i64 (4)] (globSt g0) = true := by kernel_rfl
set_option maxRecDepth 100000 in
set_option maxHeartbeats 6000000 in
theorem c_k4_walk {W : World}  (hG : GlobsR (om (4)) W g0) : Calls Try.prog 9 #[.int .i64 (4)] W fun e w' => e = .returned (.bool true) ∧ Below W.heap.size W w' := by
  have r0 := Rel.globs (om (4)) W g0 hG
  have hargs : VRs (Env.none (om (4))) [.int .i64 (4)] [.int .i64 (4)] := VRs_cons (by simp only [VR]) (VRs_nil)
  refine calls_of_yesV sound tab_ok specs_ok overs_ok c_k4_y0 rfl (tellA_ok (allTold'_iff.1 ?_)) r0 hargs
  simp only [c_k4_t0, om_0, om_f, allTold', dutiesTold, factsA, factsC, factsP, factsR, AV.facts, RW.facts, inK, and_true, Q.holds', E.i, E.s, E.n, D.nat, E.den, BO.den, UO.den, TO.den, D.toInt_int, D.toList_list, D.ints_ofInts, i64min, i64max, u8min, u8max, u16min, u16max, u32min, u32max, u64min, u64max, i32min, i32max, Om.sub, selI, ints_app, ints_cut, ints_upd, ints_rep, ints_splice, ints_seg, len_ints]
  first | done | omega | trivial

def c_k5_t0 : List (Q × Bool) := []
set_option maxRecDepth 100000 in
theorem c_k5_y0 : yesOf Try.prog (knownV (tellA c_k5_t0) tab specs overs) 6000 60 9 [.int .i64 (5)] (globSt g0) = true := by kernel_rfl
set_option maxRecDepth 100000 in
set_option maxHeartbeats 6000000 in
theorem c_k5_walk {W : World}  (hG : GlobsR (om (5)) W g0) : Calls Try.prog 9 #[.int .i64 (5)] W fun e w' => e = .returned (.bool true) ∧ Below W.heap.size W w' := by
  have r0 := Rel.globs (om (5)) W g0 hG
  have hargs : VRs (Env.none (om (5))) [.int .i64 (5)] [.int .i64 (5)] := VRs_cons (by simp only [VR]) (VRs_nil)
  refine calls_of_yesV sound tab_ok specs_ok overs_ok c_k5_y0 rfl (tellA_ok (allTold'_iff.1 ?_)) r0 hargs
  simp only [c_k5_t0, om_0, om_f, allTold', dutiesTold, factsA, factsC, factsP, factsR, AV.facts, RW.facts, inK, and_true, Q.holds', E.i, E.s, E.n, D.nat, E.den, BO.den, UO.den, TO.den, D.toInt_int, D.toList_list, D.ints_ofInts, i64min, i64max, u8min, u8max, u16min, u16max, u32min, u32max, u64min, u64max, i32min, i32max, Om.sub, selI, ints_app, ints_cut, ints_upd, ints_rep, ints_splice, ints_seg, len_ints]
  first | done | omega | trivial

def c_k6_t0 : List (Q × Bool) := []
set_option maxRecDepth 100000 in
theorem c_k6_y0 : yesOf Try.prog (knownV (tellA c_k6_t0) tab specs overs) 6000 60 9 [.int .i64 (6)] (globSt g0) = true := by kernel_rfl
set_option maxRecDepth 100000 in
set_option maxHeartbeats 6000000 in
theorem c_k6_walk {W : World}  (hG : GlobsR (om (6)) W g0) : Calls Try.prog 9 #[.int .i64 (6)] W fun e w' => e = .returned (.bool true) ∧ Below W.heap.size W w' := by
  have r0 := Rel.globs (om (6)) W g0 hG
  have hargs : VRs (Env.none (om (6))) [.int .i64 (6)] [.int .i64 (6)] := VRs_cons (by simp only [VR]) (VRs_nil)
  refine calls_of_yesV sound tab_ok specs_ok overs_ok c_k6_y0 rfl (tellA_ok (allTold'_iff.1 ?_)) r0 hargs
  simp only [c_k6_t0, om_0, om_f, allTold', dutiesTold, factsA, factsC, factsP, factsR, AV.facts, RW.facts, inK, and_true, Q.holds', E.i, E.s, E.n, D.nat, E.den, BO.den, UO.den, TO.den, D.toInt_int, D.toList_list, D.ints_ofInts, i64min, i64max, u8min, u8max, u16min, u16max, u32min, u32max, u64min, u64max, i32min, i32max, Om.sub, selI, ints_app, ints_cut, ints_upd, ints_rep, ints_splice, ints_seg, len_ints]
  first | done | omega | trivial

def c_k7_t0 : List (Q × Bool) := []
set_option maxRecDepth 100000 in
theorem c_k7_y0 : yesOf Try.prog (knownV (tellA c_k7_t0) tab specs overs) 6000 60 9 [.int .i64 (7)] (globSt g0) = true := by kernel_rfl
set_option maxRecDepth 100000 in
set_option maxHeartbeats 6000000 in
theorem c_k7_walk {W : World}  (hG : GlobsR (om (7)) W g0) : Calls Try.prog 9 #[.int .i64 (7)] W fun e w' => e = .returned (.bool true) ∧ Below W.heap.size W w' := by
  have r0 := Rel.globs (om (7)) W g0 hG
  have hargs : VRs (Env.none (om (7))) [.int .i64 (7)] [.int .i64 (7)] := VRs_cons (by simp only [VR]) (VRs_nil)
  refine calls_of_yesV sound tab_ok specs_ok overs_ok c_k7_y0 rfl (tellA_ok (allTold'_iff.1 ?_)) r0 hargs
  simp only [c_k7_t0, om_0, om_f, allTold', dutiesTold, factsA, factsC, factsP, factsR, AV.facts, RW.facts, inK, and_true, Q.holds', E.i, E.s, E.n, D.nat, E.den, BO.den, UO.den, TO.den, D.toInt_int, D.toList_list, D.ints_ofInts, i64min, i64max, u8min, u8max, u16min, u16max, u32min, u32max, u64min, u64max, i32min, i32max, Om.sub, selI, ints_app, ints_cut, ints_upd, ints_rep, ints_splice, ints_seg, len_ints]
  first | done | omega | trivial

def c_k8_t0 : List (Q × Bool) := []
set_option maxRecDepth 100000 in
theorem c_k8_y0 : yesOf Try.prog (knownV (tellA c_k8_t0) tab specs overs) 6000 60 9 [.int .i64 (8)] (globSt g0) = true := by kernel_rfl
set_option maxRecDepth 100000 in
set_option maxHeartbeats 6000000 in
theorem c_k8_walk {W : World}  (hG : GlobsR (om (8)) W g0) : Calls Try.prog 9 #[.int .i64 (8)] W fun e w' => e = .returned (.bool true) ∧ Below W.heap.size W w' := by
  have r0 := Rel.globs (om (8)) W g0 hG
  have hargs : VRs (Env.none (om (8))) [.int .i64 (8)] [.int .i64 (8)] := VRs_cons (by simp only [VR]) (VRs_nil)
  refine calls_of_yesV sound tab_ok specs_ok overs_ok c_k8_y0 rfl (tellA_ok (allTold'_iff.1 ?_)) r0 hargs
  simp only [c_k8_t0, om_0, om_f, allTold', dutiesTold, factsA, factsC, factsP, factsR, AV.facts, RW.facts, inK, and_true, Q.holds', E.i, E.s, E.n, D.nat, E.den, BO.den, UO.den, TO.den, D.toInt_int, D.toList_list, D.ints_ofInts, i64min, i64max, u8min, u8max, u16min, u16max, u32min, u32max, u64min, u64max, i32min, i32max, Om.sub, selI, ints_app, ints_cut, ints_upd, ints_rep, ints_splice, ints_seg, len_ints]
  first | done | omega | trivial

def c_k9_t0 : List (Q × Bool) := []
set_option maxRecDepth 100000 in
theorem c_k9_y0 : yesOf Try.prog (knownV (tellA c_k9_t0) tab specs overs) 6000 60 9 [.int .i64 (9)] (globSt g0) = true := by kernel_rfl
set_option maxRecDepth 100000 in
set_option maxHeartbeats 6000000 in
theorem c_k9_walk {W : World}  (hG : GlobsR (om (9)) W g0) : Calls Try.prog 9 #[.int .i64 (9)] W fun e w' => e = .returned (.bool true) ∧ Below W.heap.size W w' := by
  have r0 := Rel.globs (om (9)) W g0 hG
  have hargs : VRs (Env.none (om (9))) [.int .i64 (9)] [.int .i64 (9)] := VRs_cons (by simp only [VR]) (VRs_nil)
  refine calls_of_yesV sound tab_ok specs_ok overs_ok c_k9_y0 rfl (tellA_ok (allTold'_iff.1 ?_)) r0 hargs
  simp only [c_k9_t0, om_0, om_f, allTold', dutiesTold, factsA, factsC, factsP, factsR, AV.facts, RW.facts, inK, and_true, Q.holds', E.i, E.s, E.n, D.nat, E.den, BO.den, UO.den, TO.den, D.toInt_int, D.toList_list, D.ints_ofInts, i64min, i64max, u8min, u8max, u16min, u16max, u32min, u32max, u64min, u64max, i32min, i32max, Om.sub, selI, ints_app, ints_cut, ints_upd, ints_rep, ints_splice, ints_seg, len_ints]
  first | done | omega | trivial

def c_k10_t0 : List (Q × Bool) := []
set_option maxRecDepth 100000 in
theorem c_k10_y0 : yesOf Try.prog (knownV (tellA c_k10_t0) tab specs overs) 6000 60 9 [.int .i64 (10)] (globSt g0) = true := by kernel_rfl
set_option maxRecDepth 100000 in
set_option maxHeartbeats 6000000 in
theorem c_k10_walk {W : World}  (hG : GlobsR (om (10)) W g0) : Calls Try.prog 9 #[.int .i64 (10)] W fun e w' => e = .returned (.bool true) ∧ Below W.heap.size W w' := by
  have r0 := Rel.globs (om (10)) W g0 hG
  have hargs : VRs (Env.none (om (10))) [.int .i64 (10)] [.int .i64 (10)] := VRs_cons (by simp only [VR]) (VRs_nil)
  refine calls_of_yesV sound tab_ok specs_ok overs_ok c_k10_y0 rfl (tellA_ok (allTold'_iff.1 ?_)) r0 hargs
  simp only [c_k10_t0, om_0, om_f, allTold', dutiesTold, factsA, factsC, factsP, factsR, AV.facts, RW.facts, inK, and_true, Q.holds', E.i, E.s, E.n, D.nat, E.den, BO.den, UO.den, TO.den, D.toInt_int, D.toList_list, D.ints_ofInts, i64min, i64max, u8min, u8max, u16min, u16max, u32min, u32max, u64min, u64max, i32min, i32max, Om.sub, selI, ints_app, ints_cut, ints_upd, ints_rep, ints_splice, ints_seg, len_ints]
  first | done | omega | trivial

def c_k11_t0 : List (Q × Bool) := []
set_option maxRecDepth 100000 in
theorem c_k11_y0 : yesOf Try.prog (knownV (tellA c_k11_t0) tab specs overs) 6000 60 9 [.int .i64 (11)] (globSt g0) = true := by kernel_rfl
set_option maxRecDepth 100000 in
set_option maxHeartbeats 6000000 in
theorem c_k11_walk {W : World}  (hG : GlobsR (om (11)) W g0) : Calls Try.prog 9 #[.int .i64 (11)] W fun e w' => e = .returned (.bool true) ∧ Below W.heap.size W w' := by
  have r0 := Rel.globs (om (11)) W g0 hG
  have hargs : VRs (Env.none (om (11))) [.int .i64 (11)] [.int .i64 (11)] := VRs_cons (by simp only [VR]) (VRs_nil)
  refine calls_of_yesV sound tab_ok specs_ok overs_ok c_k11_y0 rfl (tellA_ok (allTold'_iff.1 ?_)) r0 hargs
  simp only [c_k11_t0, om_0, om_f, allTold', dutiesTold, factsA, factsC, factsP, factsR, AV.facts, RW.facts, inK, and_true, Q.holds', E.i, E.s, E.n, D.nat, E.den, BO.den, UO.den, TO.den, D.toInt_int, D.toList_list, D.ints_ofInts, i64min, i64max, u8min, u8max, u16min, u16max, u32min, u32max, u64min, u64max, i32min, i32max, Om.sub, selI, ints_app, ints_cut, ints_upd, ints_rep, ints_splice, ints_seg, len_ints]
  first | done | omega | trivial

def c_k12_t0 : List (Q × Bool) := []
set_option maxRecDepth 100000 in
theorem c_k12_y0 : yesOf Try.prog (knownV (tellA c_k12_t0) tab specs overs) 6000 60 9 [.int .i64 (12)] (globSt g0) = true := by kernel_rfl
set_option maxRecDepth 100000 in
set_option maxHeartbeats 6000000 in
theorem c_k12_walk {W : World}  (hG : GlobsR (om (12)) W g0) : Calls Try.prog 9 #[.int .i64 (12)] W fun e w' => e = .returned (.bool true) ∧ Below W.heap.size W w' := by
  have r0 := Rel.globs (om (12)) W g0 hG
  have hargs : VRs (Env.none (om (12))) [.int .i64 (12)] [.int .i64 (12)] := VRs_cons (by simp only [VR]) (VRs_nil)
  refine calls_of_yesV sound tab_ok specs_ok overs_ok c_k12_y0 rfl (tellA_ok (allTold'_iff.1 ?_)) r0 hargs
  simp only [c_k12_t0, om_0, om_f, allTold', dutiesTold, factsA, factsC, factsP, factsR, AV.facts, RW.facts, inK, and_true, Q.holds', E.i, E.s, E.n, D.nat, E.den, BO.den, UO.den, TO.den, D.toInt_int, D.toList_list, D.ints_ofInts, i64min, i64max, u8min, u8max, u16min, u16max, u32min, u32max, u64min, u64max, i32min, i32max, Om.sub, selI, ints_app, ints_cut, ints_upd, ints_rep, ints_splice, ints_seg, len_ints]
  first | done | omega | trivial

def c_k13_t0 : List (Q × Bool) := []
set_option maxRecDepth 100000 in
theorem c_k13_y0 : yesOf Try.prog (knownV (tellA c_k13_t0) tab specs overs) 6000 60 9 [.int .i64 (13)] (globSt g0) = true := by kernel_rfl
set_option maxRecDepth 100000 in
set_option maxHeartbeats 6000000 in
theorem c_k13_walk {W : World}  (hG : GlobsR (om (13)) W g0) : Calls Try.prog 9 #[.int .i64 (13)] W fun e w' => e = .returned (.bool true) ∧ Below W.heap.size W w' := by
  have r0 := Rel.globs (om (13)) W g0 hG
  have hargs : VRs (Env.none (om (13))) [.int .i64 (13)] [.int .i64 (13)] := VRs_cons (by simp only [VR]) (VRs_nil)
  refine calls_of_yesV sound tab_ok specs_ok overs_ok c_k13_y0 rfl (tellA_ok (allTold'_iff.1 ?_)) r0 hargs
  simp only [c_k13_t0, om_0, om_f, allTold', dutiesTold, factsA, factsC, factsP, factsR, AV.facts, RW.facts, inK, and_true, Q.holds', E.i, E.s, E.n, D.nat, E.den, BO.den, UO.den, TO.den, D.toInt_int, D.toList_list, D.ints_ofInts, i64min, i64max, u8min, u8max, u16min, u16max, u32min, u32max, u64min, u64max, i32min, i32max, Om.sub, selI, ints_app, ints_cut, ints_upd, ints_rep, ints_splice, ints_seg, len_ints]
  first | done | omega | trivial

def c_k14_t0 : List (Q × Bool) := []
set_option maxRecDepth 100000 in
theorem c_k14_y0 : yesOf Try.prog (knownV (tellA c_k14_t0) tab specs overs) 6000 60 9 [.int .i64 (14)] (globSt g0) = true := by kernel_rfl
set_option maxRecDepth 100000 in
set_option maxHeartbeats 6000000 in
theorem c_k14_walk {W : World}  (hG : GlobsR (om (14)) W g0) : Calls Try.prog 9 #[.int .i64 (14)] W fun e w' => e = .returned (.bool true) ∧ Below W.heap.size W w' := by
  have r0 := Rel.globs (om (14)) W g0 hG
  have hargs : VRs (Env.none (om (14))) [.int .i64 (14)] [.int .i64 (14)] := VRs_cons (by simp only [VR]) (VRs_nil)
  refine calls_of_yesV sound tab_ok specs_ok overs_ok c_k14_y0 rfl (tellA_ok (allTold'_iff.1 ?_)) r0 hargs
  simp only [c_k14_t0, om_0, om_f, allTold', dutiesTold, factsA, factsC, factsP, factsR, AV.facts, RW.facts, inK, and_true, Q.holds', E.i, E.s, E.n, D.nat, E.den, BO.den, UO.den, TO.den, D.toInt_int, D.toList_list, D.ints_ofInts, i64min, i64max, u8min, u8max, u16min, u16max, u32min, u32max, u64min, u64max, i32min, i32max, Om.sub, selI, ints_app, ints_cut, ints_upd, ints_rep, ints_splice, ints_seg, len_ints]
  first | done | omega | trivial

def c_k15_t0 : List (Q × Bool) := []
set_option maxRecDepth 100000 in
theorem c_k15_y0 : yesOf Try.prog (knownV (tellA c_k15_t0) tab specs overs) 6000 60 9 [.int .i64 (15)] (globSt g0) = true := by kernel_rfl
set_option maxRecDepth 100000 in
set_option maxHeartbeats 6000000 in
theorem c_k15_walk {W : World}  (hG : GlobsR (om (15)) W g0) : Calls Try.prog 9 #[.int .i64 (15)] W fun e w' => e = .returned (.bool true) ∧ Below W.heap.size W w' := by
  have r0 := Rel.globs (om (15)) W g0 hG
  have hargs : VRs (Env.none (om (15))) [.int .i64 (15)] [.int .i64 (15)] := VRs_cons (by simp only [VR]) (VRs_nil)
  refine calls_of_yesV sound tab_ok specs_ok overs_ok c_k15_y0 rfl (tellA_ok (allTold'_iff.1 ?_)) r0 hargs
  simp only [c_k15_t0, om_0, om_f, allTold', dutiesTold, factsA, factsC, factsP, factsR, AV.facts, RW.facts, inK, and_true, Q.holds', E.i, E.s, E.n, D.nat, E.den, BO.den, UO.den, TO.den, D.toInt_int, D.toList_list, D.ints_ofInts, i64min, i64max, u8min, u8max, u16min, u16max, u32min, u32max, u64min, u64max, i32min, i32max, Om.sub, selI, ints_app, ints_cut, ints_upd, ints_rep, ints_splice, ints_seg, len_ints]
  first | done | omega | trivial

def c_k16_t0 : List (Q × Bool) := []
set_option maxRecDepth 100000 in
theorem c_k16_y0 : yesOf Try.prog (knownV (tellA c_k16_t0) tab specs overs) 6000 60 9 [.int .i64 (16)] (globSt g0) = true := by kernel_rfl
set_option maxRecDepth 100000 in
set_option maxHeartbeats 6000000 in
theorem c_k16_walk {W : World}  (hG : GlobsR (om (16)) W g0) : Calls Try.prog 9 #[.int .i64 (16)] W fun e w' => e = .returned (.bool true) ∧ Below W.heap.size W w' := by
  have r0 := Rel.globs (om (16)) W g0 hG
  have hargs : VRs (Env.none (om (16))) [.int .i64 (16)] [.int .i64 (16)] := VRs_cons (by simp only [VR]) (VRs_nil)
  refine calls_of_yesV sound tab_ok specs_ok overs_ok c_k16_y0 rfl (tellA_ok (allTold'_iff.1 ?_)) r0 hargs
  simp only [c_k16_t0, om_0, om_f, allTold', dutiesTold, factsA, factsC, factsP, factsR, AV.facts, RW.facts, inK, and_true, Q.holds', E.i, E.s, E.n, D.nat, E.den, BO.den, UO.den, TO.den, D.toInt_int, D.toList_list, D.ints_ofInts, i64min, i64max, u8min, u8max, u16min, u16max, u32min, u32max, u64min, u64max, i32min, i32max, Om.sub, selI, ints_app, ints_cut, ints_upd, ints_rep, ints_splice, ints_seg, len_ints]
  first | done | omega | trivial

def c_k17_t0 : List (Q × Bool) := []
set_option maxRecDepth 100000 in
theorem c_k17_y0 : yesOf Try.prog (knownV (tellA c_k17_t0) tab specs overs) 6000 60 9 [.int .i64 (17)] (globSt g0) = true := by kernel_rfl
set_option maxRecDepth 100000 in
set_option maxHeartbeats 6000000 in
theorem c_k17_walk {W : World}  (hG : GlobsR (om (17)) W g0) : Calls Try.prog 9 #[.int .i64 (17)] W fun e w' => e = .returned (.bool true) ∧ Below W.heap.size W w' := by
  have r0 := Rel.globs (om (17)) W g0 hG
  have hargs : VRs (Env.none (om (17))) [.int .i64 (17)] [.int .i64 (17)] := VRs_cons (by simp only [VR]) (VRs_nil)
  refine calls_of_yesV sound tab_ok specs_ok overs_ok c_k17_y0 rfl (tellA_ok (allTold'_iff.1 ?_)) r0 hargs
  simp only [c_k17_t0, om_0, om_f, allTold', dutiesTold, factsA, factsC, factsP, factsR, AV.facts, RW.facts, inK, and_true, Q.holds', E.i, E.s, E.n, D.nat, E.den, BO.den, UO.den, TO.den, D.toInt_int, D.toList_list, D.ints_ofInts, i64min, i64max, u8min, u8max, u16min, u16max, u32min, u32max, u64min, u64max, i32min, i32max, Om.sub, selI, ints_app, ints_cut, ints_upd, ints_rep, ints_splice, ints_seg, len_ints]
  first | done | omega | trivial

def c_k18_t0 : List (Q × Bool) := []
set_option maxRecDepth 100000 in
theorem c_k18_y0 : yesOf Try.prog (knownV (tellA c_k18_t0) tab specs overs) 6000 60 9 [.int .i64 (18)] (globSt g0) = true := by kernel_rfl
set_option maxRecDepth 100000 in
set_option maxHeartbeats 6000000 in
theorem c_k18_walk {W : World}  (hG : GlobsR (om (18)) W g0) : Calls Try.prog 9 #[.int .i64 (18)] W fun e w' => e = .returned (.bool true) ∧ Below W.heap.size W w' := by
  have r0 := Rel.globs (om (18)) W g0 hG
  have hargs : VRs (Env.none (om (18))) [.int .i64 (18)] [.int .i64 (18)] := VRs_cons (by simp only [VR]) (VRs_nil)
  refine calls_of_yesV sound tab_ok specs_ok overs_ok c_k18_y0 rfl (tellA_ok (allTold'_iff.1 ?_)) r0 hargs
  simp only [c_k18_t0, om_0, om_f, allTold', dutiesTold, factsA, factsC, factsP, factsR, AV.facts, RW.facts, inK, and_true, Q.holds', E.i, E.s, E.n, D.nat, E.den, BO.den, UO.den, TO.den, D.toInt_int, D.toList_list, D.ints_ofInts, i64min, i64max, u8min, u8max, u16min, u16max, u32min, u32max, u64min, u64max, i32min, i32max, Om.sub, selI, ints_app, ints_cut, ints_upd, ints_rep, ints_splice, ints_seg, len_ints]
  first | done | omega | trivial

def c_k19_t0 : List (Q × Bool) := []
set_option maxRecDepth 100000 in
theorem c_k19_y0 : yesOf Try.prog (knownV (tellA c_k19_t0) tab specs overs) 6000 60 9 [.int .i64 (19)] (globSt g0) = true := by kernel_rfl
set_option maxRecDepth 100000 in
set_option maxHeartbeats 6000000 in
theorem c_k19_walk {W : World}  (hG : GlobsR (om (19)) W g0) : Calls Try.prog 9 #[.int .i64 (19)] W fun e w' => e = .returned (.bool true) ∧ Below W.heap.size W w' := by
  have r0 := Rel.globs (om (19)) W g0 hG
  have hargs : VRs (Env.none (om (19))) [.int .i64 (19)] [.int .i64 (19)] := VRs_cons (by simp only [VR]) (VRs_nil)
  refine calls_of_yesV sound tab_ok specs_ok overs_ok c_k19_y0 rfl (tellA_ok (allTold'_iff.1 ?_)) r0 hargs
  simp only [c_k19_t0, om_0, om_f, allTold', dutiesTold, factsA, factsC, factsP, factsR, AV.facts, RW.facts, inK, and_true, Q.holds', E.i, E.s, E.n, D.nat, E.den, BO.den, UO.den, TO.den, D.toInt_int, D.toList_list, D.ints_ofInts, i64min, i64max, u8min, u8max, u16min, u16max, u32min, u32max, u64min, u64max, i32min, i32max, Om.sub, selI, ints_app, ints_cut, ints_upd, ints_rep, ints_splice, ints_seg, len_ints]
  first | done | omega | trivial

def c_k20_t0 : List (Q × Bool) := []
set_option maxRecDepth 100000 in
theorem c_k20_y0 : yesOf Try.prog (knownV (tellA c_k20_t0) tab specs overs) 6000 60 9 [.int .i64 (20)] (globSt g0) = true := by kernel_rfl
set_option maxRecDepth 100000 in
set_option maxHeartbeats 6000000 in
theorem c_k20_walk {W : World}  (hG : GlobsR (om (20)) W g0) : Calls Try.prog 9 #[.int .i64 (20)] W fun e w' => e = .returned (.bool true) ∧ Below W.heap.size W w' := by
  have r0 := Rel.globs (om (20)) W g0 hG
  have hargs : VRs (Env.none (om (20))) [.int .i64 (20)] [.int .i64 (20)] := VRs_cons (by simp only [VR]) (VRs_nil)
  refine calls_of_yesV sound tab_ok specs_ok overs_ok c_k20_y0 rfl (tellA_ok (allTold'_iff.1 ?_)) r0 hargs
  simp only [c_k20_t0, om_0, om_f, allTold', dutiesTold, factsA, factsC, factsP, factsR, AV.facts, RW.facts, inK, and_true, Q.holds', E.i, E.s, E.n, D.nat, E.den, BO.den, UO.den, TO.den, D.toInt_int, D.toList_list, D.ints_ofInts, i64min, i64max, u8min, u8max, u16min, u16max, u32min, u32max, u64min, u64max, i32min, i32max, Om.sub, selI, ints_app, ints_cut, ints_upd, ints_rep, ints_splice, ints_seg, len_ints]
  first | done | omega | trivial

def c_k21_t0 : List (Q × Bool) := []
set_option maxRecDepth 100000 in
theorem c_k21_y0 : yesOf Try.prog (knownV (tellA c_k21_t0) tab specs overs) 6000 60 9 [.int .i64 (21)] (globSt g0) = true := by kernel_rfl
set_option maxRecDepth 100000 in
set_option maxHeartbeats 6000000 in
theorem c_k21_walk {W : World}  (hG : GlobsR (om (21)) W g0) : Calls Try.prog 9 #[.int .i64 (21)] W fun e w' => e = .returned (.bool true) ∧ Below W.heap.size W w' := by
  have r0 := Rel.globs (om (21)) W g0 hG
  have hargs : VRs (Env.none (om (21))) [.int .i64 (21)] [.int .i64 (21)] := VRs_cons (by simp only [VR]) (VRs_nil)
  refine calls_of_yesV sound tab_ok specs_ok overs_ok c_k21_y0 rfl (tellA_ok (allTold'_iff.1 ?_)) r0 hargs
  simp only [c_k21_t0, om_0, om_f, allTold', dutiesTold, factsA, factsC, factsP, factsR, AV.facts, RW.facts, inK, and_true, Q.holds', E.i, E.s, E.n, D.nat, E.den, BO.den, UO.den, TO.den, D.toInt_int, D.toList_list, D.ints_ofInts, i64min, i64max, u8min, u8max, u16min, u16max, u32min, u32max, u64min, u64max, i32min, i32max, Om.sub, selI, ints_app, ints_cut, ints_upd, ints_rep, ints_splice, ints_seg, len_ints]
  first | done | omega | trivial

def c_k22_t0 : List (Q × Bool) := []
set_option maxRecDepth 100000 in
theorem c_k22_y0 : yesOf Try.prog (knownV (tellA c_k22_t0) tab specs overs) 6000 60 9 [.int .i64 (22)] (globSt g0) = true := by kernel_rfl
set_option maxRecDepth 100000 in
set_option maxHeartbeats 6000000 in
theorem c_k22_walk {W : World}  (hG : GlobsR (om (22)) W g0) : Calls Try.prog 9 #[.int .i64 (22)] W fun e w' => e = .returned (.bool true) ∧ Below W.heap.size W w' := by
  have r0 := Rel.globs (om (22)) W g0 hG
  have hargs : VRs (Env.none (om (22))) [.int .i64 (22)] [.int .i64 (22)] := VRs_cons (by simp only [VR]) (VRs_nil)
  refine calls_of_yesV sound tab_ok specs_ok overs_ok c_k22_y0 rfl (tellA_ok (allTold'_iff.1 ?_)) r0 hargs
  simp only [c_k22_t0, om_0, om_f, allTold', dutiesTold, factsA, factsC, factsP, factsR, AV.facts, RW.facts, inK, and_true, Q.holds', E.i, E.s, E.n, D.nat, E.den, BO.den, UO.den, TO.den, D.toInt_int, D.toList_list, D.ints_ofInts, i64min, i64max, u8min, u8max, u16min, u16max, u32min, u32max, u64min, u64max, i32min, i32max, Om.sub, selI, ints_app, ints_cut, ints_upd, ints_rep, ints_splice, ints_seg, len_ints]
  first | done | omega | trivial

def c_k23_t0 : List (Q × Bool) := []
set_option maxRecDepth 100000 in
theorem c_k23_y0 : yesOf Try.prog (knownV (tellA c_k23_t0) tab specs overs) 6000 60 9 [.int .i64 (23)] (globSt g0) = true := by kernel_rfl
set_option maxRecDepth 100000 in
set_option maxHeartbeats 6000000 in
theorem c_k23_walk {W : World}  (hG : GlobsR (om (23)) W g0) : Calls Try.prog 9 #[.int .i64 (23)] W fun e w' => e = .returned (.bool true) ∧ Below W.heap.size W w' := by
  have r0 := Rel.globs (om (23)) W g0 hG
  have hargs : VRs (Env.none (om (23))) [.int .i64 (23)] [.int .i64 (23)] := VRs_cons (by simp only [VR]) (VRs_nil)
  refine calls_of_yesV sound tab_ok specs_ok overs_ok c_k23_y0 rfl (tellA_ok (allTold'_iff.1 ?_)) r0 hargs
  simp only [c_k23_t0, om_0, om_f, allTold', dutiesTold, factsA, factsC, factsP, factsR, AV.facts, RW.facts, inK, and_true, Q.holds', E.i, E.s, E.n, D.nat, E.den, BO.den, UO.den, TO.den, D.toInt_int, D.toList_list, D.ints_ofInts, i64min, i64max, u8min, u8max, u16min, u16max, u32min, u32max, u64min, u64max, i32min, i32max, Om.sub, selI, ints_app, ints_cut, ints_upd, ints_rep, ints_splice, ints_seg, len_ints]
  first | done | omega | trivial

def c_k24_t0 : List (Q × Bool) := []
set_option maxRecDepth 100000 in
theorem c_k24_y0 : yesOf Try.prog (knownV (tellA c_k24_t0) tab specs overs) 6000 60 9 [.int .i64 (24)] (globSt g0) = true := by kernel_rfl
set_option maxRecDepth 100000 in
set_option maxHeartbeats 6000000 in
theorem c_k24_walk {W : World}  (hG : GlobsR (om (24)) W g0) : Calls Try.prog 9 #[.int .i64 (24)] W fun e w' => e = .returned (.bool true) ∧ Below W.heap.size W w' := by
  have r0 := Rel.globs (om (24)) W g0 hG
  have hargs : VRs (Env.none (om (24))) [.int .i64 (24)] [.int .i64 (24)] := VRs_cons (by simp only [VR]) (VRs_nil)
  refine calls_of_yesV sound tab_ok specs_ok overs_ok c_k24_y0 rfl (tellA_ok (allTold'_iff.1 ?_)) r0 hargs
  simp only [c_k24_t0, om_0, om_f, allTold', dutiesTold, factsA, factsC, factsP, factsR, AV.facts, RW.facts, inK, and_true, Q.holds', E.i, E.s, E.n, D.nat, E.den, BO.den, UO.den, TO.den, D.toInt_int, D.toList_list, D.ints_ofInts, i64min, i64max, u8min, u8max, u16min, u16max, u32min, u32max, u64min, u64max, i32min, i32max, Om.sub, selI, ints_app, ints_cut, ints_upd, ints_rep, ints_splice, ints_seg, len_ints]
  first | done | omega | trivial

abbrev as0 : Q × Bool := ((.le (.int 0) (.var 0)), false)
abbrev as1 : Q × Bool := ((.le (.int 1) (.var 0)), false)
def c_els_t0 : List (Q × Bool) := [as0, as1]
set_option maxRecDepth 100000 in
theorem c_els_y0 : yesOf Try.prog (knownV (tellA c_els_t0) tab specs overs) 6000 60 9 [.sint .i64 (.var 0)] (globSt g0) = true := by kernel_rfl
abbrev as2 : Q × Bool := ((.le (.int 0) (.var 0)), true)
abbrev as3 : Q × Bool := ((.le (.int 25) (.var 0)), true)
abbrev as4 : Q × Bool := ((.le (.int 1) (.var 0)), true)
abbrev as5 : Q × Bool := ((.le (.var 0) (.int 24)), false)
abbrev as6 : Q × Bool := ((.le (.var 0) (.int 15)), false)
def c_els_t1 : List (Q × Bool) := [as2, as3, as4, as5, as6]
set_option maxRecDepth 100000 in
theorem c_els_y1 : yesOf Try.prog (knownV (tellA c_els_t1) tab specs overs) 6000 60 9 [.sint .i64 (.var 0)] (globSt g0) = true := by kernel_rfl
set_option maxRecDepth 100000 in
set_option maxHeartbeats 6000000 in
theorem c_els_walk {W : World} {n0 : Int} (hn0 : inK .i64 n0) (els0 : n0 < (0) ∨ (24) < n0) (hG : GlobsR (om n0) W g0) : Calls Try.prog 9 #[.int .i64 n0] W fun e w' => e = .returned (.bool true) ∧ Below W.heap.size W w' := by
  have r0 := Rel.globs (om n0) W g0 hG
  have hargs : VRs (Env.none (om n0)) [.sint .i64 (.var 0)] [.int .i64 n0] := VRs_cons (vr_sint (i := 0) hn0 (by rw [r0.opq]; rfl)) (VRs_nil)
  simp only [inK, i64min, i64max, u8min, u8max, u32min, u32max, u64min, u64max] at hn0
  rcases els0 with h | h
  · refine calls_of_yesV sound tab_ok specs_ok overs_ok c_els_y0 rfl (tellA_ok (allTold'_iff.1 ?_)) r0 hargs
    simp only [c_els_t0, om_0, om_f, allTold', dutiesTold, factsA, factsC, factsP, factsR, AV.facts, RW.facts, inK, and_true, Q.holds', E.i, E.s, E.n, D.nat, E.den, BO.den, UO.den, TO.den, D.toInt_int, D.toList_list, D.ints_ofInts, i64min, i64max, u8min, u8max, u16min, u16max, u32min, u32max, u64min, u64max, i32min, i32max, Om.sub, selI, ints_app, ints_cut, ints_upd, ints_rep, ints_splice, ints_seg, len_ints]
    first | done | omega | trivial
  · refine calls_of_yesV sound tab_ok specs_ok overs_ok c_els_y1 rfl (tellA_ok (allTold'_iff.1 ?_)) r0 hargs
    simp only [c_els_t1, om_0, om_f, allTold', dutiesTold, factsA, factsC, factsP, factsR, AV.facts, RW.facts, inK, and_true, Q.holds', E.i, E.s, E.n, D.nat, E.den, BO.den, UO.den, TO.den, D.toInt_int, D.toList_list, D.ints_ofInts, i64min, i64max, u8min, u8max, u16min, u16max, u32min, u32max, u64min, u64max, i32min, i32max, Om.sub, selI, ints_app, ints_cut, ints_upd, ints_rep, ints_splice, ints_seg, len_ints]
    first | done | omega | trivial

theorem underI3 : Try.prog.underlying 3 = some (.int .i64) := by kernel_rfl

set_option maxRecDepth 100000 in
theorem lifted (os : Os) (started : os.Started) (H : Type) (enc : TypeId × Value → H) :
    ReturnsInHanded {} Try.checked os 9 .any (Rows.noteNamesSpec.pre6 enc Try.prog Try.f9 Rows.noteNamesRow.domain false) (Rows.noteNamesSpec.post enc Try.prog Try.f9 false true false false) := by
  refine returnsInHanded_of_change (C := Try.checked) own started (by kernel_rfl) Try.func9
    (ChangeSpec.witness6 (enc := enc) (C := Try.checked) false ⟨#[], #[.int .i64 0], []⟩ 8 (by kernel_rfl) (by kernel_rfl) (by kernel_rfl) (by kernel_rfl)) ?_
  intro W base args ds gs before hval0 hW hcnd _
  have hval : ∀ (j : Nat) t v, Try.f9.params[j]? = some t → args[j]? = some v → Value.okWide Try.prog W .any base t v := hval0
  have hW' := hW
  have hlt := hW.lt
  obtain ⟨p, q, hA0, hV, rfl, hfz, hnd⟩ := hW
  have hA : DataW.TrodAll enc Try.prog W 0 (fun _ => true) true Try.f9.params.toList args.toList ds p := hA0
  have hAll := hA
  rw [Try.params9] at hA hval hAll
  obtain ⟨rfl, rfl⟩ := trodVars_none hV
  obtain ⟨v0, d0, rfl, rfl, h0⟩ := trodAll_one hA
  obtain ⟨n0, rfl, rfl, rfl, wn0⟩ := open_int underI3 (hval 0 3 _ rfl rfl) h0
  have wn0 := wf_inK wn0
  clear hA0 hval0
  have hcall : Calls Try.prog 9 #[.int .i64 n0] W fun e w' => e = .returned (.bool true) ∧ Below W.heap.size W w' := by
    by_cases q0 : (0) ≤ n0 ∧ n0 ≤ (24)
    · have q0 : n0 = 0 ∨ n0 = 1 ∨ n0 = 2 ∨ n0 = 3 ∨ n0 = 4 ∨ n0 = 5 ∨ n0 = 6 ∨ n0 = 7 ∨ n0 = 8 ∨ n0 = 9 ∨ n0 = 10 ∨ n0 = 11 ∨ n0 = 12 ∨ n0 = 13 ∨ n0 = 14 ∨ n0 = 15 ∨ n0 = 16 ∨ n0 = 17 ∨ n0 = 18 ∨ n0 = 19 ∨ n0 = 20 ∨ n0 = 21 ∨ n0 = 22 ∨ n0 = 23 ∨ n0 = 24 := by omega
      rcases q0 with rfl | rfl | rfl | rfl | rfl | rfl | rfl | rfl | rfl | rfl | rfl | rfl | rfl | rfl | rfl | rfl | rfl | rfl | rfl | rfl | rfl | rfl | rfl | rfl | rfl
      · exact c_k0_walk  (globs0 _ W)
      · exact c_k1_walk  (globs0 _ W)
      · exact c_k2_walk  (globs0 _ W)
      · exact c_k3_walk  (globs0 _ W)
      · exact c_k4_walk  (globs0 _ W)
      · exact c_k5_walk  (globs0 _ W)
      · exact c_k6_walk  (globs0 _ W)
      · exact c_k7_walk  (globs0 _ W)
      · exact c_k8_walk  (globs0 _ W)
      · exact c_k9_walk  (globs0 _ W)
      · exact c_k10_walk  (globs0 _ W)
      · exact c_k11_walk  (globs0 _ W)
      · exact c_k12_walk  (globs0 _ W)
      · exact c_k13_walk  (globs0 _ W)
      · exact c_k14_walk  (globs0 _ W)
      · exact c_k15_walk  (globs0 _ W)
      · exact c_k16_walk  (globs0 _ W)
      · exact c_k17_walk  (globs0 _ W)
      · exact c_k18_walk  (globs0 _ W)
      · exact c_k19_walk  (globs0 _ W)
      · exact c_k20_walk  (globs0 _ W)
      · exact c_k21_walk  (globs0 _ W)
      · exact c_k22_walk  (globs0 _ W)
      · exact c_k23_walk  (globs0 _ W)
      · exact c_k24_walk  (globs0 _ W)
    · have els0 : n0 < (0) ∨ (24) < n0 := by omega
      exact c_els_walk wn0 els0 (globs0 _ W)
  refine hcall.mono fun e W' ⟨he, hg⟩ => ?_
  subst he
  exact ⟨_, rfl, _, [], _, [], _, [], hW', trodAll_cons_mk (shut_bool Try.underlying4 _) trodAll_mk0, trodAll_stays laid hg _ _ _ _ hAll (fun x hx => hlt x (by simp at hx)) (by kernel_rfl), rfl, hg.frame _, fun h => by cases h⟩

theorem over : Rows.noteNamesRow.holds Try.pinned (OpenSpec.ofChange Rows.noteNamesSpec) :=
  OpenClaim.holds_of_wide 9 Try.f9 rfl rfl rfl rfl rfl rfl rfl ⟨rfl, rfl, rfl, rfl, rfl⟩ rfl rfl rfl rfl rfl (by kernel_rfl) Try.func9 (by kernel_rfl)
    (of_decide_eq_true (by kernel_rfl)) (by unfold Func.isWrapper; first | (rw [if_pos (by decide +kernel)]; kernel_rfl) | (rw [if_neg (by decide +kernel)]; exact ⟨rfl, rfl⟩))
    (fun os started H enc _ => lifted os started H enc)

/-- The statement. -/
theorem proved : Rows.NoteNamesSaid :=
  over
#print axioms proved
end Go.Proofs.Ytcfmjmjkpmmbeaa.noteNames
