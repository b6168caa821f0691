/-
 The law PathOrder of the layer path holds of the code: for all inputs the call returns true, and the arguments read as they did. No condition.
-/
import Derived.Test.YtljhphebljelcaaCo
import Derived.Test.YtljhphebljelcaaSycp
import Derived.Test.YtljhphebljelcaaPg
import Derived.Test.YtljhphebljelcaaPa
import Derived.Test.YtljhphebljelcaaPb
import Derived.Test.YtljhphebljelcaaPc
import Derived.Test.YtljhphebljelcaaPd
import Derived.Test.YtljhphebljelcaaPe
import Derived.Test.YtljhphebljelcaaPf
import Derived.WalkKit
import Derived.ProofKit
import Derived.OpenShut
set_option linter.unusedSimpArgs false
set_option linter.unusedVariables false
namespace Go.Proofs.Ytljhphebljelcaa.pathOrder
open Go.ChangeShapes Go.WideShapes Go.ChangeAt Go.RowKit Go.Ev Go.Proofs.Ytljhphebljelcaa.Co Go.Proofs.Ytljhphebljelcaa.Pg Go.Proofs.Ytljhphebljelcaa.Pa Go.Proofs.Ytljhphebljelcaa.Pb Go.Proofs.Ytljhphebljelcaa.Pc Go.Proofs.Ytljhphebljelcaa.Pd Go.Proofs.Ytljhphebljelcaa.Pe Go.Proofs.Ytljhphebljelcaa.Pf

def om (s0 : ByteArray) (s1 : ByteArray) (s2 : ByteArray) : Om := ⟨fun _ => .bool false, fun i => if i = 0 then .int s0.size else if i = 2 then D.ofInts (strE s0) else if i = 10 then .int s1.size else if i = 12 then D.ofInts (strE s1) else if i = 20 then .int s2.size else if i = 22 then D.ofInts (strE s2) else .int 0, F⟩
theorem om_0 (s0 : ByteArray) (s1 : ByteArray) (s2 : ByteArray) : (om s0 s1 s2).d 0 = .int s0.size := rfl
theorem om_2 (s0 : ByteArray) (s1 : ByteArray) (s2 : ByteArray) : (om s0 s1 s2).d 2 = D.ofInts (strE s0) := rfl
theorem om_10 (s0 : ByteArray) (s1 : ByteArray) (s2 : ByteArray) : (om s0 s1 s2).d 10 = .int s1.size := rfl
theorem om_12 (s0 : ByteArray) (s1 : ByteArray) (s2 : ByteArray) : (om s0 s1 s2).d 12 = D.ofInts (strE s1) := rfl
theorem om_20 (s0 : ByteArray) (s1 : ByteArray) (s2 : ByteArray) : (om s0 s1 s2).d 20 = .int s2.size := rfl
theorem om_22 (s0 : ByteArray) (s1 : ByteArray) (s2 : ByteArray) : (om s0 s1 s2).d 22 = D.ofInts (strE s2) := rfl
theorem om_f (s0 : ByteArray) (s1 : ByteArray) (s2 : ByteArray) : (om s0 s1 s2).f = F := rfl

abbrev as0 : Q × Bool := ((.fit .i64 (.var 0)), true)
abbrev as1 : Q × Bool := ((.le (.var 0) (.int 300)), false)
def c_t0 : List (Q × Bool) := [as0, as1]
set_option maxRecDepth 100000 in
theorem c_y0 : yesOf Try.prog (knownV (tellA c_t0) tabO specsO oversO) 8000 80 6 [.sstr (.var 0) (.var 2), .sstr (.var 10) (.var 12), .sstr (.var 20) (.var 22)] (globSt g0) = true := by kernel_rfl
abbrev as2 : Q × Bool := ((.le (.var 0) (.int 300)), true)
abbrev as3 : Q × Bool := ((.fit .i64 (.var 10)), true)
abbrev as4 : Q × Bool := ((.le (.var 10) (.int 300)), false)
def c_t1 : List (Q × Bool) := [as0, as2, as3, as4]
set_option maxRecDepth 100000 in
theorem c_y1 : yesOf Try.prog (knownV (tellA c_t1) tabO specsO oversO) 8000 80 6 [.sstr (.var 0) (.var 2), .sstr (.var 10) (.var 12), .sstr (.var 20) (.var 22)] (globSt g0) = true := by kernel_rfl
abbrev as5 : Q × Bool := ((.le (.var 10) (.int 300)), true)
abbrev as6 : Q × Bool := ((.fit .i64 (.var 20)), true)
abbrev as7 : Q × Bool := ((.le (.var 20) (.int 300)), false)
def c_t2 : List (Q × Bool) := [as0, as2, as3, as5, as6, as7]
set_option maxRecDepth 100000 in
theorem c_y2 : yesOf Try.prog (knownV (tellA c_t2) tabO specsO oversO) 8000 80 6 [.sstr (.var 0) (.var 2), .sstr (.var 10) (.var 12), .sstr (.var 20) (.var 22)] (globSt g0) = true := by kernel_rfl
abbrev as8 : Q × Bool := ((.le (.var 20) (.int 300)), true)
abbrev as9 : Q × Bool := ((.le (.var 0) (.int 100000000000000)), true)
abbrev as10 : Q × Bool := ((.le (.var 10) (.int 100000000000000)), true)
abbrev as11 : Q × Bool := ((.le (.var 20) (.int 100000000000000)), true)
abbrev as12 : Q × Bool := ((.fit .i64 (.bi .sub (.int 0) (.fn 52 (.bi .pair (.var 12) (.bi .pair (.var 2) (.int 0)))))), true)
abbrev as13 : Q × Bool := ((.eq (.fn 52 (.bi .pair (.var 2) (.bi .pair (.var 12) (.int 0)))) (.bi .sub (.int 0) (.fn 52 (.bi .pair (.var 12) (.bi .pair (.var 2) (.int 0)))))), true)
abbrev as14 : Q × Bool := ((.eq (.fn 52 (.bi .pair (.var 2) (.bi .pair (.var 12) (.int 0)))) (.int 0)), false)
abbrev as15 : Q × Bool := ((.same (.var 2) (.var 12)), false)
abbrev as16 : Q × Bool := ((.le (.int (-1)) (.fn 52 (.bi .pair (.var 2) (.bi .pair (.var 12) (.int 0))))), true)
abbrev as17 : Q × Bool := ((.le (.fn 52 (.bi .pair (.var 2) (.bi .pair (.var 12) (.int 0)))) (.int 1)), true)
abbrev as18 : Q × Bool := ((.le (.fn 52 (.bi .pair (.var 2) (.bi .pair (.var 12) (.int 0)))) (.int 0)), true)
abbrev as19 : Q × Bool := ((.le (.fn 52 (.bi .pair (.var 12) (.bi .pair (.var 22) (.int 0)))) (.int 0)), true)
abbrev as20 : Q × Bool := ((.le (.fn 52 (.bi .pair (.var 2) (.bi .pair (.var 22) (.int 0)))) (.int 0)), true)
abbrev as21 : Q × Bool := ((.le (.int 0) (.fn 52 (.bi .pair (.var 2) (.bi .pair (.var 12) (.int 0))))), false)
def c_t3 : List (Q × Bool) := [as0, as2, as3, as5, as6, as8, as9, as10, as11, as12, as13, as14, as15, as16, as17, as18, as19, as20, as21]
set_option maxRecDepth 100000 in
theorem c_y3 : yesOf Try.prog (knownV (tellA c_t3) tabO specsO oversO) 8000 80 6 [.sstr (.var 0) (.var 2), .sstr (.var 10) (.var 12), .sstr (.var 20) (.var 22)] (globSt g0) = true := by kernel_rfl
abbrev as22 : Q × Bool := ((.le (.fn 52 (.bi .pair (.var 12) (.bi .pair (.var 22) (.int 0)))) (.int 0)), false)
def c_t4 : List (Q × Bool) := [as0, as2, as3, as5, as6, as8, as9, as10, as11, as12, as13, as14, as15, as16, as17, as18, as22, as21]
set_option maxRecDepth 100000 in
theorem c_y4 : yesOf Try.prog (knownV (tellA c_t4) tabO specsO oversO) 8000 80 6 [.sstr (.var 0) (.var 2), .sstr (.var 10) (.var 12), .sstr (.var 20) (.var 22)] (globSt g0) = true := by kernel_rfl
abbrev as23 : Q × Bool := ((.eq (.fn 52 (.bi .pair (.var 2) (.bi .pair (.var 12) (.int 0)))) (.int 0)), true)
abbrev as24 : Q × Bool := ((.same (.var 2) (.var 12)), true)
abbrev as25 : Q × Bool := ((.le (.int 0) (.fn 52 (.bi .pair (.var 2) (.bi .pair (.var 12) (.int 0))))), true)
abbrev as26 : Q × Bool := ((.le (.int 0) (.fn 52 (.bi .pair (.var 12) (.bi .pair (.var 22) (.int 0))))), false)
def c_t5 : List (Q × Bool) := [as0, as2, as3, as5, as6, as8, as9, as10, as11, as12, as13, as23, as24, as16, as17, as18, as19, as20, as25, as26]
set_option maxRecDepth 100000 in
theorem c_y5 : yesOf Try.prog (knownV (tellA c_t5) tabO specsO oversO) 8000 80 6 [.sstr (.var 0) (.var 2), .sstr (.var 10) (.var 12), .sstr (.var 20) (.var 22)] (globSt g0) = true := by kernel_rfl
abbrev as27 : Q × Bool := ((.le (.int 0) (.fn 52 (.bi .pair (.var 12) (.bi .pair (.var 22) (.int 0))))), true)
abbrev as28 : Q × Bool := ((.le (.int 0) (.fn 52 (.bi .pair (.var 2) (.bi .pair (.var 22) (.int 0))))), true)
def c_t6 : List (Q × Bool) := [as0, as2, as3, as5, as6, as8, as9, as10, as11, as12, as13, as23, as24, as16, as17, as18, as19, as20, as25, as27, as28]
set_option maxRecDepth 100000 in
theorem c_y6 : yesOf Try.prog (knownV (tellA c_t6) tabO specsO oversO) 8000 80 6 [.sstr (.var 0) (.var 2), .sstr (.var 10) (.var 12), .sstr (.var 20) (.var 22)] (globSt g0) = true := by kernel_rfl
def c_t7 : List (Q × Bool) := [as0, as2, as3, as5, as6, as8, as9, as10, as11, as12, as13, as23, as24, as16, as17, as18, as22, as25, as27, as28]
set_option maxRecDepth 100000 in
theorem c_y7 : yesOf Try.prog (knownV (tellA c_t7) tabO specsO oversO) 8000 80 6 [.sstr (.var 0) (.var 2), .sstr (.var 10) (.var 12), .sstr (.var 20) (.var 22)] (globSt g0) = true := by kernel_rfl
abbrev as29 : Q × Bool := ((.le (.fn 52 (.bi .pair (.var 2) (.bi .pair (.var 12) (.int 0)))) (.int 0)), false)
def c_t8 : List (Q × Bool) := [as0, as2, as3, as5, as6, as8, as9, as10, as11, as12, as13, as14, as15, as16, as17, as29, as25, as26]
set_option maxRecDepth 100000 in
theorem c_y8 : yesOf Try.prog (knownV (tellA c_t8) tabO specsO oversO) 8000 80 6 [.sstr (.var 0) (.var 2), .sstr (.var 10) (.var 12), .sstr (.var 20) (.var 22)] (globSt g0) = true := by kernel_rfl
def c_t9 : List (Q × Bool) := [as0, as2, as3, as5, as6, as8, as9, as10, as11, as12, as13, as14, as15, as16, as17, as29, as25, as27, as28]
set_option maxRecDepth 100000 in
theorem c_y9 : yesOf Try.prog (knownV (tellA c_t9) tabO specsO oversO) 8000 80 6 [.sstr (.var 0) (.var 2), .sstr (.var 10) (.var 12), .sstr (.var 20) (.var 22)] (globSt g0) = true := by kernel_rfl
set_option maxRecDepth 100000 in
set_option maxHeartbeats 6000000 in
theorem c_walk {W : World} {s0 : ByteArray} (max0 : s0.size ≤ 9223372036854775807) {s1 : ByteArray} (max1 : s1.size ≤ 9223372036854775807) {s2 : ByteArray} (max2 : s2.size ≤ 9223372036854775807) (hG : GlobsR (om s0 s1 s2) W g0) : Calls Try.prog 6 #[.string s0, .string s1, .string s2] W fun e w' => e = .returned (.bool true) ∧ Below W.heap.size W w' := by
 have r0 := Rel.globs (om s0 s1 s2) W g0 hG
 have hargs : VRs (Env.none (om s0 s1 s2) W) [.sstr (.var 0) (.var 2), .sstr (.var 10) (.var 12), .sstr (.var 20) (.var 22)] [.string s0, .string s1, .string s2] := VRs_cons (vr_str (l := 0) (x := 2) (by rw [r0.opq]; rfl) (by rw [r0.opq]; rfl)) (VRs_cons (vr_str (l := 10) (x := 12) (by rw [r0.opq]; rfl) (by rw [r0.opq]; rfl)) (VRs_cons (vr_str (l := 20) (x := 22) (by rw [r0.opq]; rfl) (by rw [r0.opq]; rfl)) (VRs_nil)))
 have zl0 := strE_length s0
 have rng0 := strE_in s0
 have zl1 := strE_length s1
 have rng1 := strE_in s1
 have zl2 := strE_length s2
 have rng2 := strE_in s2
 by_cases n0 : 300 < s0.size
 ·refine calls_of_yesV sound tabO_ok specsO_ok oversO_ok c_y0 rfl (tellA_ok (allTold'_iff.1 ?_)) r0 hargs
  simp only [c_t0, om_0, om_2, om_10, om_12, om_20, om_22, om_f, F52, Int.zero_sub, allTold', dutiesTold, factsA, factsC, factsP, factsR, AV.facts, RW.facts, inK, and_true, Q.holds', E.i, E.s, E.n, D.nat, E.den, BO.den, UO.den, TO.den, D.toInt_int, D.toList_list, D.ints_ofInts, i64min, i64max, u8min, u8max, u16min, u16max, u32min, u32max, u64min, u64max, i32min, i32max, Om.sub, selI, ints_app, ints_cut, ints_upd, ints_rep, ints_splice, ints_seg, len_ints]
  and_intros <;> first | assumption | omega
 by_cases n1 : 300 < s1.size
 ·refine calls_of_yesV sound tabO_ok specsO_ok oversO_ok c_y1 rfl (tellA_ok (allTold'_iff.1 ?_)) r0 hargs
  simp only [c_t1, om_0, om_2, om_10, om_12, om_20, om_22, om_f, F52, Int.zero_sub, allTold', dutiesTold, factsA, factsC, factsP, factsR, AV.facts, RW.facts, inK, and_true, Q.holds', E.i, E.s, E.n, D.nat, E.den, BO.den, UO.den, TO.den, D.toInt_int, D.toList_list, D.ints_ofInts, i64min, i64max, u8min, u8max, u16min, u16max, u32min, u32max, u64min, u64max, i32min, i32max, Om.sub, selI, ints_app, ints_cut, ints_upd, ints_rep, ints_splice, ints_seg, len_ints]
  and_intros <;> first | assumption | omega
 by_cases n2 : 300 < s2.size
 ·refine calls_of_yesV sound tabO_ok specsO_ok oversO_ok c_y2 rfl (tellA_ok (allTold'_iff.1 ?_)) r0 hargs
  simp only [c_t2, om_0, om_2, om_10, om_12, om_20, om_22, om_f, F52, Int.zero_sub, allTold', dutiesTold, factsA, factsC, factsP, factsR, AV.facts, RW.facts, inK, and_true, Q.holds', E.i, E.s, E.n, D.nat, E.den, BO.den, UO.den, TO.den, D.toInt_int, D.toList_list, D.ints_ofInts, i64min, i64max, u8min, u8max, u16min, u16max, u32min, u32max, u64min, u64max, i32min, i32max, Om.sub, selI, ints_app, ints_cut, ints_upd, ints_rep, ints_splice, ints_seg, len_ints]
  and_intros <;> first | assumption | omega
 have ax := cmpT_ord.anti (strE s0) (strE s1)
 have lx := cmpT_ord.low (strE s0) (strE s1)
 have hz := cmpT_ord.tran (strE s0) (strE s1) (strE s2)
 have hu := cmpT_up (a := (strE s0)) (b := (strE s1)) (c := (strE s2))
 by_cases e : (strE s0) = (strE s1)
 ·have x0 : cmpT (strE s0) (strE s1) = 0 := cmpT_eq.2 e
  by_cases y : 0 < cmpT (strE s1) (strE s2)
  ·have hu := hu (by omega) (by omega)
   refine calls_of_yesV sound tabO_ok specsO_ok oversO_ok c_y7 rfl (tellA_ok (allTold'_iff.1 ?_)) r0 hargs
   simp only [c_t7, om_0, om_2, om_10, om_12, om_20, om_22, om_f, F52, Int.zero_sub, allTold', dutiesTold, factsA, factsC, factsP, factsR, AV.facts, RW.facts, inK, and_true, Q.holds', E.i, E.s, E.n, D.nat, E.den, BO.den, UO.den, TO.den, D.toInt_int, D.toList_list, D.ints_ofInts, i64min, i64max, u8min, u8max, u16min, u16max, u32min, u32max, u64min, u64max, i32min, i32max, Om.sub, selI, ints_app, ints_cut, ints_upd, ints_rep, ints_splice, ints_seg, len_ints]
   and_intros <;> first | assumption | omega
  ·have hz := hz (by omega) (by omega)
   by_cases y0 : cmpT (strE s1) (strE s2) < 0
   ·refine calls_of_yesV sound tabO_ok specsO_ok oversO_ok c_y5 rfl (tellA_ok (allTold'_iff.1 ?_)) r0 hargs
    simp only [c_t5, om_0, om_2, om_10, om_12, om_20, om_22, om_f, F52, Int.zero_sub, allTold', dutiesTold, factsA, factsC, factsP, factsR, AV.facts, RW.facts, inK, and_true, Q.holds', E.i, E.s, E.n, D.nat, E.den, BO.den, UO.den, TO.den, D.toInt_int, D.toList_list, D.ints_ofInts, i64min, i64max, u8min, u8max, u16min, u16max, u32min, u32max, u64min, u64max, i32min, i32max, Om.sub, selI, ints_app, ints_cut, ints_upd, ints_rep, ints_splice, ints_seg, len_ints]
    and_intros <;> first | assumption | omega
   ·have hu := hu (by omega) (by omega)
    refine calls_of_yesV sound tabO_ok specsO_ok oversO_ok c_y6 rfl (tellA_ok (allTold'_iff.1 ?_)) r0 hargs
    simp only [c_t6, om_0, om_2, om_10, om_12, om_20, om_22, om_f, F52, Int.zero_sub, allTold', dutiesTold, factsA, factsC, factsP, factsR, AV.facts, RW.facts, inK, and_true, Q.holds', E.i, E.s, E.n, D.nat, E.den, BO.den, UO.den, TO.den, D.toInt_int, D.toList_list, D.ints_ofInts, i64min, i64max, u8min, u8max, u16min, u16max, u32min, u32max, u64min, u64max, i32min, i32max, Om.sub, selI, ints_app, ints_cut, ints_upd, ints_rep, ints_splice, ints_seg, len_ints]
    and_intros <;> first | assumption | omega
 have x0 : ¬ cmpT (strE s0) (strE s1) = 0 := fun h => e (cmpT_eq.1 h)
 by_cases x : 0 < cmpT (strE s0) (strE s1)
 ·by_cases y0 : cmpT (strE s1) (strE s2) < 0
  ·refine calls_of_yesV sound tabO_ok specsO_ok oversO_ok c_y8 rfl (tellA_ok (allTold'_iff.1 ?_)) r0 hargs
   simp only [c_t8, om_0, om_2, om_10, om_12, om_20, om_22, om_f, F52, Int.zero_sub, allTold', dutiesTold, factsA, factsC, factsP, factsR, AV.facts, RW.facts, inK, and_true, Q.holds', E.i, E.s, E.n, D.nat, E.den, BO.den, UO.den, TO.den, D.toInt_int, D.toList_list, D.ints_ofInts, i64min, i64max, u8min, u8max, u16min, u16max, u32min, u32max, u64min, u64max, i32min, i32max, Om.sub, selI, ints_app, ints_cut, ints_upd, ints_rep, ints_splice, ints_seg, len_ints]
   and_intros <;> first | assumption | omega
  ·have hu := hu (by omega) (by omega)
   refine calls_of_yesV sound tabO_ok specsO_ok oversO_ok c_y9 rfl (tellA_ok (allTold'_iff.1 ?_)) r0 hargs
   simp only [c_t9, om_0, om_2, om_10, om_12, om_20, om_22, om_f, F52, Int.zero_sub, allTold', dutiesTold, factsA, factsC, factsP, factsR, AV.facts, RW.facts, inK, and_true, Q.holds', E.i, E.s, E.n, D.nat, E.den, BO.den, UO.den, TO.den, D.toInt_int, D.toList_list, D.ints_ofInts, i64min, i64max, u8min, u8max, u16min, u16max, u32min, u32max, u64min, u64max, i32min, i32max, Om.sub, selI, ints_app, ints_cut, ints_upd, ints_rep, ints_splice, ints_seg, len_ints]
   and_intros <;> first | assumption | omega
 ·by_cases y : 0 < cmpT (strE s1) (strE s2)
  ·refine calls_of_yesV sound tabO_ok specsO_ok oversO_ok c_y4 rfl (tellA_ok (allTold'_iff.1 ?_)) r0 hargs
   simp only [c_t4, om_0, om_2, om_10, om_12, om_20, om_22, om_f, F52, Int.zero_sub, allTold', dutiesTold, factsA, factsC, factsP, factsR, AV.facts, RW.facts, inK, and_true, Q.holds', E.i, E.s, E.n, D.nat, E.den, BO.den, UO.den, TO.den, D.toInt_int, D.toList_list, D.ints_ofInts, i64min, i64max, u8min, u8max, u16min, u16max, u32min, u32max, u64min, u64max, i32min, i32max, Om.sub, selI, ints_app, ints_cut, ints_upd, ints_rep, ints_splice, ints_seg, len_ints]
   and_intros <;> first | assumption | omega
  ·have hz := hz (by omega) (by omega)
   refine calls_of_yesV sound tabO_ok specsO_ok oversO_ok c_y3 rfl (tellA_ok (allTold'_iff.1 ?_)) r0 hargs
   simp only [c_t3, om_0, om_2, om_10, om_12, om_20, om_22, om_f, F52, Int.zero_sub, allTold', dutiesTold, factsA, factsC, factsP, factsR, AV.facts, RW.facts, inK, and_true, Q.holds', E.i, E.s, E.n, D.nat, E.den, BO.den, UO.den, TO.den, D.toInt_int, D.toList_list, D.ints_ofInts, i64min, i64max, u8min, u8max, u16min, u16max, u32min, u32max, u64min, u64max, i32min, i32max, Om.sub, selI, ints_app, ints_cut, ints_upd, ints_rep, ints_splice, ints_seg, len_ints]
   and_intros <;> first | assumption | omega

theorem underStr9 : Try.prog.underlying 9 = some .string := by kernel_rfl

set_option maxRecDepth 100000 in
theorem lifted (os : Os) (started : os.Started) (H : Type) (enc : TypeId × Value → H) :
  ReturnsInHanded {} Try.checked os 6 .any (Rows.pathOrderSpec.pre6 enc Try.prog Try.f6 Rows.pathOrderRow.domain false) (Rows.pathOrderSpec.post enc Try.prog Try.f6 false true false false) := by
 refine returnsInHanded_of_change (C := Try.checked) own started (by kernel_rfl) Try.func6
  (ChangeSpec.witness6 (enc := enc) (C := Try.checked) false ⟨#[], #[.string ByteArray.empty, .string ByteArray.empty, .string ByteArray.empty], []⟩ 8 (by kernel_rfl) (by kernel_rfl) (by kernel_rfl) (by kernel_rfl)) ?_
 intro W base args ds gs before hval0 hW hcnd _
 have hval : ∀ (j : Nat) t v, Try.f6.params[j]? = some t → args[j]? = some v → Value.okWide Try.prog W .any base t v := hval0
 have hW' := hW
 have hlt := hW.lt
 obtain ⟨p, q, hA0, hV, rfl, hfz, hnd⟩ := hW
 have hA : DataW.TrodAll enc Try.prog W 0 (fun _ => true) true Try.f6.params.toList args.toList ds p := hA0
 have hAll := hA
 rw [Try.params6] at hA hval hAll
 obtain ⟨rfl, rfl⟩ := trodVars_none hV
 obtain ⟨pv0, pv1, pv2, d0, d1, d2, p0, p1, p2, rfl, rfl, rfl, h0, h1, h2⟩ := trodAll_three hA
 obtain ⟨s0, rfl, rfl, max0⟩ := in_str underStr9 (hval 0 9 _ rfl rfl) h0
 obtain ⟨s1, rfl, rfl, max1⟩ := in_str underStr9 (hval 1 9 _ rfl rfl) h1
 obtain ⟨s2, rfl, rfl, max2⟩ := in_str underStr9 (hval 2 9 _ rfl rfl) h2
 clear hA0 hval0
 have hcall : Calls Try.prog 6 #[.string s0, .string s1, .string s2] W fun e w' => e = .returned (.bool true) ∧ Below W.heap.size W w' := by
  exact c_walk max0 max1 max2 (globs0 _ W)
 refine hcall.mono fun e W' ⟨he, hg⟩ => ?_
 subst he
 exact ⟨_, rfl, _, [], _, [], _, [], hW', trodAll_cons_mk (shut_bool Try.underlying4 _) trodAll_mk0, trodAll_stays laid hg _ _ _ _ hAll (fun x hx => hlt x (by simp at hx)) (by kernel_rfl), rfl, hg.frame _, fun h => by cases h⟩

theorem over : Rows.pathOrderRow.holds Try.pinned (OpenSpec.ofChange Rows.pathOrderSpec) :=
 OpenClaim.holds_of_wide 6 Try.f6 rfl rfl rfl rfl rfl rfl rfl ⟨rfl, rfl, rfl, rfl, rfl⟩ rfl rfl rfl rfl rfl (by kernel_rfl) Try.func6 (by kernel_rfl)
  (of_decide_eq_true (by kernel_rfl)) (by unfold Func.isWrapper; first | (rw [if_pos (by decide +kernel)]; kernel_rfl) | (rw [if_neg (by decide +kernel)]; exact ⟨rfl, rfl⟩))
  (fun os started H enc _ => lifted os started H enc)

/-- The statement. -/
theorem proved : Rows.PathOrderSaid :=
 over
#print axioms proved
end Go.Proofs.Ytljhphebljelcaa.pathOrder
