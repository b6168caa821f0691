/-
 The law PathUnder of the layer path holds of the code: for all inputs the call returns true, and the arguments read as they did. No condition.
-/
import Derived.Test.YtljhphebljelcaaCo
import Derived.Test.YtljhphebljelcaaSycp
import Derived.Test.YtljhphebljelcaaPf
import Derived.Test.YtljhphebljelcaaPa
import Derived.Test.YtljhphebljelcaaPb
import Derived.Test.YtljhphebljelcaaPc
import Derived.Test.YtljhphebljelcaaPd
import Derived.Test.YtljhphebljelcaaPe
import Derived.WalkKit
import Derived.ProofKit
import Derived.OpenShut
set_option linter.unusedSimpArgs false
set_option linter.unusedVariables false
namespace Go.Proofs.Ytljhphebljelcaa.pathUnder
open Go.ChangeShapes Go.WideShapes Go.ChangeAt Go.RowKit Go.Ev Go.Proofs.Ytljhphebljelcaa.Co Go.Proofs.Ytljhphebljelcaa.Pf Go.Proofs.Ytljhphebljelcaa.Pa Go.Proofs.Ytljhphebljelcaa.Pb Go.Proofs.Ytljhphebljelcaa.Pc Go.Proofs.Ytljhphebljelcaa.Pd Go.Proofs.Ytljhphebljelcaa.Pe

def om (s0 : ByteArray) (s1 : ByteArray) (s2 : ByteArray) : Om := ⟨fun _ => .bool false, fun i => if i = 0 then .int s0.size else if i = 2 then D.ofInts (strE s0) else if i = 10 then .int s1.size else if i = 12 then D.ofInts (strE s1) else if i = 20 then .int s2.size else if i = 22 then D.ofInts (strE s2) else .int 0, F⟩
theorem om_0 (s0 : ByteArray) (s1 : ByteArray) (s2 : ByteArray) : (om s0 s1 s2).d 0 = .int s0.size := rfl
theorem om_2 (s0 : ByteArray) (s1 : ByteArray) (s2 : ByteArray) : (om s0 s1 s2).d 2 = D.ofInts (strE s0) := rfl
theorem om_10 (s0 : ByteArray) (s1 : ByteArray) (s2 : ByteArray) : (om s0 s1 s2).d 10 = .int s1.size := rfl
theorem om_12 (s0 : ByteArray) (s1 : ByteArray) (s2 : ByteArray) : (om s0 s1 s2).d 12 = D.ofInts (strE s1) := rfl
theorem om_20 (s0 : ByteArray) (s1 : ByteArray) (s2 : ByteArray) : (om s0 s1 s2).d 20 = .int s2.size := rfl
theorem om_22 (s0 : ByteArray) (s1 : ByteArray) (s2 : ByteArray) : (om s0 s1 s2).d 22 = D.ofInts (strE s2) := rfl
theorem om_f (s0 : ByteArray) (s1 : ByteArray) (s2 : ByteArray) : (om s0 s1 s2).f = F := rfl
theorem one_not {b : Bool} : (if b = true then (1 : Int) else 0) ≠ 1 ↔ ¬ b = true := by cases b <;> simp
theorem und_not {s d : List Int} (h : undF s d = true) : s ≠ d := by
 obtain ⟨_, _, m, e⟩ := und_iff.1 h
 intro g
 have := congrArg List.length e
 rw [List.length_append, List.length_cons, g] at this
 omega

abbrev as0 : Q × Bool := ((.fit .i64 (.var 0)), true)
abbrev as1 : Q × Bool := ((.le (.var 0) (.int 300)), false)
def c_t0 : List (Q × Bool) := [as0, as1]
set_option maxRecDepth 100000 in
theorem c_y0 : yesOf Try.prog (knownV (tellA c_t0) tabU specsU oversU) 8000 80 7 [.sstr (.var 0) (.var 2), .sstr (.var 10) (.var 12), .sstr (.var 20) (.var 22)] (globSt g0) = true := by kernel_rfl
abbrev as2 : Q × Bool := ((.le (.var 0) (.int 300)), true)
abbrev as3 : Q × Bool := ((.fit .i64 (.var 10)), true)
abbrev as4 : Q × Bool := ((.le (.var 10) (.int 300)), false)
def c_t1 : List (Q × Bool) := [as0, as2, as3, as4]
set_option maxRecDepth 100000 in
theorem c_y1 : yesOf Try.prog (knownV (tellA c_t1) tabU specsU oversU) 8000 80 7 [.sstr (.var 0) (.var 2), .sstr (.var 10) (.var 12), .sstr (.var 20) (.var 22)] (globSt g0) = true := by kernel_rfl
abbrev as5 : Q × Bool := ((.le (.var 10) (.int 300)), true)
abbrev as6 : Q × Bool := ((.fit .i64 (.var 20)), true)
abbrev as7 : Q × Bool := ((.le (.var 20) (.int 300)), false)
def c_t2 : List (Q × Bool) := [as0, as2, as3, as5, as6, as7]
set_option maxRecDepth 100000 in
theorem c_y2 : yesOf Try.prog (knownV (tellA c_t2) tabU specsU oversU) 8000 80 7 [.sstr (.var 0) (.var 2), .sstr (.var 10) (.var 12), .sstr (.var 20) (.var 22)] (globSt g0) = true := by kernel_rfl
abbrev as8 : Q × Bool := ((.le (.var 20) (.int 300)), true)
abbrev as9 : Q × Bool := ((.le (.var 0) (.int 100000000000000)), true)
abbrev as10 : Q × Bool := ((.eq (.fn 56 (.bi .pair (.var 2) (.int 0))) (.int 1)), false)
abbrev as11 : Q × Bool := ((.le (.var 10) (.int 100000000000000)), true)
abbrev as12 : Q × Bool := ((.eq (.fn 53 (.bi .pair (.var 2) (.bi .pair (.var 12) (.int 0)))) (.int 1)), false)
def c_t3 : List (Q × Bool) := [as0, as2, as3, as5, as6, as8, as9, as10, as11, as12]
set_option maxRecDepth 100000 in
theorem c_y3 : yesOf Try.prog (knownV (tellA c_t3) tabU specsU oversU) 8000 80 7 [.sstr (.var 0) (.var 2), .sstr (.var 10) (.var 12), .sstr (.var 20) (.var 22)] (globSt g0) = true := by kernel_rfl
abbrev as13 : Q × Bool := ((.eq (.fn 56 (.bi .pair (.var 2) (.int 0))) (.int 1)), true)
abbrev as14 : Q × Bool := ((.le (.fn 42 (.bi .pair (.var 2) (.int 0))) (.int 100000000000000)), true)
abbrev as15 : Q × Bool := ((.eq (.fn 53 (.bi .pair (.var 2) (.bi .pair (.tr .cut (.var 2) (.int 0) (.fn 42 (.bi .pair (.var 2) (.int 0)))) (.int 0)))) (.int 1)), true)
abbrev as16 : Q × Bool := ((.eq (.fn 52 (.bi .pair (.tr .cut (.var 2) (.int 0) (.fn 42 (.bi .pair (.var 2) (.int 0)))) (.bi .pair (.var 2) (.int 0)))) (.int (-1))), true)
abbrev as17 : Q × Bool := ((.eq (.fn 53 (.bi .pair (.tr .cut (.var 2) (.int 0) (.fn 42 (.bi .pair (.var 2) (.int 0)))) (.bi .pair (.var 12) (.int 0)))) (.int 1)), false)
def c_t4 : List (Q × Bool) := [as0, as2, as3, as5, as6, as8, as9, as13, as14, as15, as16, as11, as17, as12]
set_option maxRecDepth 100000 in
theorem c_y4 : yesOf Try.prog (knownV (tellA c_t4) tabU specsU oversU) 8000 80 7 [.sstr (.var 0) (.var 2), .sstr (.var 10) (.var 12), .sstr (.var 20) (.var 22)] (globSt g0) = true := by kernel_rfl
abbrev as18 : Q × Bool := ((.eq (.fn 53 (.bi .pair (.var 2) (.bi .pair (.var 12) (.int 0)))) (.int 1)), true)
abbrev as19 : Q × Bool := ((.eq (.fn 52 (.bi .pair (.var 12) (.bi .pair (.var 2) (.int 0)))) (.int (-1))), true)
abbrev as20 : Q × Bool := ((.eq (.fn 53 (.bi .pair (.var 12) (.bi .pair (.var 2) (.int 0)))) (.int 1)), false)
abbrev as21 : Q × Bool := ((.same (.tr .cut (.var 2) (.int 0) (.fn 42 (.bi .pair (.var 2) (.int 0)))) (.var 12)), true)
abbrev as22 : Q × Bool := ((.le (.var 20) (.int 100000000000000)), true)
abbrev as23 : Q × Bool := ((.eq (.fn 45 (.bi .pair (.var 22) (.int 0))) (.int 0)), false)
def c_t5 : List (Q × Bool) := [as0, as2, as3, as5, as6, as8, as9, as13, as14, as15, as16, as11, as17, as18, as19, as20, as21, as22, as23]
set_option maxRecDepth 100000 in
theorem c_y5 : yesOf Try.prog (knownV (tellA c_t5) tabU specsU oversU) 8000 80 7 [.sstr (.var 0) (.var 2), .sstr (.var 10) (.var 12), .sstr (.var 20) (.var 22)] (globSt g0) = true := by kernel_rfl
abbrev as24 : Q × Bool := ((.eq (.fn 45 (.bi .pair (.var 22) (.int 0))) (.int 0)), true)
abbrev as25 : Q × Bool := ((.eq (.fn 53 (.bi .pair (.var 22) (.bi .pair (.var 12) (.int 0)))) (.int 1)), true)
def c_t6 : List (Q × Bool) := [as0, as2, as3, as5, as6, as8, as9, as13, as14, as15, as16, as11, as17, as18, as19, as20, as21, as22, as24, as25]
set_option maxRecDepth 100000 in
theorem c_y6 : yesOf Try.prog (knownV (tellA c_t6) tabU specsU oversU) 8000 80 7 [.sstr (.var 0) (.var 2), .sstr (.var 10) (.var 12), .sstr (.var 20) (.var 22)] (globSt g0) = true := by kernel_rfl
abbrev as26 : Q × Bool := ((.eq (.fn 53 (.bi .pair (.var 22) (.bi .pair (.var 12) (.int 0)))) (.int 1)), false)
abbrev as27 : Q × Bool := ((.le (.fn 52 (.bi .pair (.var 22) (.bi .pair (.var 12) (.int 0)))) (.int 0)), true)
def c_t7 : List (Q × Bool) := [as0, as2, as3, as5, as6, as8, as9, as13, as14, as15, as16, as11, as17, as18, as19, as20, as21, as22, as24, as26, as27]
set_option maxRecDepth 100000 in
theorem c_y7 : yesOf Try.prog (knownV (tellA c_t7) tabU specsU oversU) 8000 80 7 [.sstr (.var 0) (.var 2), .sstr (.var 10) (.var 12), .sstr (.var 20) (.var 22)] (globSt g0) = true := by kernel_rfl
abbrev as28 : Q × Bool := ((.le (.fn 52 (.bi .pair (.var 22) (.bi .pair (.var 12) (.int 0)))) (.int 0)), false)
abbrev as29 : Q × Bool := ((.eq (.fn 52 (.bi .pair (.var 22) (.bi .pair (.var 2) (.int 0)))) (.int 1)), true)
def c_t8 : List (Q × Bool) := [as0, as2, as3, as5, as6, as8, as9, as13, as14, as15, as16, as11, as17, as18, as19, as20, as21, as22, as24, as26, as28, as29]
set_option maxRecDepth 100000 in
theorem c_y8 : yesOf Try.prog (knownV (tellA c_t8) tabU specsU oversU) 8000 80 7 [.sstr (.var 0) (.var 2), .sstr (.var 10) (.var 12), .sstr (.var 20) (.var 22)] (globSt g0) = true := by kernel_rfl
abbrev as30 : Q × Bool := ((.eq (.fn 53 (.bi .pair (.tr .cut (.var 2) (.int 0) (.fn 42 (.bi .pair (.var 2) (.int 0)))) (.bi .pair (.var 12) (.int 0)))) (.int 1)), true)
abbrev as31 : Q × Bool := ((.same (.tr .cut (.var 2) (.int 0) (.fn 42 (.bi .pair (.var 2) (.int 0)))) (.var 12)), false)
def c_t9 : List (Q × Bool) := [as0, as2, as3, as5, as6, as8, as9, as13, as14, as15, as16, as11, as30, as18, as19, as20, as31, as22, as23]
set_option maxRecDepth 100000 in
theorem c_y9 : yesOf Try.prog (knownV (tellA c_t9) tabU specsU oversU) 8000 80 7 [.sstr (.var 0) (.var 2), .sstr (.var 10) (.var 12), .sstr (.var 20) (.var 22)] (globSt g0) = true := by kernel_rfl
def c_t10 : List (Q × Bool) := [as0, as2, as3, as5, as6, as8, as9, as13, as14, as15, as16, as11, as30, as18, as19, as20, as31, as22, as24, as25]
set_option maxRecDepth 100000 in
theorem c_y10 : yesOf Try.prog (knownV (tellA c_t10) tabU specsU oversU) 8000 80 7 [.sstr (.var 0) (.var 2), .sstr (.var 10) (.var 12), .sstr (.var 20) (.var 22)] (globSt g0) = true := by kernel_rfl
def c_t11 : List (Q × Bool) := [as0, as2, as3, as5, as6, as8, as9, as13, as14, as15, as16, as11, as30, as18, as19, as20, as31, as22, as24, as26, as27]
set_option maxRecDepth 100000 in
theorem c_y11 : yesOf Try.prog (knownV (tellA c_t11) tabU specsU oversU) 8000 80 7 [.sstr (.var 0) (.var 2), .sstr (.var 10) (.var 12), .sstr (.var 20) (.var 22)] (globSt g0) = true := by kernel_rfl
def c_t12 : List (Q × Bool) := [as0, as2, as3, as5, as6, as8, as9, as13, as14, as15, as16, as11, as30, as18, as19, as20, as31, as22, as24, as26, as28, as29]
set_option maxRecDepth 100000 in
theorem c_y12 : yesOf Try.prog (knownV (tellA c_t12) tabU specsU oversU) 8000 80 7 [.sstr (.var 0) (.var 2), .sstr (.var 10) (.var 12), .sstr (.var 20) (.var 22)] (globSt g0) = true := by kernel_rfl
set_option maxRecDepth 100000 in
set_option maxHeartbeats 6000000 in
theorem c_walk {W : World} {s0 : ByteArray} (max0 : s0.size ≤ 9223372036854775807) {s1 : ByteArray} (max1 : s1.size ≤ 9223372036854775807) {s2 : ByteArray} (max2 : s2.size ≤ 9223372036854775807) (hG : GlobsR (om s0 s1 s2) W g0) : Calls Try.prog 7 #[.string s0, .string s1, .string s2] W fun e w' => e = .returned (.bool true) ∧ Below W.heap.size W w' := by
 have r0 := Rel.globs (om s0 s1 s2) W g0 hG
 have hargs : VRs (Env.none (om s0 s1 s2) W) [.sstr (.var 0) (.var 2), .sstr (.var 10) (.var 12), .sstr (.var 20) (.var 22)] [.string s0, .string s1, .string s2] := VRs_cons (vr_str (l := 0) (x := 2) (by rw [r0.opq]; rfl) (by rw [r0.opq]; rfl)) (VRs_cons (vr_str (l := 10) (x := 12) (by rw [r0.opq]; rfl) (by rw [r0.opq]; rfl)) (VRs_cons (vr_str (l := 20) (x := 22) (by rw [r0.opq]; rfl) (by rw [r0.opq]; rfl)) (VRs_nil)))
 have zl0 := strE_length s0
 have rng0 := strE_in s0
 have zl1 := strE_length s1
 have rng1 := strE_in s1
 have zl2 := strE_length s2
 have rng2 := strE_in s2
 have hl := last_in (strE s0)
 by_cases n0 : 300 < s0.size
 ·refine calls_of_yesV sound tabU_ok specsU_ok oversU_ok c_y0 rfl (tellA_ok (allTold'_iff.1 ?_)) r0 hargs
  simp only [c_t0, om_0, om_2, om_10, om_12, om_20, om_22, om_f, F40, F42, F45, F52, F53, F56, one_iff, one_not, show Int.toNat 0 = 0 from rfl, List.drop_zero, ints_take, allTold', dutiesTold, factsA, factsC, factsP, factsR, AV.facts, RW.facts, inK, and_true, Q.holds', E.i, E.s, E.n, D.nat, E.den, BO.den, UO.den, TO.den, D.toInt_int, D.toList_list, D.ints_ofInts, i64min, i64max, u8min, u8max, u16min, u16max, u32min, u32max, u64min, u64max, i32min, i32max, Om.sub, selI, ints_app, ints_cut, ints_upd, ints_rep, ints_splice, ints_seg, len_ints]
  and_intros <;> first | assumption | omega
 by_cases n1 : 300 < s1.size
 ·refine calls_of_yesV sound tabU_ok specsU_ok oversU_ok c_y1 rfl (tellA_ok (allTold'_iff.1 ?_)) r0 hargs
  simp only [c_t1, om_0, om_2, om_10, om_12, om_20, om_22, om_f, F40, F42, F45, F52, F53, F56, one_iff, one_not, show Int.toNat 0 = 0 from rfl, List.drop_zero, ints_take, allTold', dutiesTold, factsA, factsC, factsP, factsR, AV.facts, RW.facts, inK, and_true, Q.holds', E.i, E.s, E.n, D.nat, E.den, BO.den, UO.den, TO.den, D.toInt_int, D.toList_list, D.ints_ofInts, i64min, i64max, u8min, u8max, u16min, u16max, u32min, u32max, u64min, u64max, i32min, i32max, Om.sub, selI, ints_app, ints_cut, ints_upd, ints_rep, ints_splice, ints_seg, len_ints]
  and_intros <;> first | assumption | omega
 by_cases n2 : 300 < s2.size
 ·refine calls_of_yesV sound tabU_ok specsU_ok oversU_ok c_y2 rfl (tellA_ok (allTold'_iff.1 ?_)) r0 hargs
  simp only [c_t2, om_0, om_2, om_10, om_12, om_20, om_22, om_f, F40, F42, F45, F52, F53, F56, one_iff, one_not, show Int.toNat 0 = 0 from rfl, List.drop_zero, ints_take, allTold', dutiesTold, factsA, factsC, factsP, factsR, AV.facts, RW.facts, inK, and_true, Q.holds', E.i, E.s, E.n, D.nat, E.den, BO.den, UO.den, TO.den, D.toInt_int, D.toList_list, D.ints_ofInts, i64min, i64max, u8min, u8max, u16min, u16max, u32min, u32max, u64min, u64max, i32min, i32max, Om.sub, selI, ints_app, ints_cut, ints_upd, ints_rep, ints_splice, ints_seg, len_ints]
  and_intros <;> first | assumption | omega
 by_cases hp : hasP (strE s0) = true
 ·have hq := hp
  unfold hasP at hq
  rw [Bool.and_eq_true] at hq
  obtain ⟨ok, hk⟩ := hq
  have hk := of_decide_eq_true hk
  obtain ⟨op, up, cp, _⟩ := par_ok ok hk
  unfold parF at op up cp
  by_cases u1 : undF ((strE s0).take (lastI (strE s0)).toNat) (strE s1) = true
  ·have us := und_tran up u1
   obtain ⟨c1, c2, _, _⟩ := und_cmp us
   have c2 := Bool.eq_false_iff.1 c2
   have e := und_not u1
   by_cases v : (checkF (strE s2)).1 = 0
   ·have ov := ok_dec v
    by_cases w : undF (strE s2) (strE s1) = true
    ·refine calls_of_yesV sound tabU_ok specsU_ok oversU_ok c_y10 rfl (tellA_ok (allTold'_iff.1 ?_)) r0 hargs
     simp only [c_t10, om_0, om_2, om_10, om_12, om_20, om_22, om_f, F40, F42, F45, F52, F53, F56, one_iff, one_not, show Int.toNat 0 = 0 from rfl, List.drop_zero, ints_take, allTold', dutiesTold, factsA, factsC, factsP, factsR, AV.facts, RW.facts, inK, and_true, Q.holds', E.i, E.s, E.n, D.nat, E.den, BO.den, UO.den, TO.den, D.toInt_int, D.toList_list, D.ints_ofInts, i64min, i64max, u8min, u8max, u16min, u16max, u32min, u32max, u64min, u64max, i32min, i32max, Om.sub, selI, ints_app, ints_cut, ints_upd, ints_rep, ints_splice, ints_seg, len_ints]
     and_intros <;> first | assumption | omega
    ·by_cases z : cmpT (strE s2) (strE s1) ≤ 0
     ·refine calls_of_yesV sound tabU_ok specsU_ok oversU_ok c_y11 rfl (tellA_ok (allTold'_iff.1 ?_)) r0 hargs
      simp only [c_t11, om_0, om_2, om_10, om_12, om_20, om_22, om_f, F40, F42, F45, F52, F53, F56, one_iff, one_not, show Int.toNat 0 = 0 from rfl, List.drop_zero, ints_take, allTold', dutiesTold, factsA, factsC, factsP, factsR, AV.facts, RW.facts, inK, and_true, Q.holds', E.i, E.s, E.n, D.nat, E.den, BO.den, UO.den, TO.den, D.toInt_int, D.toList_list, D.ints_ofInts, i64min, i64max, u8min, u8max, u16min, u16max, u32min, u32max, u64min, u64max, i32min, i32max, Om.sub, selI, ints_app, ints_cut, ints_upd, ints_rep, ints_splice, ints_seg, len_ints]
      and_intros <;> first | assumption | omega
     ·have y := und_past us ov (Bool.eq_false_iff.2 w) (by omega)
      refine calls_of_yesV sound tabU_ok specsU_ok oversU_ok c_y12 rfl (tellA_ok (allTold'_iff.1 ?_)) r0 hargs
      simp only [c_t12, om_0, om_2, om_10, om_12, om_20, om_22, om_f, F40, F42, F45, F52, F53, F56, one_iff, one_not, show Int.toNat 0 = 0 from rfl, List.drop_zero, ints_take, allTold', dutiesTold, factsA, factsC, factsP, factsR, AV.facts, RW.facts, inK, and_true, Q.holds', E.i, E.s, E.n, D.nat, E.den, BO.den, UO.den, TO.den, D.toInt_int, D.toList_list, D.ints_ofInts, i64min, i64max, u8min, u8max, u16min, u16max, u32min, u32max, u64min, u64max, i32min, i32max, Om.sub, selI, ints_app, ints_cut, ints_upd, ints_rep, ints_splice, ints_seg, len_ints]
      and_intros <;> first | assumption | omega
   ·refine calls_of_yesV sound tabU_ok specsU_ok oversU_ok c_y9 rfl (tellA_ok (allTold'_iff.1 ?_)) r0 hargs
    simp only [c_t9, om_0, om_2, om_10, om_12, om_20, om_22, om_f, F40, F42, F45, F52, F53, F56, one_iff, one_not, show Int.toNat 0 = 0 from rfl, List.drop_zero, ints_take, allTold', dutiesTold, factsA, factsC, factsP, factsR, AV.facts, RW.facts, inK, and_true, Q.holds', E.i, E.s, E.n, D.nat, E.den, BO.den, UO.den, TO.den, D.toInt_int, D.toList_list, D.ints_ofInts, i64min, i64max, u8min, u8max, u16min, u16max, u32min, u32max, u64min, u64max, i32min, i32max, Om.sub, selI, ints_app, ints_cut, ints_upd, ints_rep, ints_splice, ints_seg, len_ints]
    and_intros <;> first | assumption | omega
  ·by_cases us : undF (strE s0) (strE s1) = true
   ·obtain ⟨c1, c2, _, c4⟩ := und_cmp us
    have c2 := Bool.eq_false_iff.1 c2
    unfold parF at c4
    have e := c4.resolve_right u1
    by_cases v : (checkF (strE s2)).1 = 0
    ·have ov := ok_dec v
     by_cases w : undF (strE s2) (strE s1) = true
     ·refine calls_of_yesV sound tabU_ok specsU_ok oversU_ok c_y6 rfl (tellA_ok (allTold'_iff.1 ?_)) r0 hargs
      simp only [c_t6, om_0, om_2, om_10, om_12, om_20, om_22, om_f, F40, F42, F45, F52, F53, F56, one_iff, one_not, show Int.toNat 0 = 0 from rfl, List.drop_zero, ints_take, allTold', dutiesTold, factsA, factsC, factsP, factsR, AV.facts, RW.facts, inK, and_true, Q.holds', E.i, E.s, E.n, D.nat, E.den, BO.den, UO.den, TO.den, D.toInt_int, D.toList_list, D.ints_ofInts, i64min, i64max, u8min, u8max, u16min, u16max, u32min, u32max, u64min, u64max, i32min, i32max, Om.sub, selI, ints_app, ints_cut, ints_upd, ints_rep, ints_splice, ints_seg, len_ints]
      and_intros <;> first | assumption | omega
     ·by_cases z : cmpT (strE s2) (strE s1) ≤ 0
      ·refine calls_of_yesV sound tabU_ok specsU_ok oversU_ok c_y7 rfl (tellA_ok (allTold'_iff.1 ?_)) r0 hargs
       simp only [c_t7, om_0, om_2, om_10, om_12, om_20, om_22, om_f, F40, F42, F45, F52, F53, F56, one_iff, one_not, show Int.toNat 0 = 0 from rfl, List.drop_zero, ints_take, allTold', dutiesTold, factsA, factsC, factsP, factsR, AV.facts, RW.facts, inK, and_true, Q.holds', E.i, E.s, E.n, D.nat, E.den, BO.den, UO.den, TO.den, D.toInt_int, D.toList_list, D.ints_ofInts, i64min, i64max, u8min, u8max, u16min, u16max, u32min, u32max, u64min, u64max, i32min, i32max, Om.sub, selI, ints_app, ints_cut, ints_upd, ints_rep, ints_splice, ints_seg, len_ints]
       and_intros <;> first | assumption | omega
      ·have y := und_past us ov (Bool.eq_false_iff.2 w) (by omega)
       refine calls_of_yesV sound tabU_ok specsU_ok oversU_ok c_y8 rfl (tellA_ok (allTold'_iff.1 ?_)) r0 hargs
       simp only [c_t8, om_0, om_2, om_10, om_12, om_20, om_22, om_f, F40, F42, F45, F52, F53, F56, one_iff, one_not, show Int.toNat 0 = 0 from rfl, List.drop_zero, ints_take, allTold', dutiesTold, factsA, factsC, factsP, factsR, AV.facts, RW.facts, inK, and_true, Q.holds', E.i, E.s, E.n, D.nat, E.den, BO.den, UO.den, TO.den, D.toInt_int, D.toList_list, D.ints_ofInts, i64min, i64max, u8min, u8max, u16min, u16max, u32min, u32max, u64min, u64max, i32min, i32max, Om.sub, selI, ints_app, ints_cut, ints_upd, ints_rep, ints_splice, ints_seg, len_ints]
       and_intros <;> first | assumption | omega
    ·refine calls_of_yesV sound tabU_ok specsU_ok oversU_ok c_y5 rfl (tellA_ok (allTold'_iff.1 ?_)) r0 hargs
     simp only [c_t5, om_0, om_2, om_10, om_12, om_20, om_22, om_f, F40, F42, F45, F52, F53, F56, one_iff, one_not, show Int.toNat 0 = 0 from rfl, List.drop_zero, ints_take, allTold', dutiesTold, factsA, factsC, factsP, factsR, AV.facts, RW.facts, inK, and_true, Q.holds', E.i, E.s, E.n, D.nat, E.den, BO.den, UO.den, TO.den, D.toInt_int, D.toList_list, D.ints_ofInts, i64min, i64max, u8min, u8max, u16min, u16max, u32min, u32max, u64min, u64max, i32min, i32max, Om.sub, selI, ints_app, ints_cut, ints_upd, ints_rep, ints_splice, ints_seg, len_ints]
     and_intros <;> first | assumption | omega
   ·refine calls_of_yesV sound tabU_ok specsU_ok oversU_ok c_y4 rfl (tellA_ok (allTold'_iff.1 ?_)) r0 hargs
    simp only [c_t4, om_0, om_2, om_10, om_12, om_20, om_22, om_f, F40, F42, F45, F52, F53, F56, one_iff, one_not, show Int.toNat 0 = 0 from rfl, List.drop_zero, ints_take, allTold', dutiesTold, factsA, factsC, factsP, factsR, AV.facts, RW.facts, inK, and_true, Q.holds', E.i, E.s, E.n, D.nat, E.den, BO.den, UO.den, TO.den, D.toInt_int, D.toList_list, D.ints_ofInts, i64min, i64max, u8min, u8max, u16min, u16max, u32min, u32max, u64min, u64max, i32min, i32max, Om.sub, selI, ints_app, ints_cut, ints_upd, ints_rep, ints_splice, ints_seg, len_ints]
    and_intros <;> first | assumption | omega
 ·have us : ¬ undF (strE s0) (strE s1) = true := by
   intro h
   have g := (und_cmp h).2.2.1
   have f := (und_iff.1 h).1
   exact hp (by unfold hasP; rw [f, Bool.true_and]; exact decide_eq_true g)
  refine calls_of_yesV sound tabU_ok specsU_ok oversU_ok c_y3 rfl (tellA_ok (allTold'_iff.1 ?_)) r0 hargs
  simp only [c_t3, om_0, om_2, om_10, om_12, om_20, om_22, om_f, F40, F42, F45, F52, F53, F56, one_iff, one_not, show Int.toNat 0 = 0 from rfl, List.drop_zero, ints_take, allTold', dutiesTold, factsA, factsC, factsP, factsR, AV.facts, RW.facts, inK, and_true, Q.holds', E.i, E.s, E.n, D.nat, E.den, BO.den, UO.den, TO.den, D.toInt_int, D.toList_list, D.ints_ofInts, i64min, i64max, u8min, u8max, u16min, u16max, u32min, u32max, u64min, u64max, i32min, i32max, Om.sub, selI, ints_app, ints_cut, ints_upd, ints_rep, ints_splice, ints_seg, len_ints]
  and_intros <;> first | assumption | omega

theorem underStr9 : Try.prog.underlying 9 = some .string := by kernel_rfl

set_option maxRecDepth 100000 in
theorem lifted (os : Os) (started : os.Started) (H : Type) (enc : TypeId × Value → H) :
  ReturnsInHanded {} Try.checked os 7 .any (Rows.pathUnderSpec.pre6 enc Try.prog Try.f7 Rows.pathUnderRow.domain false) (Rows.pathUnderSpec.post enc Try.prog Try.f7 false true false false) := by
 refine returnsInHanded_of_change (C := Try.checked) own started (by kernel_rfl) Try.func7
  (ChangeSpec.witness6 (enc := enc) (C := Try.checked) false ⟨#[], #[.string ByteArray.empty, .string ByteArray.empty, .string ByteArray.empty], []⟩ 8 (by kernel_rfl) (by kernel_rfl) (by kernel_rfl) (by kernel_rfl)) ?_
 intro W base args ds gs before hval0 hW hcnd _
 have hval : ∀ (j : Nat) t v, Try.f7.params[j]? = some t → args[j]? = some v → Value.okWide Try.prog W .any base t v := hval0
 have hW' := hW
 have hlt := hW.lt
 obtain ⟨p, q, hA0, hV, rfl, hfz, hnd⟩ := hW
 have hA : DataW.TrodAll enc Try.prog W 0 (fun _ => true) true Try.f7.params.toList args.toList ds p := hA0
 have hAll := hA
 rw [Try.params7] at hA hval hAll
 obtain ⟨rfl, rfl⟩ := trodVars_none hV
 obtain ⟨pv0, pv1, pv2, d0, d1, d2, p0, p1, p2, rfl, rfl, rfl, h0, h1, h2⟩ := trodAll_three hA
 obtain ⟨s0, rfl, rfl, max0⟩ := in_str underStr9 (hval 0 9 _ rfl rfl) h0
 obtain ⟨s1, rfl, rfl, max1⟩ := in_str underStr9 (hval 1 9 _ rfl rfl) h1
 obtain ⟨s2, rfl, rfl, max2⟩ := in_str underStr9 (hval 2 9 _ rfl rfl) h2
 clear hA0 hval0
 have hcall : Calls Try.prog 7 #[.string s0, .string s1, .string s2] W fun e w' => e = .returned (.bool true) ∧ Below W.heap.size W w' := by
  exact c_walk max0 max1 max2 (globs0 _ W)
 refine hcall.mono fun e W' ⟨he, hg⟩ => ?_
 subst he
 exact ⟨_, rfl, _, [], _, [], _, [], hW', trodAll_cons_mk (shut_bool Try.underlying4 _) trodAll_mk0, trodAll_stays laid hg _ _ _ _ hAll (fun x hx => hlt x (by simp at hx)) (by kernel_rfl), rfl, hg.frame _, fun h => by cases h⟩

theorem over : Rows.pathUnderRow.holds Try.pinned (OpenSpec.ofChange Rows.pathUnderSpec) :=
 OpenClaim.holds_of_wide 7 Try.f7 rfl rfl rfl rfl rfl rfl rfl ⟨rfl, rfl, rfl, rfl, rfl⟩ rfl rfl rfl rfl rfl (by kernel_rfl) Try.func7 (by kernel_rfl)
  (of_decide_eq_true (by kernel_rfl)) (by unfold Func.isWrapper; first | (rw [if_pos (by decide +kernel)]; kernel_rfl) | (rw [if_neg (by decide +kernel)]; exact ⟨rfl, rfl⟩))
  (fun os started H enc _ => lifted os started H enc)

/-- The statement. -/
theorem proved : Rows.PathUnderSaid :=
 over
#print axioms proved
end Go.Proofs.Ytljhphebljelcaa.pathUnder
