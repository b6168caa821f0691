/-
  The law RatioParts of the layer ratio holds of the code: for all inputs the call returns true, and the arguments read as they did. No condition.
-/
import Derived.Test.YtgfaopbifonacaaCo
import Derived.Test.YtgfaopbifonacaaSycp
import Derived.Test.YtgfaopbifonacaaRa
import Derived.Test.YtgfaopbifonacaaRm
import Derived.WalkKit
import Derived.ProofKit
import Derived.OpenShut
set_option linter.unusedSimpArgs false
set_option linter.unusedVariables false
namespace Go.Proofs.Ytgfaopbifonacaa.ratioParts
open Go.ChangeShapes Go.WideShapes Go.ChangeAt Go.RowKit Go.Ev Go.Proofs.Ytgfaopbifonacaa.Co Go.Proofs.Ytgfaopbifonacaa.Ra Go.Proofs.Ytgfaopbifonacaa.Rm

def om (n0 : Int) (n1 : Int) (n2 : Int) : Om := ⟨fun _ => .bool false, fun i => if i = 0 then .int n0 else if i = 10 then .int n1 else if i = 20 then .int n2 else .int 0, F⟩
theorem om_0 (n0 : Int) (n1 : Int) (n2 : Int) : (om n0 n1 n2).d 0 = .int n0 := rfl
theorem om_10 (n0 : Int) (n1 : Int) (n2 : Int) : (om n0 n1 n2).d 10 = .int n1 := rfl
theorem om_20 (n0 : Int) (n1 : Int) (n2 : Int) : (om n0 n1 n2).d 20 = .int n2 := rfl
theorem om_f (n0 : Int) (n1 : Int) (n2 : Int) : (om n0 n1 n2).f = F := rfl
open Go.Flo

abbrev c_q0 : Q := (.le (.int 0) (.var 0))
abbrev c_q1 : Q := (.le (.var 0) (.var 10))
abbrev c_q2 : Q := (.le (.var 10) (.var 20))
abbrev c_q3 : Q := (.le (.int 1) (.var 20))
abbrev c_q4 : Q := (.le (.var 20) (.int 9007199254740992))
abbrev c_q5 : Q := (.le (.int 0) (.bi (.fop .quo) (.un .fof (.var 0)) (.un .fof (.var 20))))
abbrev c_q6 : Q := (.le (.int 0) (.bi (.fop .quo) (.un .fof (.var 10)) (.un .fof (.var 20))))
abbrev c_q7 : Q := (.eq (.bi .fcm (.bi (.fop .quo) (.un .fof (.var 0)) (.un .fof (.var 20))) (.int 0)) (.int 1))
abbrev c_q8 : Q := (.eq (.bi .fcm (.bi (.fop .quo) (.un .fof (.var 0)) (.un .fof (.var 20))) (.int 0)) (.int 0))
abbrev c_q9 : Q := (.eq (.bi .fcm (.bi (.fop .quo) (.un .fof (.var 10)) (.un .fof (.var 20))) (.int 4607182418800017408)) (.int (-1)))
abbrev c_q10 : Q := (.eq (.bi .fcm (.bi (.fop .quo) (.un .fof (.var 10)) (.un .fof (.var 20))) (.int 4607182418800017408)) (.int 0))
abbrev c_q11 : Q := (.eq (.bi .fcm (.bi (.fop .quo) (.un .fof (.var 0)) (.un .fof (.var 20))) (.bi (.fop .quo) (.un .fof (.var 10)) (.un .fof (.var 20)))) (.int (-1)))
abbrev c_q12 : Q := (.eq (.bi .fcm (.bi (.fop .quo) (.un .fof (.var 0)) (.un .fof (.var 20))) (.bi (.fop .quo) (.un .fof (.var 10)) (.un .fof (.var 20)))) (.int 0))
abbrev c_q13 : Q := (.eq (.bi .fcm (.bi (.fop .quo) (.un .fof (.var 0)) (.un .fof (.var 20))) (.bi (.fop .quo) (.un .fof (.var 0)) (.un .fof (.var 20)))) (.int 0))
abbrev c_q14 : Q := (.eq (.bi .fcm (.bi (.fop .quo) (.un .fof (.var 10)) (.un .fof (.var 20))) (.bi (.fop .quo) (.un .fof (.var 10)) (.un .fof (.var 20)))) (.int 0))
abbrev c_q15 : Q := (.eq (.bi .fcm (.bi (.fop .quo) (.un .fof (.var 0)) (.un .fof (.var 20))) (.bi (.fop .quo) (.un .fof (.var 10)) (.un .fof (.var 20)))) (.int 1))
abbrev c_q16 : Q := (.eq (.var 0) (.int 0))
abbrev c_q17 : Q := (.eq (.var 0) (.var 20))
abbrev c_q18 : Q := (.eq (.bi .fcm (.bi (.fop .quo) (.un .fof (.var 0)) (.un .fof (.var 20))) (.int 4607182418800017408)) (.int 0))
abbrev c_u0 : List (Q × Bool) := [(c_q0, false)]
set_option maxRecDepth 100000 in
theorem c_y0 : yesOf Try.prog (knownV (tellA c_u0) tab specs overs) 8000 80 3 [.sint .i64 (.var 0), .sint .i64 (.var 10), .sint .i64 (.var 20)] (globSt g0) = true := by kernel_rfl
abbrev c_u1 : List (Q × Bool) := [(c_q0, true), (c_q1, false)]
set_option maxRecDepth 100000 in
theorem c_y1 : yesOf Try.prog (knownV (tellA c_u1) tab specs overs) 8000 80 3 [.sint .i64 (.var 0), .sint .i64 (.var 10), .sint .i64 (.var 20)] (globSt g0) = true := by kernel_rfl
abbrev c_u2 : List (Q × Bool) := [(c_q0, true), (c_q1, true), (c_q2, false)]
set_option maxRecDepth 100000 in
theorem c_y2 : yesOf Try.prog (knownV (tellA c_u2) tab specs overs) 8000 80 3 [.sint .i64 (.var 0), .sint .i64 (.var 10), .sint .i64 (.var 20)] (globSt g0) = true := by kernel_rfl
abbrev c_u3 : List (Q × Bool) := [(c_q0, true), (c_q1, true), (c_q2, true), (c_q3, false)]
set_option maxRecDepth 100000 in
theorem c_y3 : yesOf Try.prog (knownV (tellA c_u3) tab specs overs) 8000 80 3 [.sint .i64 (.var 0), .sint .i64 (.var 10), .sint .i64 (.var 20)] (globSt g0) = true := by kernel_rfl
abbrev c_u4 : List (Q × Bool) := [(c_q0, true), (c_q1, true), (c_q2, true), (c_q3, true), (c_q4, false)]
set_option maxRecDepth 100000 in
theorem c_y4 : yesOf Try.prog (knownV (tellA c_u4) tab specs overs) 8000 80 3 [.sint .i64 (.var 0), .sint .i64 (.var 10), .sint .i64 (.var 20)] (globSt g0) = true := by kernel_rfl
abbrev c_u5 : List (Q × Bool) := [(c_q0, true), (c_q1, true), (c_q2, true), (c_q3, true), (c_q4, true), (c_q5, true), (c_q6, true), (c_q7, true), (c_q8, false), (c_q9, true), (c_q10, false), (c_q11, true), (c_q12, false), (c_q13, true), (c_q14, true), (c_q15, false), (c_q16, false), (c_q17, false)]
set_option maxRecDepth 100000 in
theorem c_y5 : yesOf Try.prog (knownV (tellA c_u5) tab specs overs) 8000 80 3 [.sint .i64 (.var 0), .sint .i64 (.var 10), .sint .i64 (.var 20)] (globSt g0) = true := by kernel_rfl
abbrev c_u6 : List (Q × Bool) := [(c_q0, true), (c_q1, true), (c_q2, true), (c_q3, true), (c_q4, true), (c_q5, true), (c_q6, true), (c_q7, false), (c_q8, true), (c_q9, true), (c_q10, false), (c_q11, false), (c_q12, true), (c_q13, true), (c_q14, true), (c_q15, false), (c_q16, true), (c_q17, false)]
set_option maxRecDepth 100000 in
theorem c_y6 : yesOf Try.prog (knownV (tellA c_u6) tab specs overs) 8000 80 3 [.sint .i64 (.var 0), .sint .i64 (.var 10), .sint .i64 (.var 20)] (globSt g0) = true := by kernel_rfl
abbrev c_u7 : List (Q × Bool) := [(c_q0, true), (c_q1, true), (c_q2, true), (c_q3, true), (c_q4, true), (c_q5, true), (c_q6, true), (c_q7, false), (c_q8, true), (c_q9, false), (c_q10, true), (c_q11, true), (c_q12, false), (c_q13, true), (c_q14, true), (c_q15, false), (c_q16, true), (c_q17, false)]
set_option maxRecDepth 100000 in
theorem c_y7 : yesOf Try.prog (knownV (tellA c_u7) tab specs overs) 8000 80 3 [.sint .i64 (.var 0), .sint .i64 (.var 10), .sint .i64 (.var 20)] (globSt g0) = true := by kernel_rfl
abbrev c_u8 : List (Q × Bool) := [(c_q0, true), (c_q1, true), (c_q2, true), (c_q3, true), (c_q4, true), (c_q5, true), (c_q6, true), (c_q7, true), (c_q8, false), (c_q9, false), (c_q10, true), (c_q11, false), (c_q12, true), (c_q13, true), (c_q14, true), (c_q15, false), (c_q16, false), (c_q17, true), (c_q18, true)]
set_option maxRecDepth 100000 in
theorem c_y8 : yesOf Try.prog (knownV (tellA c_u8) tab specs overs) 8000 80 3 [.sint .i64 (.var 0), .sint .i64 (.var 10), .sint .i64 (.var 20)] (globSt g0) = true := by kernel_rfl
abbrev c_u9 : List (Q × Bool) := [(c_q0, true), (c_q1, true), (c_q2, true), (c_q3, true), (c_q4, true), (c_q5, true), (c_q6, true), (c_q7, false), (c_q8, true), (c_q9, true), (c_q10, false), (c_q11, true), (c_q12, false), (c_q13, true), (c_q14, true), (c_q15, false), (c_q16, true), (c_q17, false)]
set_option maxRecDepth 100000 in
theorem c_y9 : yesOf Try.prog (knownV (tellA c_u9) tab specs overs) 8000 80 3 [.sint .i64 (.var 0), .sint .i64 (.var 10), .sint .i64 (.var 20)] (globSt g0) = true := by kernel_rfl
abbrev c_u10 : List (Q × Bool) := [(c_q0, true), (c_q1, true), (c_q2, true), (c_q3, true), (c_q4, true), (c_q5, true), (c_q6, true), (c_q7, true), (c_q8, false), (c_q9, true), (c_q10, false), (c_q11, false), (c_q12, true), (c_q13, true), (c_q14, true), (c_q15, false), (c_q16, false), (c_q17, false)]
set_option maxRecDepth 100000 in
theorem c_y10 : yesOf Try.prog (knownV (tellA c_u10) tab specs overs) 8000 80 3 [.sint .i64 (.var 0), .sint .i64 (.var 10), .sint .i64 (.var 20)] (globSt g0) = true := by kernel_rfl
abbrev c_u11 : List (Q × Bool) := [(c_q0, true), (c_q1, true), (c_q2, true), (c_q3, true), (c_q4, true), (c_q5, true), (c_q6, true), (c_q7, true), (c_q8, false), (c_q9, false), (c_q10, true), (c_q11, true), (c_q12, false), (c_q13, true), (c_q14, true), (c_q15, false), (c_q16, false), (c_q17, false)]
set_option maxRecDepth 100000 in
theorem c_y11 : yesOf Try.prog (knownV (tellA c_u11) tab specs overs) 8000 80 3 [.sint .i64 (.var 0), .sint .i64 (.var 10), .sint .i64 (.var 20)] (globSt g0) = true := by kernel_rfl
set_option maxRecDepth 100000 in
set_option maxHeartbeats 6000000 in
theorem c_walk {W : World} {n0 : Int} (hn0 : inK .i64 n0) {n1 : Int} (hn1 : inK .i64 n1) {n2 : Int} (hn2 : inK .i64 n2) (hG : GlobsR (om n0 n1 n2) W g0) : Calls Try.prog 3 #[.int .i64 n0, .int .i64 n1, .int .i64 n2] W fun e w' => e = .returned (.bool true) ∧ Below W.heap.size W w' := by
  have r0 := Rel.globs (om n0 n1 n2) W g0 hG
  have hargs : VRs (Env.none (om n0 n1 n2)) [.sint .i64 (.var 0), .sint .i64 (.var 10), .sint .i64 (.var 20)] [.int .i64 n0, .int .i64 n1, .int .i64 n2] := VRs_cons (vr_sint (i := 0) hn0 (by rw [r0.opq]; rfl)) (VRs_cons (vr_sint (i := 10) hn1 (by rw [r0.opq]; rfl)) (VRs_cons (vr_sint (i := 20) hn2 (by rw [r0.opq]; rfl)) (VRs_nil)))
  simp only [inK, i64min, i64max, u8min, u8max, u32min, u32max, u64min, u64max] at hn0
  simp only [inK, i64min, i64max, u8min, u8max, u32min, u32max, u64min, u64max] at hn1
  simp only [inK, i64min, i64max, u8min, u8max, u32min, u32max, u64min, u64max] at hn2
  cases h0 : Q.val (om n0 n1 n2) c_q0
  · have p0 := (Q.holds'_iff _ _ _).2 h0
    simp only [c_q0, om_0, om_10, om_20, om_f, allTold', dutiesTold, factsA, factsC, factsP, factsR, AV.facts, RW.facts, inK, and_true, Q.holds', E.i, E.s, E.n, D.nat, E.den, BO.den, UO.den, TO.den, D.toInt_int, D.toList_list, D.ints_ofInts, i64min, i64max, u8min, u8max, u16min, u16max, u32min, u32max, u64min, u64max, i32min, i32max, Om.sub, selI, ints_app, ints_cut, ints_upd, ints_rep, ints_splice, ints_seg, len_ints] at p0
    exact calls_of_yesV sound tab_ok specs_ok overs_ok c_y0 rfl (tellA_ok (told_cons h0 told_nil)) r0 hargs
  · have p0 := (Q.holds'_iff _ _ _).2 h0
    simp only [c_q0, om_0, om_10, om_20, om_f, allTold', dutiesTold, factsA, factsC, factsP, factsR, AV.facts, RW.facts, inK, and_true, Q.holds', E.i, E.s, E.n, D.nat, E.den, BO.den, UO.den, TO.den, D.toInt_int, D.toList_list, D.ints_ofInts, i64min, i64max, u8min, u8max, u16min, u16max, u32min, u32max, u64min, u64max, i32min, i32max, Om.sub, selI, ints_app, ints_cut, ints_upd, ints_rep, ints_splice, ints_seg, len_ints] at p0
    cases h1 : Q.val (om n0 n1 n2) c_q1
    · have p1 := (Q.holds'_iff _ _ _).2 h1
      simp only [c_q1, om_0, om_10, om_20, om_f, allTold', dutiesTold, factsA, factsC, factsP, factsR, AV.facts, RW.facts, inK, and_true, Q.holds', E.i, E.s, E.n, D.nat, E.den, BO.den, UO.den, TO.den, D.toInt_int, D.toList_list, D.ints_ofInts, i64min, i64max, u8min, u8max, u16min, u16max, u32min, u32max, u64min, u64max, i32min, i32max, Om.sub, selI, ints_app, ints_cut, ints_upd, ints_rep, ints_splice, ints_seg, len_ints] at p1
      exact calls_of_yesV sound tab_ok specs_ok overs_ok c_y1 rfl (tellA_ok (told_cons h0 (told_cons h1 told_nil))) r0 hargs
    · have p1 := (Q.holds'_iff _ _ _).2 h1
      simp only [c_q1, om_0, om_10, om_20, om_f, allTold', dutiesTold, factsA, factsC, factsP, factsR, AV.facts, RW.facts, inK, and_true, Q.holds', E.i, E.s, E.n, D.nat, E.den, BO.den, UO.den, TO.den, D.toInt_int, D.toList_list, D.ints_ofInts, i64min, i64max, u8min, u8max, u16min, u16max, u32min, u32max, u64min, u64max, i32min, i32max, Om.sub, selI, ints_app, ints_cut, ints_upd, ints_rep, ints_splice, ints_seg, len_ints] at p1
      cases h2 : Q.val (om n0 n1 n2) c_q2
      · have p2 := (Q.holds'_iff _ _ _).2 h2
        simp only [c_q2, om_0, om_10, om_20, om_f, allTold', dutiesTold, factsA, factsC, factsP, factsR, AV.facts, RW.facts, inK, and_true, Q.holds', E.i, E.s, E.n, D.nat, E.den, BO.den, UO.den, TO.den, D.toInt_int, D.toList_list, D.ints_ofInts, i64min, i64max, u8min, u8max, u16min, u16max, u32min, u32max, u64min, u64max, i32min, i32max, Om.sub, selI, ints_app, ints_cut, ints_upd, ints_rep, ints_splice, ints_seg, len_ints] at p2
        exact calls_of_yesV sound tab_ok specs_ok overs_ok c_y2 rfl (tellA_ok (told_cons h0 (told_cons h1 (told_cons h2 told_nil)))) r0 hargs
      · have p2 := (Q.holds'_iff _ _ _).2 h2
        simp only [c_q2, om_0, om_10, om_20, om_f, allTold', dutiesTold, factsA, factsC, factsP, factsR, AV.facts, RW.facts, inK, and_true, Q.holds', E.i, E.s, E.n, D.nat, E.den, BO.den, UO.den, TO.den, D.toInt_int, D.toList_list, D.ints_ofInts, i64min, i64max, u8min, u8max, u16min, u16max, u32min, u32max, u64min, u64max, i32min, i32max, Om.sub, selI, ints_app, ints_cut, ints_upd, ints_rep, ints_splice, ints_seg, len_ints] at p2
        cases h3 : Q.val (om n0 n1 n2) c_q3
        · have p3 := (Q.holds'_iff _ _ _).2 h3
          simp only [c_q3, om_0, om_10, om_20, om_f, allTold', dutiesTold, factsA, factsC, factsP, factsR, AV.facts, RW.facts, inK, and_true, Q.holds', E.i, E.s, E.n, D.nat, E.den, BO.den, UO.den, TO.den, D.toInt_int, D.toList_list, D.ints_ofInts, i64min, i64max, u8min, u8max, u16min, u16max, u32min, u32max, u64min, u64max, i32min, i32max, Om.sub, selI, ints_app, ints_cut, ints_upd, ints_rep, ints_splice, ints_seg, len_ints] at p3
          exact calls_of_yesV sound tab_ok specs_ok overs_ok c_y3 rfl (tellA_ok (told_cons h0 (told_cons h1 (told_cons h2 (told_cons h3 told_nil))))) r0 hargs
        · have p3 := (Q.holds'_iff _ _ _).2 h3
          simp only [c_q3, om_0, om_10, om_20, om_f, allTold', dutiesTold, factsA, factsC, factsP, factsR, AV.facts, RW.facts, inK, and_true, Q.holds', E.i, E.s, E.n, D.nat, E.den, BO.den, UO.den, TO.den, D.toInt_int, D.toList_list, D.ints_ofInts, i64min, i64max, u8min, u8max, u16min, u16max, u32min, u32max, u64min, u64max, i32min, i32max, Om.sub, selI, ints_app, ints_cut, ints_upd, ints_rep, ints_splice, ints_seg, len_ints] at p3
          cases h4 : Q.val (om n0 n1 n2) c_q4
          · have p4 := (Q.holds'_iff _ _ _).2 h4
            simp only [c_q4, om_0, om_10, om_20, om_f, allTold', dutiesTold, factsA, factsC, factsP, factsR, AV.facts, RW.facts, inK, and_true, Q.holds', E.i, E.s, E.n, D.nat, E.den, BO.den, UO.den, TO.den, D.toInt_int, D.toList_list, D.ints_ofInts, i64min, i64max, u8min, u8max, u16min, u16max, u32min, u32max, u64min, u64max, i32min, i32max, Om.sub, selI, ints_app, ints_cut, ints_upd, ints_rep, ints_splice, ints_seg, len_ints] at p4
            exact calls_of_yesV sound tab_ok specs_ok overs_ok c_y4 rfl (tellA_ok (told_cons h0 (told_cons h1 (told_cons h2 (told_cons h3 (told_cons h4 told_nil)))))) r0 hargs
          · have p4 := (Q.holds'_iff _ _ _).2 h4
            simp only [c_q4, om_0, om_10, om_20, om_f, allTold', dutiesTold, factsA, factsC, factsP, factsR, AV.facts, RW.facts, inK, and_true, Q.holds', E.i, E.s, E.n, D.nat, E.den, BO.den, UO.den, TO.den, D.toInt_int, D.toList_list, D.ints_ofInts, i64min, i64max, u8min, u8max, u16min, u16max, u32min, u32max, u64min, u64max, i32min, i32max, Om.sub, selI, ints_app, ints_cut, ints_upd, ints_rep, ints_splice, ints_seg, len_ints] at p4
            have h5 : Q.val (om n0 n1 n2) c_q5 = true := (Q.holds'_iff _ _ _).1 (by
              simp only [c_q5, om_0, om_10, om_20, om_f, allTold', dutiesTold, factsA, factsC, factsP, factsR, AV.facts, RW.facts, inK, and_true, Q.holds', E.i, E.s, E.n, D.nat, E.den, BO.den, UO.den, TO.den, D.toInt_int, D.toList_list, D.ints_ofInts, i64min, i64max, u8min, u8max, u16min, u16max, u32min, u32max, u64min, u64max, i32min, i32max, Om.sub, selI, ints_app, ints_cut, ints_upd, ints_rep, ints_splice, ints_seg, len_ints]
              all_goals (first | omega | (obtain ⟨k1, k2, k3, k4, k5, k6, k7, k8, k9, k10, k11, k12, k13⟩ := parts_ok (n := n0) (m := n1) (f := n2) (by omega) (by omega) (by omega) (by omega) (by omega); omega)))
            have p5 := (Q.holds'_iff _ _ _).2 h5
            try (
              simp only [c_q5, om_0, om_10, om_20, om_f, allTold', dutiesTold, factsA, factsC, factsP, factsR, AV.facts, RW.facts, inK, and_true, Q.holds', E.i, E.s, E.n, D.nat, E.den, BO.den, UO.den, TO.den, D.toInt_int, D.toList_list, D.ints_ofInts, i64min, i64max, u8min, u8max, u16min, u16max, u32min, u32max, u64min, u64max, i32min, i32max, Om.sub, selI, ints_app, ints_cut, ints_upd, ints_rep, ints_splice, ints_seg, len_ints] at p5)
            have h6 : Q.val (om n0 n1 n2) c_q6 = true := (Q.holds'_iff _ _ _).1 (by
              simp only [c_q6, om_0, om_10, om_20, om_f, allTold', dutiesTold, factsA, factsC, factsP, factsR, AV.facts, RW.facts, inK, and_true, Q.holds', E.i, E.s, E.n, D.nat, E.den, BO.den, UO.den, TO.den, D.toInt_int, D.toList_list, D.ints_ofInts, i64min, i64max, u8min, u8max, u16min, u16max, u32min, u32max, u64min, u64max, i32min, i32max, Om.sub, selI, ints_app, ints_cut, ints_upd, ints_rep, ints_splice, ints_seg, len_ints]
              all_goals (first | omega | (obtain ⟨k1, k2, k3, k4, k5, k6, k7, k8, k9, k10, k11, k12, k13⟩ := parts_ok (n := n0) (m := n1) (f := n2) (by omega) (by omega) (by omega) (by omega) (by omega); omega)))
            have p6 := (Q.holds'_iff _ _ _).2 h6
            try (
              simp only [c_q6, om_0, om_10, om_20, om_f, allTold', dutiesTold, factsA, factsC, factsP, factsR, AV.facts, RW.facts, inK, and_true, Q.holds', E.i, E.s, E.n, D.nat, E.den, BO.den, UO.den, TO.den, D.toInt_int, D.toList_list, D.ints_ofInts, i64min, i64max, u8min, u8max, u16min, u16max, u32min, u32max, u64min, u64max, i32min, i32max, Om.sub, selI, ints_app, ints_cut, ints_upd, ints_rep, ints_splice, ints_seg, len_ints] at p6)
            cases h7 : Q.val (om n0 n1 n2) c_q7
            · have p7 := (Q.holds'_iff _ _ _).2 h7
              simp only [c_q7, om_0, om_10, om_20, om_f, allTold', dutiesTold, factsA, factsC, factsP, factsR, AV.facts, RW.facts, inK, and_true, Q.holds', E.i, E.s, E.n, D.nat, E.den, BO.den, UO.den, TO.den, D.toInt_int, D.toList_list, D.ints_ofInts, i64min, i64max, u8min, u8max, u16min, u16max, u32min, u32max, u64min, u64max, i32min, i32max, Om.sub, selI, ints_app, ints_cut, ints_upd, ints_rep, ints_splice, ints_seg, len_ints] at p7
              have h8 : Q.val (om n0 n1 n2) c_q8 = true := (Q.holds'_iff _ _ _).1 (by
                simp only [c_q8, om_0, om_10, om_20, om_f, allTold', dutiesTold, factsA, factsC, factsP, factsR, AV.facts, RW.facts, inK, and_true, Q.holds', E.i, E.s, E.n, D.nat, E.den, BO.den, UO.den, TO.den, D.toInt_int, D.toList_list, D.ints_ofInts, i64min, i64max, u8min, u8max, u16min, u16max, u32min, u32max, u64min, u64max, i32min, i32max, Om.sub, selI, ints_app, ints_cut, ints_upd, ints_rep, ints_splice, ints_seg, len_ints]
                all_goals (first | omega | (obtain ⟨k1, k2, k3, k4, k5, k6, k7, k8, k9, k10, k11, k12, k13⟩ := parts_ok (n := n0) (m := n1) (f := n2) (by omega) (by omega) (by omega) (by omega) (by omega); omega)))
              have p8 := (Q.holds'_iff _ _ _).2 h8
              try (
                simp only [c_q8, om_0, om_10, om_20, om_f, allTold', dutiesTold, factsA, factsC, factsP, factsR, AV.facts, RW.facts, inK, and_true, Q.holds', E.i, E.s, E.n, D.nat, E.den, BO.den, UO.den, TO.den, D.toInt_int, D.toList_list, D.ints_ofInts, i64min, i64max, u8min, u8max, u16min, u16max, u32min, u32max, u64min, u64max, i32min, i32max, Om.sub, selI, ints_app, ints_cut, ints_upd, ints_rep, ints_splice, ints_seg, len_ints] at p8)
              cases h9 : Q.val (om n0 n1 n2) c_q9
              · have p9 := (Q.holds'_iff _ _ _).2 h9
                simp only [c_q9, om_0, om_10, om_20, om_f, allTold', dutiesTold, factsA, factsC, factsP, factsR, AV.facts, RW.facts, inK, and_true, Q.holds', E.i, E.s, E.n, D.nat, E.den, BO.den, UO.den, TO.den, D.toInt_int, D.toList_list, D.ints_ofInts, i64min, i64max, u8min, u8max, u16min, u16max, u32min, u32max, u64min, u64max, i32min, i32max, Om.sub, selI, ints_app, ints_cut, ints_upd, ints_rep, ints_splice, ints_seg, len_ints] at p9
                have h10 : Q.val (om n0 n1 n2) c_q10 = true := (Q.holds'_iff _ _ _).1 (by
                  simp only [c_q10, om_0, om_10, om_20, om_f, allTold', dutiesTold, factsA, factsC, factsP, factsR, AV.facts, RW.facts, inK, and_true, Q.holds', E.i, E.s, E.n, D.nat, E.den, BO.den, UO.den, TO.den, D.toInt_int, D.toList_list, D.ints_ofInts, i64min, i64max, u8min, u8max, u16min, u16max, u32min, u32max, u64min, u64max, i32min, i32max, Om.sub, selI, ints_app, ints_cut, ints_upd, ints_rep, ints_splice, ints_seg, len_ints]
                  all_goals (first | omega | (obtain ⟨k1, k2, k3, k4, k5, k6, k7, k8, k9, k10, k11, k12, k13⟩ := parts_ok (n := n0) (m := n1) (f := n2) (by omega) (by omega) (by omega) (by omega) (by omega); omega)))
                have p10 := (Q.holds'_iff _ _ _).2 h10
                try (
                  simp only [c_q10, om_0, om_10, om_20, om_f, allTold', dutiesTold, factsA, factsC, factsP, factsR, AV.facts, RW.facts, inK, and_true, Q.holds', E.i, E.s, E.n, D.nat, E.den, BO.den, UO.den, TO.den, D.toInt_int, D.toList_list, D.ints_ofInts, i64min, i64max, u8min, u8max, u16min, u16max, u32min, u32max, u64min, u64max, i32min, i32max, Om.sub, selI, ints_app, ints_cut, ints_upd, ints_rep, ints_splice, ints_seg, len_ints] at p10)
                have h11 : Q.val (om n0 n1 n2) c_q11 = true := (Q.holds'_iff _ _ _).1 (by
                  simp only [c_q11, om_0, om_10, om_20, om_f, allTold', dutiesTold, factsA, factsC, factsP, factsR, AV.facts, RW.facts, inK, and_true, Q.holds', E.i, E.s, E.n, D.nat, E.den, BO.den, UO.den, TO.den, D.toInt_int, D.toList_list, D.ints_ofInts, i64min, i64max, u8min, u8max, u16min, u16max, u32min, u32max, u64min, u64max, i32min, i32max, Om.sub, selI, ints_app, ints_cut, ints_upd, ints_rep, ints_splice, ints_seg, len_ints]
                  all_goals (first | omega | (obtain ⟨k1, k2, k3, k4, k5, k6, k7, k8, k9, k10, k11, k12, k13⟩ := parts_ok (n := n0) (m := n1) (f := n2) (by omega) (by omega) (by omega) (by omega) (by omega); omega)))
                have p11 := (Q.holds'_iff _ _ _).2 h11
                try (
                  simp only [c_q11, om_0, om_10, om_20, om_f, allTold', dutiesTold, factsA, factsC, factsP, factsR, AV.facts, RW.facts, inK, and_true, Q.holds', E.i, E.s, E.n, D.nat, E.den, BO.den, UO.den, TO.den, D.toInt_int, D.toList_list, D.ints_ofInts, i64min, i64max, u8min, u8max, u16min, u16max, u32min, u32max, u64min, u64max, i32min, i32max, Om.sub, selI, ints_app, ints_cut, ints_upd, ints_rep, ints_splice, ints_seg, len_ints] at p11)
                have h12 : Q.val (om n0 n1 n2) c_q12 = false := (Q.holds'_iff _ _ _).1 (by
                  simp only [c_q12, om_0, om_10, om_20, om_f, allTold', dutiesTold, factsA, factsC, factsP, factsR, AV.facts, RW.facts, inK, and_true, Q.holds', E.i, E.s, E.n, D.nat, E.den, BO.den, UO.den, TO.den, D.toInt_int, D.toList_list, D.ints_ofInts, i64min, i64max, u8min, u8max, u16min, u16max, u32min, u32max, u64min, u64max, i32min, i32max, Om.sub, selI, ints_app, ints_cut, ints_upd, ints_rep, ints_splice, ints_seg, len_ints]
                  all_goals (first | omega | (obtain ⟨k1, k2, k3, k4, k5, k6, k7, k8, k9, k10, k11, k12, k13⟩ := parts_ok (n := n0) (m := n1) (f := n2) (by omega) (by omega) (by omega) (by omega) (by omega); omega)))
                have p12 := (Q.holds'_iff _ _ _).2 h12
                try (
                  simp only [c_q12, om_0, om_10, om_20, om_f, allTold', dutiesTold, factsA, factsC, factsP, factsR, AV.facts, RW.facts, inK, and_true, Q.holds', E.i, E.s, E.n, D.nat, E.den, BO.den, UO.den, TO.den, D.toInt_int, D.toList_list, D.ints_ofInts, i64min, i64max, u8min, u8max, u16min, u16max, u32min, u32max, u64min, u64max, i32min, i32max, Om.sub, selI, ints_app, ints_cut, ints_upd, ints_rep, ints_splice, ints_seg, len_ints] at p12)
                have h13 : Q.val (om n0 n1 n2) c_q13 = true := (Q.holds'_iff _ _ _).1 (by
                  simp only [c_q13, om_0, om_10, om_20, om_f, allTold', dutiesTold, factsA, factsC, factsP, factsR, AV.facts, RW.facts, inK, and_true, Q.holds', E.i, E.s, E.n, D.nat, E.den, BO.den, UO.den, TO.den, D.toInt_int, D.toList_list, D.ints_ofInts, i64min, i64max, u8min, u8max, u16min, u16max, u32min, u32max, u64min, u64max, i32min, i32max, Om.sub, selI, ints_app, ints_cut, ints_upd, ints_rep, ints_splice, ints_seg, len_ints]
                  all_goals (first | omega | (obtain ⟨k1, k2, k3, k4, k5, k6, k7, k8, k9, k10, k11, k12, k13⟩ := parts_ok (n := n0) (m := n1) (f := n2) (by omega) (by omega) (by omega) (by omega) (by omega); omega)))
                have p13 := (Q.holds'_iff _ _ _).2 h13
                try (
                  simp only [c_q13, om_0, om_10, om_20, om_f, allTold', dutiesTold, factsA, factsC, factsP, factsR, AV.facts, RW.facts, inK, and_true, Q.holds', E.i, E.s, E.n, D.nat, E.den, BO.den, UO.den, TO.den, D.toInt_int, D.toList_list, D.ints_ofInts, i64min, i64max, u8min, u8max, u16min, u16max, u32min, u32max, u64min, u64max, i32min, i32max, Om.sub, selI, ints_app, ints_cut, ints_upd, ints_rep, ints_splice, ints_seg, len_ints] at p13)
                have h14 : Q.val (om n0 n1 n2) c_q14 = true := (Q.holds'_iff _ _ _).1 (by
                  simp only [c_q14, om_0, om_10, om_20, om_f, allTold', dutiesTold, factsA, factsC, factsP, factsR, AV.facts, RW.facts, inK, and_true, Q.holds', E.i, E.s, E.n, D.nat, E.den, BO.den, UO.den, TO.den, D.toInt_int, D.toList_list, D.ints_ofInts, i64min, i64max, u8min, u8max, u16min, u16max, u32min, u32max, u64min, u64max, i32min, i32max, Om.sub, selI, ints_app, ints_cut, ints_upd, ints_rep, ints_splice, ints_seg, len_ints]
                  all_goals (first | omega | (obtain ⟨k1, k2, k3, k4, k5, k6, k7, k8, k9, k10, k11, k12, k13⟩ := parts_ok (n := n0) (m := n1) (f := n2) (by omega) (by omega) (by omega) (by omega) (by omega); omega)))
                have p14 := (Q.holds'_iff _ _ _).2 h14
                try (
                  simp only [c_q14, om_0, om_10, om_20, om_f, allTold', dutiesTold, factsA, factsC, factsP, factsR, AV.facts, RW.facts, inK, and_true, Q.holds', E.i, E.s, E.n, D.nat, E.den, BO.den, UO.den, TO.den, D.toInt_int, D.toList_list, D.ints_ofInts, i64min, i64max, u8min, u8max, u16min, u16max, u32min, u32max, u64min, u64max, i32min, i32max, Om.sub, selI, ints_app, ints_cut, ints_upd, ints_rep, ints_splice, ints_seg, len_ints] at p14)
                have h15 : Q.val (om n0 n1 n2) c_q15 = false := (Q.holds'_iff _ _ _).1 (by
                  simp only [c_q15, om_0, om_10, om_20, om_f, allTold', dutiesTold, factsA, factsC, factsP, factsR, AV.facts, RW.facts, inK, and_true, Q.holds', E.i, E.s, E.n, D.nat, E.den, BO.den, UO.den, TO.den, D.toInt_int, D.toList_list, D.ints_ofInts, i64min, i64max, u8min, u8max, u16min, u16max, u32min, u32max, u64min, u64max, i32min, i32max, Om.sub, selI, ints_app, ints_cut, ints_upd, ints_rep, ints_splice, ints_seg, len_ints]
                  all_goals (first | omega | (obtain ⟨k1, k2, k3, k4, k5, k6, k7, k8, k9, k10, k11, k12, k13⟩ := parts_ok (n := n0) (m := n1) (f := n2) (by omega) (by omega) (by omega) (by omega) (by omega); omega)))
                have p15 := (Q.holds'_iff _ _ _).2 h15
                try (
                  simp only [c_q15, om_0, om_10, om_20, om_f, allTold', dutiesTold, factsA, factsC, factsP, factsR, AV.facts, RW.facts, inK, and_true, Q.holds', E.i, E.s, E.n, D.nat, E.den, BO.den, UO.den, TO.den, D.toInt_int, D.toList_list, D.ints_ofInts, i64min, i64max, u8min, u8max, u16min, u16max, u32min, u32max, u64min, u64max, i32min, i32max, Om.sub, selI, ints_app, ints_cut, ints_upd, ints_rep, ints_splice, ints_seg, len_ints] at p15)
                have h16 : Q.val (om n0 n1 n2) c_q16 = true := (Q.holds'_iff _ _ _).1 (by
                  simp only [c_q16, om_0, om_10, om_20, om_f, allTold', dutiesTold, factsA, factsC, factsP, factsR, AV.facts, RW.facts, inK, and_true, Q.holds', E.i, E.s, E.n, D.nat, E.den, BO.den, UO.den, TO.den, D.toInt_int, D.toList_list, D.ints_ofInts, i64min, i64max, u8min, u8max, u16min, u16max, u32min, u32max, u64min, u64max, i32min, i32max, Om.sub, selI, ints_app, ints_cut, ints_upd, ints_rep, ints_splice, ints_seg, len_ints]
                  all_goals (first | omega | (obtain ⟨k1, k2, k3, k4, k5, k6, k7, k8, k9, k10, k11, k12, k13⟩ := parts_ok (n := n0) (m := n1) (f := n2) (by omega) (by omega) (by omega) (by omega) (by omega); omega)))
                have p16 := (Q.holds'_iff _ _ _).2 h16
                try (
                  simp only [c_q16, om_0, om_10, om_20, om_f, allTold', dutiesTold, factsA, factsC, factsP, factsR, AV.facts, RW.facts, inK, and_true, Q.holds', E.i, E.s, E.n, D.nat, E.den, BO.den, UO.den, TO.den, D.toInt_int, D.toList_list, D.ints_ofInts, i64min, i64max, u8min, u8max, u16min, u16max, u32min, u32max, u64min, u64max, i32min, i32max, Om.sub, selI, ints_app, ints_cut, ints_upd, ints_rep, ints_splice, ints_seg, len_ints] at p16)
                have h17 : Q.val (om n0 n1 n2) c_q17 = false := (Q.holds'_iff _ _ _).1 (by
                  simp only [c_q17, om_0, om_10, om_20, om_f, allTold', dutiesTold, factsA, factsC, factsP, factsR, AV.facts, RW.facts, inK, and_true, Q.holds', E.i, E.s, E.n, D.nat, E.den, BO.den, UO.den, TO.den, D.toInt_int, D.toList_list, D.ints_ofInts, i64min, i64max, u8min, u8max, u16min, u16max, u32min, u32max, u64min, u64max, i32min, i32max, Om.sub, selI, ints_app, ints_cut, ints_upd, ints_rep, ints_splice, ints_seg, len_ints]
                  all_goals (first | omega | (obtain ⟨k1, k2, k3, k4, k5, k6, k7, k8, k9, k10, k11, k12, k13⟩ := parts_ok (n := n0) (m := n1) (f := n2) (by omega) (by omega) (by omega) (by omega) (by omega); omega)))
                have p17 := (Q.holds'_iff _ _ _).2 h17
                try (
                  simp only [c_q17, om_0, om_10, om_20, om_f, allTold', dutiesTold, factsA, factsC, factsP, factsR, AV.facts, RW.facts, inK, and_true, Q.holds', E.i, E.s, E.n, D.nat, E.den, BO.den, UO.den, TO.den, D.toInt_int, D.toList_list, D.ints_ofInts, i64min, i64max, u8min, u8max, u16min, u16max, u32min, u32max, u64min, u64max, i32min, i32max, Om.sub, selI, ints_app, ints_cut, ints_upd, ints_rep, ints_splice, ints_seg, len_ints] at p17)
                exact calls_of_yesV sound tab_ok specs_ok overs_ok c_y7 rfl (tellA_ok (told_cons h0 (told_cons h1 (told_cons h2 (told_cons h3 (told_cons h4 (told_cons h5 (told_cons h6 (told_cons h7 (told_cons h8 (told_cons h9 (told_cons h10 (told_cons h11 (told_cons h12 (told_cons h13 (told_cons h14 (told_cons h15 (told_cons h16 (told_cons h17 told_nil))))))))))))))))))) r0 hargs
              · have p9 := (Q.holds'_iff _ _ _).2 h9
                simp only [c_q9, om_0, om_10, om_20, om_f, allTold', dutiesTold, factsA, factsC, factsP, factsR, AV.facts, RW.facts, inK, and_true, Q.holds', E.i, E.s, E.n, D.nat, E.den, BO.den, UO.den, TO.den, D.toInt_int, D.toList_list, D.ints_ofInts, i64min, i64max, u8min, u8max, u16min, u16max, u32min, u32max, u64min, u64max, i32min, i32max, Om.sub, selI, ints_app, ints_cut, ints_upd, ints_rep, ints_splice, ints_seg, len_ints] at p9
                have h10 : Q.val (om n0 n1 n2) c_q10 = false := (Q.holds'_iff _ _ _).1 (by
                  simp only [c_q10, om_0, om_10, om_20, om_f, allTold', dutiesTold, factsA, factsC, factsP, factsR, AV.facts, RW.facts, inK, and_true, Q.holds', E.i, E.s, E.n, D.nat, E.den, BO.den, UO.den, TO.den, D.toInt_int, D.toList_list, D.ints_ofInts, i64min, i64max, u8min, u8max, u16min, u16max, u32min, u32max, u64min, u64max, i32min, i32max, Om.sub, selI, ints_app, ints_cut, ints_upd, ints_rep, ints_splice, ints_seg, len_ints]
                  all_goals (first | omega | (obtain ⟨k1, k2, k3, k4, k5, k6, k7, k8, k9, k10, k11, k12, k13⟩ := parts_ok (n := n0) (m := n1) (f := n2) (by omega) (by omega) (by omega) (by omega) (by omega); omega)))
                have p10 := (Q.holds'_iff _ _ _).2 h10
                try (
                  simp only [c_q10, om_0, om_10, om_20, om_f, allTold', dutiesTold, factsA, factsC, factsP, factsR, AV.facts, RW.facts, inK, and_true, Q.holds', E.i, E.s, E.n, D.nat, E.den, BO.den, UO.den, TO.den, D.toInt_int, D.toList_list, D.ints_ofInts, i64min, i64max, u8min, u8max, u16min, u16max, u32min, u32max, u64min, u64max, i32min, i32max, Om.sub, selI, ints_app, ints_cut, ints_upd, ints_rep, ints_splice, ints_seg, len_ints] at p10)
                cases h11 : Q.val (om n0 n1 n2) c_q11
                · have p11 := (Q.holds'_iff _ _ _).2 h11
                  simp only [c_q11, om_0, om_10, om_20, om_f, allTold', dutiesTold, factsA, factsC, factsP, factsR, AV.facts, RW.facts, inK, and_true, Q.holds', E.i, E.s, E.n, D.nat, E.den, BO.den, UO.den, TO.den, D.toInt_int, D.toList_list, D.ints_ofInts, i64min, i64max, u8min, u8max, u16min, u16max, u32min, u32max, u64min, u64max, i32min, i32max, Om.sub, selI, ints_app, ints_cut, ints_upd, ints_rep, ints_splice, ints_seg, len_ints] at p11
                  have h12 : Q.val (om n0 n1 n2) c_q12 = true := (Q.holds'_iff _ _ _).1 (by
                    simp only [c_q12, om_0, om_10, om_20, om_f, allTold', dutiesTold, factsA, factsC, factsP, factsR, AV.facts, RW.facts, inK, and_true, Q.holds', E.i, E.s, E.n, D.nat, E.den, BO.den, UO.den, TO.den, D.toInt_int, D.toList_list, D.ints_ofInts, i64min, i64max, u8min, u8max, u16min, u16max, u32min, u32max, u64min, u64max, i32min, i32max, Om.sub, selI, ints_app, ints_cut, ints_upd, ints_rep, ints_splice, ints_seg, len_ints]
                    all_goals (first | omega | (obtain ⟨k1, k2, k3, k4, k5, k6, k7, k8, k9, k10, k11, k12, k13⟩ := parts_ok (n := n0) (m := n1) (f := n2) (by omega) (by omega) (by omega) (by omega) (by omega); omega)))
                  have p12 := (Q.holds'_iff _ _ _).2 h12
                  try (
                    simp only [c_q12, om_0, om_10, om_20, om_f, allTold', dutiesTold, factsA, factsC, factsP, factsR, AV.facts, RW.facts, inK, and_true, Q.holds', E.i, E.s, E.n, D.nat, E.den, BO.den, UO.den, TO.den, D.toInt_int, D.toList_list, D.ints_ofInts, i64min, i64max, u8min, u8max, u16min, u16max, u32min, u32max, u64min, u64max, i32min, i32max, Om.sub, selI, ints_app, ints_cut, ints_upd, ints_rep, ints_splice, ints_seg, len_ints] at p12)
                  have h13 : Q.val (om n0 n1 n2) c_q13 = true := (Q.holds'_iff _ _ _).1 (by
                    simp only [c_q13, om_0, om_10, om_20, om_f, allTold', dutiesTold, factsA, factsC, factsP, factsR, AV.facts, RW.facts, inK, and_true, Q.holds', E.i, E.s, E.n, D.nat, E.den, BO.den, UO.den, TO.den, D.toInt_int, D.toList_list, D.ints_ofInts, i64min, i64max, u8min, u8max, u16min, u16max, u32min, u32max, u64min, u64max, i32min, i32max, Om.sub, selI, ints_app, ints_cut, ints_upd, ints_rep, ints_splice, ints_seg, len_ints]
                    all_goals (first | omega | (obtain ⟨k1, k2, k3, k4, k5, k6, k7, k8, k9, k10, k11, k12, k13⟩ := parts_ok (n := n0) (m := n1) (f := n2) (by omega) (by omega) (by omega) (by omega) (by omega); omega)))
                  have p13 := (Q.holds'_iff _ _ _).2 h13
                  try (
                    simp only [c_q13, om_0, om_10, om_20, om_f, allTold', dutiesTold, factsA, factsC, factsP, factsR, AV.facts, RW.facts, inK, and_true, Q.holds', E.i, E.s, E.n, D.nat, E.den, BO.den, UO.den, TO.den, D.toInt_int, D.toList_list, D.ints_ofInts, i64min, i64max, u8min, u8max, u16min, u16max, u32min, u32max, u64min, u64max, i32min, i32max, Om.sub, selI, ints_app, ints_cut, ints_upd, ints_rep, ints_splice, ints_seg, len_ints] at p13)
                  have h14 : Q.val (om n0 n1 n2) c_q14 = true := (Q.holds'_iff _ _ _).1 (by
                    simp only [c_q14, om_0, om_10, om_20, om_f, allTold', dutiesTold, factsA, factsC, factsP, factsR, AV.facts, RW.facts, inK, and_true, Q.holds', E.i, E.s, E.n, D.nat, E.den, BO.den, UO.den, TO.den, D.toInt_int, D.toList_list, D.ints_ofInts, i64min, i64max, u8min, u8max, u16min, u16max, u32min, u32max, u64min, u64max, i32min, i32max, Om.sub, selI, ints_app, ints_cut, ints_upd, ints_rep, ints_splice, ints_seg, len_ints]
                    all_goals (first | omega | (obtain ⟨k1, k2, k3, k4, k5, k6, k7, k8, k9, k10, k11, k12, k13⟩ := parts_ok (n := n0) (m := n1) (f := n2) (by omega) (by omega) (by omega) (by omega) (by omega); omega)))
                  have p14 := (Q.holds'_iff _ _ _).2 h14
                  try (
                    simp only [c_q14, om_0, om_10, om_20, om_f, allTold', dutiesTold, factsA, factsC, factsP, factsR, AV.facts, RW.facts, inK, and_true, Q.holds', E.i, E.s, E.n, D.nat, E.den, BO.den, UO.den, TO.den, D.toInt_int, D.toList_list, D.ints_ofInts, i64min, i64max, u8min, u8max, u16min, u16max, u32min, u32max, u64min, u64max, i32min, i32max, Om.sub, selI, ints_app, ints_cut, ints_upd, ints_rep, ints_splice, ints_seg, len_ints] at p14)
                  have h15 : Q.val (om n0 n1 n2) c_q15 = false := (Q.holds'_iff _ _ _).1 (by
                    simp only [c_q15, om_0, om_10, om_20, om_f, allTold', dutiesTold, factsA, factsC, factsP, factsR, AV.facts, RW.facts, inK, and_true, Q.holds', E.i, E.s, E.n, D.nat, E.den, BO.den, UO.den, TO.den, D.toInt_int, D.toList_list, D.ints_ofInts, i64min, i64max, u8min, u8max, u16min, u16max, u32min, u32max, u64min, u64max, i32min, i32max, Om.sub, selI, ints_app, ints_cut, ints_upd, ints_rep, ints_splice, ints_seg, len_ints]
                    all_goals (first | omega | (obtain ⟨k1, k2, k3, k4, k5, k6, k7, k8, k9, k10, k11, k12, k13⟩ := parts_ok (n := n0) (m := n1) (f := n2) (by omega) (by omega) (by omega) (by omega) (by omega); omega)))
                  have p15 := (Q.holds'_iff _ _ _).2 h15
                  try (
                    simp only [c_q15, om_0, om_10, om_20, om_f, allTold', dutiesTold, factsA, factsC, factsP, factsR, AV.facts, RW.facts, inK, and_true, Q.holds', E.i, E.s, E.n, D.nat, E.den, BO.den, UO.den, TO.den, D.toInt_int, D.toList_list, D.ints_ofInts, i64min, i64max, u8min, u8max, u16min, u16max, u32min, u32max, u64min, u64max, i32min, i32max, Om.sub, selI, ints_app, ints_cut, ints_upd, ints_rep, ints_splice, ints_seg, len_ints] at p15)
                  have h16 : Q.val (om n0 n1 n2) c_q16 = true := (Q.holds'_iff _ _ _).1 (by
                    simp only [c_q16, om_0, om_10, om_20, om_f, allTold', dutiesTold, factsA, factsC, factsP, factsR, AV.facts, RW.facts, inK, and_true, Q.holds', E.i, E.s, E.n, D.nat, E.den, BO.den, UO.den, TO.den, D.toInt_int, D.toList_list, D.ints_ofInts, i64min, i64max, u8min, u8max, u16min, u16max, u32min, u32max, u64min, u64max, i32min, i32max, Om.sub, selI, ints_app, ints_cut, ints_upd, ints_rep, ints_splice, ints_seg, len_ints]
                    all_goals (first | omega | (obtain ⟨k1, k2, k3, k4, k5, k6, k7, k8, k9, k10, k11, k12, k13⟩ := parts_ok (n := n0) (m := n1) (f := n2) (by omega) (by omega) (by omega) (by omega) (by omega); omega)))
                  have p16 := (Q.holds'_iff _ _ _).2 h16
                  try (
                    simp only [c_q16, om_0, om_10, om_20, om_f, allTold', dutiesTold, factsA, factsC, factsP, factsR, AV.facts, RW.facts, inK, and_true, Q.holds', E.i, E.s, E.n, D.nat, E.den, BO.den, UO.den, TO.den, D.toInt_int, D.toList_list, D.ints_ofInts, i64min, i64max, u8min, u8max, u16min, u16max, u32min, u32max, u64min, u64max, i32min, i32max, Om.sub, selI, ints_app, ints_cut, ints_upd, ints_rep, ints_splice, ints_seg, len_ints] at p16)
                  have h17 : Q.val (om n0 n1 n2) c_q17 = false := (Q.holds'_iff _ _ _).1 (by
                    simp only [c_q17, om_0, om_10, om_20, om_f, allTold', dutiesTold, factsA, factsC, factsP, factsR, AV.facts, RW.facts, inK, and_true, Q.holds', E.i, E.s, E.n, D.nat, E.den, BO.den, UO.den, TO.den, D.toInt_int, D.toList_list, D.ints_ofInts, i64min, i64max, u8min, u8max, u16min, u16max, u32min, u32max, u64min, u64max, i32min, i32max, Om.sub, selI, ints_app, ints_cut, ints_upd, ints_rep, ints_splice, ints_seg, len_ints]
                    all_goals (first | omega | (obtain ⟨k1, k2, k3, k4, k5, k6, k7, k8, k9, k10, k11, k12, k13⟩ := parts_ok (n := n0) (m := n1) (f := n2) (by omega) (by omega) (by omega) (by omega) (by omega); omega)))
                  have p17 := (Q.holds'_iff _ _ _).2 h17
                  try (
                    simp only [c_q17, om_0, om_10, om_20, om_f, allTold', dutiesTold, factsA, factsC, factsP, factsR, AV.facts, RW.facts, inK, and_true, Q.holds', E.i, E.s, E.n, D.nat, E.den, BO.den, UO.den, TO.den, D.toInt_int, D.toList_list, D.ints_ofInts, i64min, i64max, u8min, u8max, u16min, u16max, u32min, u32max, u64min, u64max, i32min, i32max, Om.sub, selI, ints_app, ints_cut, ints_upd, ints_rep, ints_splice, ints_seg, len_ints] at p17)
                  exact calls_of_yesV sound tab_ok specs_ok overs_ok c_y6 rfl (tellA_ok (told_cons h0 (told_cons h1 (told_cons h2 (told_cons h3 (told_cons h4 (told_cons h5 (told_cons h6 (told_cons h7 (told_cons h8 (told_cons h9 (told_cons h10 (told_cons h11 (told_cons h12 (told_cons h13 (told_cons h14 (told_cons h15 (told_cons h16 (told_cons h17 told_nil))))))))))))))))))) r0 hargs
                · have p11 := (Q.holds'_iff _ _ _).2 h11
                  simp only [c_q11, om_0, om_10, om_20, om_f, allTold', dutiesTold, factsA, factsC, factsP, factsR, AV.facts, RW.facts, inK, and_true, Q.holds', E.i, E.s, E.n, D.nat, E.den, BO.den, UO.den, TO.den, D.toInt_int, D.toList_list, D.ints_ofInts, i64min, i64max, u8min, u8max, u16min, u16max, u32min, u32max, u64min, u64max, i32min, i32max, Om.sub, selI, ints_app, ints_cut, ints_upd, ints_rep, ints_splice, ints_seg, len_ints] at p11
                  have h12 : Q.val (om n0 n1 n2) c_q12 = false := (Q.holds'_iff _ _ _).1 (by
                    simp only [c_q12, om_0, om_10, om_20, om_f, allTold', dutiesTold, factsA, factsC, factsP, factsR, AV.facts, RW.facts, inK, and_true, Q.holds', E.i, E.s, E.n, D.nat, E.den, BO.den, UO.den, TO.den, D.toInt_int, D.toList_list, D.ints_ofInts, i64min, i64max, u8min, u8max, u16min, u16max, u32min, u32max, u64min, u64max, i32min, i32max, Om.sub, selI, ints_app, ints_cut, ints_upd, ints_rep, ints_splice, ints_seg, len_ints]
                    all_goals (first | omega | (obtain ⟨k1, k2, k3, k4, k5, k6, k7, k8, k9, k10, k11, k12, k13⟩ := parts_ok (n := n0) (m := n1) (f := n2) (by omega) (by omega) (by omega) (by omega) (by omega); omega)))
                  have p12 := (Q.holds'_iff _ _ _).2 h12
                  try (
                    simp only [c_q12, om_0, om_10, om_20, om_f, allTold', dutiesTold, factsA, factsC, factsP, factsR, AV.facts, RW.facts, inK, and_true, Q.holds', E.i, E.s, E.n, D.nat, E.den, BO.den, UO.den, TO.den, D.toInt_int, D.toList_list, D.ints_ofInts, i64min, i64max, u8min, u8max, u16min, u16max, u32min, u32max, u64min, u64max, i32min, i32max, Om.sub, selI, ints_app, ints_cut, ints_upd, ints_rep, ints_splice, ints_seg, len_ints] at p12)
                  have h13 : Q.val (om n0 n1 n2) c_q13 = true := (Q.holds'_iff _ _ _).1 (by
                    simp only [c_q13, om_0, om_10, om_20, om_f, allTold', dutiesTold, factsA, factsC, factsP, factsR, AV.facts, RW.facts, inK, and_true, Q.holds', E.i, E.s, E.n, D.nat, E.den, BO.den, UO.den, TO.den, D.toInt_int, D.toList_list, D.ints_ofInts, i64min, i64max, u8min, u8max, u16min, u16max, u32min, u32max, u64min, u64max, i32min, i32max, Om.sub, selI, ints_app, ints_cut, ints_upd, ints_rep, ints_splice, ints_seg, len_ints]
                    all_goals (first | omega | (obtain ⟨k1, k2, k3, k4, k5, k6, k7, k8, k9, k10, k11, k12, k13⟩ := parts_ok (n := n0) (m := n1) (f := n2) (by omega) (by omega) (by omega) (by omega) (by omega); omega)))
                  have p13 := (Q.holds'_iff _ _ _).2 h13
                  try (
                    simp only [c_q13, om_0, om_10, om_20, om_f, allTold', dutiesTold, factsA, factsC, factsP, factsR, AV.facts, RW.facts, inK, and_true, Q.holds', E.i, E.s, E.n, D.nat, E.den, BO.den, UO.den, TO.den, D.toInt_int, D.toList_list, D.ints_ofInts, i64min, i64max, u8min, u8max, u16min, u16max, u32min, u32max, u64min, u64max, i32min, i32max, Om.sub, selI, ints_app, ints_cut, ints_upd, ints_rep, ints_splice, ints_seg, len_ints] at p13)
                  have h14 : Q.val (om n0 n1 n2) c_q14 = true := (Q.holds'_iff _ _ _).1 (by
                    simp only [c_q14, om_0, om_10, om_20, om_f, allTold', dutiesTold, factsA, factsC, factsP, factsR, AV.facts, RW.facts, inK, and_true, Q.holds', E.i, E.s, E.n, D.nat, E.den, BO.den, UO.den, TO.den, D.toInt_int, D.toList_list, D.ints_ofInts, i64min, i64max, u8min, u8max, u16min, u16max, u32min, u32max, u64min, u64max, i32min, i32max, Om.sub, selI, ints_app, ints_cut, ints_upd, ints_rep, ints_splice, ints_seg, len_ints]
                    all_goals (first | omega | (obtain ⟨k1, k2, k3, k4, k5, k6, k7, k8, k9, k10, k11, k12, k13⟩ := parts_ok (n := n0) (m := n1) (f := n2) (by omega) (by omega) (by omega) (by omega) (by omega); omega)))
                  have p14 := (Q.holds'_iff _ _ _).2 h14
                  try (
                    simp only [c_q14, om_0, om_10, om_20, om_f, allTold', dutiesTold, factsA, factsC, factsP, factsR, AV.facts, RW.facts, inK, and_true, Q.holds', E.i, E.s, E.n, D.nat, E.den, BO.den, UO.den, TO.den, D.toInt_int, D.toList_list, D.ints_ofInts, i64min, i64max, u8min, u8max, u16min, u16max, u32min, u32max, u64min, u64max, i32min, i32max, Om.sub, selI, ints_app, ints_cut, ints_upd, ints_rep, ints_splice, ints_seg, len_ints] at p14)
                  have h15 : Q.val (om n0 n1 n2) c_q15 = false := (Q.holds'_iff _ _ _).1 (by
                    simp only [c_q15, om_0, om_10, om_20, om_f, allTold', dutiesTold, factsA, factsC, factsP, factsR, AV.facts, RW.facts, inK, and_true, Q.holds', E.i, E.s, E.n, D.nat, E.den, BO.den, UO.den, TO.den, D.toInt_int, D.toList_list, D.ints_ofInts, i64min, i64max, u8min, u8max, u16min, u16max, u32min, u32max, u64min, u64max, i32min, i32max, Om.sub, selI, ints_app, ints_cut, ints_upd, ints_rep, ints_splice, ints_seg, len_ints]
                    all_goals (first | omega | (obtain ⟨k1, k2, k3, k4, k5, k6, k7, k8, k9, k10, k11, k12, k13⟩ := parts_ok (n := n0) (m := n1) (f := n2) (by omega) (by omega) (by omega) (by omega) (by omega); omega)))
                  have p15 := (Q.holds'_iff _ _ _).2 h15
                  try (
                    simp only [c_q15, om_0, om_10, om_20, om_f, allTold', dutiesTold, factsA, factsC, factsP, factsR, AV.facts, RW.facts, inK, and_true, Q.holds', E.i, E.s, E.n, D.nat, E.den, BO.den, UO.den, TO.den, D.toInt_int, D.toList_list, D.ints_ofInts, i64min, i64max, u8min, u8max, u16min, u16max, u32min, u32max, u64min, u64max, i32min, i32max, Om.sub, selI, ints_app, ints_cut, ints_upd, ints_rep, ints_splice, ints_seg, len_ints] at p15)
                  have h16 : Q.val (om n0 n1 n2) c_q16 = true := (Q.holds'_iff _ _ _).1 (by
                    simp only [c_q16, om_0, om_10, om_20, om_f, allTold', dutiesTold, factsA, factsC, factsP, factsR, AV.facts, RW.facts, inK, and_true, Q.holds', E.i, E.s, E.n, D.nat, E.den, BO.den, UO.den, TO.den, D.toInt_int, D.toList_list, D.ints_ofInts, i64min, i64max, u8min, u8max, u16min, u16max, u32min, u32max, u64min, u64max, i32min, i32max, Om.sub, selI, ints_app, ints_cut, ints_upd, ints_rep, ints_splice, ints_seg, len_ints]
                    all_goals (first | omega | (obtain ⟨k1, k2, k3, k4, k5, k6, k7, k8, k9, k10, k11, k12, k13⟩ := parts_ok (n := n0) (m := n1) (f := n2) (by omega) (by omega) (by omega) (by omega) (by omega); omega)))
                  have p16 := (Q.holds'_iff _ _ _).2 h16
                  try (
                    simp only [c_q16, om_0, om_10, om_20, om_f, allTold', dutiesTold, factsA, factsC, factsP, factsR, AV.facts, RW.facts, inK, and_true, Q.holds', E.i, E.s, E.n, D.nat, E.den, BO.den, UO.den, TO.den, D.toInt_int, D.toList_list, D.ints_ofInts, i64min, i64max, u8min, u8max, u16min, u16max, u32min, u32max, u64min, u64max, i32min, i32max, Om.sub, selI, ints_app, ints_cut, ints_upd, ints_rep, ints_splice, ints_seg, len_ints] at p16)
                  have h17 : Q.val (om n0 n1 n2) c_q17 = false := (Q.holds'_iff _ _ _).1 (by
                    simp only [c_q17, om_0, om_10, om_20, om_f, allTold', dutiesTold, factsA, factsC, factsP, factsR, AV.facts, RW.facts, inK, and_true, Q.holds', E.i, E.s, E.n, D.nat, E.den, BO.den, UO.den, TO.den, D.toInt_int, D.toList_list, D.ints_ofInts, i64min, i64max, u8min, u8max, u16min, u16max, u32min, u32max, u64min, u64max, i32min, i32max, Om.sub, selI, ints_app, ints_cut, ints_upd, ints_rep, ints_splice, ints_seg, len_ints]
                    all_goals (first | omega | (obtain ⟨k1, k2, k3, k4, k5, k6, k7, k8, k9, k10, k11, k12, k13⟩ := parts_ok (n := n0) (m := n1) (f := n2) (by omega) (by omega) (by omega) (by omega) (by omega); omega)))
                  have p17 := (Q.holds'_iff _ _ _).2 h17
                  try (
                    simp only [c_q17, om_0, om_10, om_20, om_f, allTold', dutiesTold, factsA, factsC, factsP, factsR, AV.facts, RW.facts, inK, and_true, Q.holds', E.i, E.s, E.n, D.nat, E.den, BO.den, UO.den, TO.den, D.toInt_int, D.toList_list, D.ints_ofInts, i64min, i64max, u8min, u8max, u16min, u16max, u32min, u32max, u64min, u64max, i32min, i32max, Om.sub, selI, ints_app, ints_cut, ints_upd, ints_rep, ints_splice, ints_seg, len_ints] at p17)
                  exact calls_of_yesV sound tab_ok specs_ok overs_ok c_y9 rfl (tellA_ok (told_cons h0 (told_cons h1 (told_cons h2 (told_cons h3 (told_cons h4 (told_cons h5 (told_cons h6 (told_cons h7 (told_cons h8 (told_cons h9 (told_cons h10 (told_cons h11 (told_cons h12 (told_cons h13 (told_cons h14 (told_cons h15 (told_cons h16 (told_cons h17 told_nil))))))))))))))))))) r0 hargs
            · have p7 := (Q.holds'_iff _ _ _).2 h7
              simp only [c_q7, om_0, om_10, om_20, om_f, allTold', dutiesTold, factsA, factsC, factsP, factsR, AV.facts, RW.facts, inK, and_true, Q.holds', E.i, E.s, E.n, D.nat, E.den, BO.den, UO.den, TO.den, D.toInt_int, D.toList_list, D.ints_ofInts, i64min, i64max, u8min, u8max, u16min, u16max, u32min, u32max, u64min, u64max, i32min, i32max, Om.sub, selI, ints_app, ints_cut, ints_upd, ints_rep, ints_splice, ints_seg, len_ints] at p7
              have h8 : Q.val (om n0 n1 n2) c_q8 = false := (Q.holds'_iff _ _ _).1 (by
                simp only [c_q8, om_0, om_10, om_20, om_f, allTold', dutiesTold, factsA, factsC, factsP, factsR, AV.facts, RW.facts, inK, and_true, Q.holds', E.i, E.s, E.n, D.nat, E.den, BO.den, UO.den, TO.den, D.toInt_int, D.toList_list, D.ints_ofInts, i64min, i64max, u8min, u8max, u16min, u16max, u32min, u32max, u64min, u64max, i32min, i32max, Om.sub, selI, ints_app, ints_cut, ints_upd, ints_rep, ints_splice, ints_seg, len_ints]
                all_goals (first | omega | (obtain ⟨k1, k2, k3, k4, k5, k6, k7, k8, k9, k10, k11, k12, k13⟩ := parts_ok (n := n0) (m := n1) (f := n2) (by omega) (by omega) (by omega) (by omega) (by omega); omega)))
              have p8 := (Q.holds'_iff _ _ _).2 h8
              try (
                simp only [c_q8, om_0, om_10, om_20, om_f, allTold', dutiesTold, factsA, factsC, factsP, factsR, AV.facts, RW.facts, inK, and_true, Q.holds', E.i, E.s, E.n, D.nat, E.den, BO.den, UO.den, TO.den, D.toInt_int, D.toList_list, D.ints_ofInts, i64min, i64max, u8min, u8max, u16min, u16max, u32min, u32max, u64min, u64max, i32min, i32max, Om.sub, selI, ints_app, ints_cut, ints_upd, ints_rep, ints_splice, ints_seg, len_ints] at p8)
              cases h9 : Q.val (om n0 n1 n2) c_q9
              · have p9 := (Q.holds'_iff _ _ _).2 h9
                simp only [c_q9, om_0, om_10, om_20, om_f, allTold', dutiesTold, factsA, factsC, factsP, factsR, AV.facts, RW.facts, inK, and_true, Q.holds', E.i, E.s, E.n, D.nat, E.den, BO.den, UO.den, TO.den, D.toInt_int, D.toList_list, D.ints_ofInts, i64min, i64max, u8min, u8max, u16min, u16max, u32min, u32max, u64min, u64max, i32min, i32max, Om.sub, selI, ints_app, ints_cut, ints_upd, ints_rep, ints_splice, ints_seg, len_ints] at p9
                have h10 : Q.val (om n0 n1 n2) c_q10 = true := (Q.holds'_iff _ _ _).1 (by
                  simp only [c_q10, om_0, om_10, om_20, om_f, allTold', dutiesTold, factsA, factsC, factsP, factsR, AV.facts, RW.facts, inK, and_true, Q.holds', E.i, E.s, E.n, D.nat, E.den, BO.den, UO.den, TO.den, D.toInt_int, D.toList_list, D.ints_ofInts, i64min, i64max, u8min, u8max, u16min, u16max, u32min, u32max, u64min, u64max, i32min, i32max, Om.sub, selI, ints_app, ints_cut, ints_upd, ints_rep, ints_splice, ints_seg, len_ints]
                  all_goals (first | omega | (obtain ⟨k1, k2, k3, k4, k5, k6, k7, k8, k9, k10, k11, k12, k13⟩ := parts_ok (n := n0) (m := n1) (f := n2) (by omega) (by omega) (by omega) (by omega) (by omega); omega)))
                have p10 := (Q.holds'_iff _ _ _).2 h10
                try (
                  simp only [c_q10, om_0, om_10, om_20, om_f, allTold', dutiesTold, factsA, factsC, factsP, factsR, AV.facts, RW.facts, inK, and_true, Q.holds', E.i, E.s, E.n, D.nat, E.den, BO.den, UO.den, TO.den, D.toInt_int, D.toList_list, D.ints_ofInts, i64min, i64max, u8min, u8max, u16min, u16max, u32min, u32max, u64min, u64max, i32min, i32max, Om.sub, selI, ints_app, ints_cut, ints_upd, ints_rep, ints_splice, ints_seg, len_ints] at p10)
                cases h11 : Q.val (om n0 n1 n2) c_q11
                · have p11 := (Q.holds'_iff _ _ _).2 h11
                  simp only [c_q11, om_0, om_10, om_20, om_f, allTold', dutiesTold, factsA, factsC, factsP, factsR, AV.facts, RW.facts, inK, and_true, Q.holds', E.i, E.s, E.n, D.nat, E.den, BO.den, UO.den, TO.den, D.toInt_int, D.toList_list, D.ints_ofInts, i64min, i64max, u8min, u8max, u16min, u16max, u32min, u32max, u64min, u64max, i32min, i32max, Om.sub, selI, ints_app, ints_cut, ints_upd, ints_rep, ints_splice, ints_seg, len_ints] at p11
                  have h12 : Q.val (om n0 n1 n2) c_q12 = true := (Q.holds'_iff _ _ _).1 (by
                    simp only [c_q12, om_0, om_10, om_20, om_f, allTold', dutiesTold, factsA, factsC, factsP, factsR, AV.facts, RW.facts, inK, and_true, Q.holds', E.i, E.s, E.n, D.nat, E.den, BO.den, UO.den, TO.den, D.toInt_int, D.toList_list, D.ints_ofInts, i64min, i64max, u8min, u8max, u16min, u16max, u32min, u32max, u64min, u64max, i32min, i32max, Om.sub, selI, ints_app, ints_cut, ints_upd, ints_rep, ints_splice, ints_seg, len_ints]
                    all_goals (first | omega | (obtain ⟨k1, k2, k3, k4, k5, k6, k7, k8, k9, k10, k11, k12, k13⟩ := parts_ok (n := n0) (m := n1) (f := n2) (by omega) (by omega) (by omega) (by omega) (by omega); omega)))
                  have p12 := (Q.holds'_iff _ _ _).2 h12
                  try (
                    simp only [c_q12, om_0, om_10, om_20, om_f, allTold', dutiesTold, factsA, factsC, factsP, factsR, AV.facts, RW.facts, inK, and_true, Q.holds', E.i, E.s, E.n, D.nat, E.den, BO.den, UO.den, TO.den, D.toInt_int, D.toList_list, D.ints_ofInts, i64min, i64max, u8min, u8max, u16min, u16max, u32min, u32max, u64min, u64max, i32min, i32max, Om.sub, selI, ints_app, ints_cut, ints_upd, ints_rep, ints_splice, ints_seg, len_ints] at p12)
                  have h13 : Q.val (om n0 n1 n2) c_q13 = true := (Q.holds'_iff _ _ _).1 (by
                    simp only [c_q13, om_0, om_10, om_20, om_f, allTold', dutiesTold, factsA, factsC, factsP, factsR, AV.facts, RW.facts, inK, and_true, Q.holds', E.i, E.s, E.n, D.nat, E.den, BO.den, UO.den, TO.den, D.toInt_int, D.toList_list, D.ints_ofInts, i64min, i64max, u8min, u8max, u16min, u16max, u32min, u32max, u64min, u64max, i32min, i32max, Om.sub, selI, ints_app, ints_cut, ints_upd, ints_rep, ints_splice, ints_seg, len_ints]
                    all_goals (first | omega | (obtain ⟨k1, k2, k3, k4, k5, k6, k7, k8, k9, k10, k11, k12, k13⟩ := parts_ok (n := n0) (m := n1) (f := n2) (by omega) (by omega) (by omega) (by omega) (by omega); omega)))
                  have p13 := (Q.holds'_iff _ _ _).2 h13
                  try (
                    simp only [c_q13, om_0, om_10, om_20, om_f, allTold', dutiesTold, factsA, factsC, factsP, factsR, AV.facts, RW.facts, inK, and_true, Q.holds', E.i, E.s, E.n, D.nat, E.den, BO.den, UO.den, TO.den, D.toInt_int, D.toList_list, D.ints_ofInts, i64min, i64max, u8min, u8max, u16min, u16max, u32min, u32max, u64min, u64max, i32min, i32max, Om.sub, selI, ints_app, ints_cut, ints_upd, ints_rep, ints_splice, ints_seg, len_ints] at p13)
                  have h14 : Q.val (om n0 n1 n2) c_q14 = true := (Q.holds'_iff _ _ _).1 (by
                    simp only [c_q14, om_0, om_10, om_20, om_f, allTold', dutiesTold, factsA, factsC, factsP, factsR, AV.facts, RW.facts, inK, and_true, Q.holds', E.i, E.s, E.n, D.nat, E.den, BO.den, UO.den, TO.den, D.toInt_int, D.toList_list, D.ints_ofInts, i64min, i64max, u8min, u8max, u16min, u16max, u32min, u32max, u64min, u64max, i32min, i32max, Om.sub, selI, ints_app, ints_cut, ints_upd, ints_rep, ints_splice, ints_seg, len_ints]
                    all_goals (first | omega | (obtain ⟨k1, k2, k3, k4, k5, k6, k7, k8, k9, k10, k11, k12, k13⟩ := parts_ok (n := n0) (m := n1) (f := n2) (by omega) (by omega) (by omega) (by omega) (by omega); omega)))
                  have p14 := (Q.holds'_iff _ _ _).2 h14
                  try (
                    simp only [c_q14, om_0, om_10, om_20, om_f, allTold', dutiesTold, factsA, factsC, factsP, factsR, AV.facts, RW.facts, inK, and_true, Q.holds', E.i, E.s, E.n, D.nat, E.den, BO.den, UO.den, TO.den, D.toInt_int, D.toList_list, D.ints_ofInts, i64min, i64max, u8min, u8max, u16min, u16max, u32min, u32max, u64min, u64max, i32min, i32max, Om.sub, selI, ints_app, ints_cut, ints_upd, ints_rep, ints_splice, ints_seg, len_ints] at p14)
                  have h15 : Q.val (om n0 n1 n2) c_q15 = false := (Q.holds'_iff _ _ _).1 (by
                    simp only [c_q15, om_0, om_10, om_20, om_f, allTold', dutiesTold, factsA, factsC, factsP, factsR, AV.facts, RW.facts, inK, and_true, Q.holds', E.i, E.s, E.n, D.nat, E.den, BO.den, UO.den, TO.den, D.toInt_int, D.toList_list, D.ints_ofInts, i64min, i64max, u8min, u8max, u16min, u16max, u32min, u32max, u64min, u64max, i32min, i32max, Om.sub, selI, ints_app, ints_cut, ints_upd, ints_rep, ints_splice, ints_seg, len_ints]
                    all_goals (first | omega | (obtain ⟨k1, k2, k3, k4, k5, k6, k7, k8, k9, k10, k11, k12, k13⟩ := parts_ok (n := n0) (m := n1) (f := n2) (by omega) (by omega) (by omega) (by omega) (by omega); omega)))
                  have p15 := (Q.holds'_iff _ _ _).2 h15
                  try (
                    simp only [c_q15, om_0, om_10, om_20, om_f, allTold', dutiesTold, factsA, factsC, factsP, factsR, AV.facts, RW.facts, inK, and_true, Q.holds', E.i, E.s, E.n, D.nat, E.den, BO.den, UO.den, TO.den, D.toInt_int, D.toList_list, D.ints_ofInts, i64min, i64max, u8min, u8max, u16min, u16max, u32min, u32max, u64min, u64max, i32min, i32max, Om.sub, selI, ints_app, ints_cut, ints_upd, ints_rep, ints_splice, ints_seg, len_ints] at p15)
                  have h16 : Q.val (om n0 n1 n2) c_q16 = false := (Q.holds'_iff _ _ _).1 (by
                    simp only [c_q16, om_0, om_10, om_20, om_f, allTold', dutiesTold, factsA, factsC, factsP, factsR, AV.facts, RW.facts, inK, and_true, Q.holds', E.i, E.s, E.n, D.nat, E.den, BO.den, UO.den, TO.den, D.toInt_int, D.toList_list, D.ints_ofInts, i64min, i64max, u8min, u8max, u16min, u16max, u32min, u32max, u64min, u64max, i32min, i32max, Om.sub, selI, ints_app, ints_cut, ints_upd, ints_rep, ints_splice, ints_seg, len_ints]
                    all_goals (first | omega | (obtain ⟨k1, k2, k3, k4, k5, k6, k7, k8, k9, k10, k11, k12, k13⟩ := parts_ok (n := n0) (m := n1) (f := n2) (by omega) (by omega) (by omega) (by omega) (by omega); omega)))
                  have p16 := (Q.holds'_iff _ _ _).2 h16
                  try (
                    simp only [c_q16, om_0, om_10, om_20, om_f, allTold', dutiesTold, factsA, factsC, factsP, factsR, AV.facts, RW.facts, inK, and_true, Q.holds', E.i, E.s, E.n, D.nat, E.den, BO.den, UO.den, TO.den, D.toInt_int, D.toList_list, D.ints_ofInts, i64min, i64max, u8min, u8max, u16min, u16max, u32min, u32max, u64min, u64max, i32min, i32max, Om.sub, selI, ints_app, ints_cut, ints_upd, ints_rep, ints_splice, ints_seg, len_ints] at p16)
                  have h17 : Q.val (om n0 n1 n2) c_q17 = true := (Q.holds'_iff _ _ _).1 (by
                    simp only [c_q17, om_0, om_10, om_20, om_f, allTold', dutiesTold, factsA, factsC, factsP, factsR, AV.facts, RW.facts, inK, and_true, Q.holds', E.i, E.s, E.n, D.nat, E.den, BO.den, UO.den, TO.den, D.toInt_int, D.toList_list, D.ints_ofInts, i64min, i64max, u8min, u8max, u16min, u16max, u32min, u32max, u64min, u64max, i32min, i32max, Om.sub, selI, ints_app, ints_cut, ints_upd, ints_rep, ints_splice, ints_seg, len_ints]
                    all_goals (first | omega | (obtain ⟨k1, k2, k3, k4, k5, k6, k7, k8, k9, k10, k11, k12, k13⟩ := parts_ok (n := n0) (m := n1) (f := n2) (by omega) (by omega) (by omega) (by omega) (by omega); omega)))
                  have p17 := (Q.holds'_iff _ _ _).2 h17
                  try (
                    simp only [c_q17, om_0, om_10, om_20, om_f, allTold', dutiesTold, factsA, factsC, factsP, factsR, AV.facts, RW.facts, inK, and_true, Q.holds', E.i, E.s, E.n, D.nat, E.den, BO.den, UO.den, TO.den, D.toInt_int, D.toList_list, D.ints_ofInts, i64min, i64max, u8min, u8max, u16min, u16max, u32min, u32max, u64min, u64max, i32min, i32max, Om.sub, selI, ints_app, ints_cut, ints_upd, ints_rep, ints_splice, ints_seg, len_ints] at p17)
                  have h18 : Q.val (om n0 n1 n2) c_q18 = true := (Q.holds'_iff _ _ _).1 (by
                    simp only [c_q18, om_0, om_10, om_20, om_f, allTold', dutiesTold, factsA, factsC, factsP, factsR, AV.facts, RW.facts, inK, and_true, Q.holds', E.i, E.s, E.n, D.nat, E.den, BO.den, UO.den, TO.den, D.toInt_int, D.toList_list, D.ints_ofInts, i64min, i64max, u8min, u8max, u16min, u16max, u32min, u32max, u64min, u64max, i32min, i32max, Om.sub, selI, ints_app, ints_cut, ints_upd, ints_rep, ints_splice, ints_seg, len_ints]
                    all_goals (first | omega | (obtain ⟨k1, k2, k3, k4, k5, k6, k7, k8, k9, k10, k11, k12, k13⟩ := parts_ok (n := n0) (m := n1) (f := n2) (by omega) (by omega) (by omega) (by omega) (by omega); omega)))
                  have p18 := (Q.holds'_iff _ _ _).2 h18
                  try (
                    simp only [c_q18, om_0, om_10, om_20, om_f, allTold', dutiesTold, factsA, factsC, factsP, factsR, AV.facts, RW.facts, inK, and_true, Q.holds', E.i, E.s, E.n, D.nat, E.den, BO.den, UO.den, TO.den, D.toInt_int, D.toList_list, D.ints_ofInts, i64min, i64max, u8min, u8max, u16min, u16max, u32min, u32max, u64min, u64max, i32min, i32max, Om.sub, selI, ints_app, ints_cut, ints_upd, ints_rep, ints_splice, ints_seg, len_ints] at p18)
                  exact calls_of_yesV sound tab_ok specs_ok overs_ok c_y8 rfl (tellA_ok (told_cons h0 (told_cons h1 (told_cons h2 (told_cons h3 (told_cons h4 (told_cons h5 (told_cons h6 (told_cons h7 (told_cons h8 (told_cons h9 (told_cons h10 (told_cons h11 (told_cons h12 (told_cons h13 (told_cons h14 (told_cons h15 (told_cons h16 (told_cons h17 (told_cons h18 told_nil)))))))))))))))))))) r0 hargs
                · have p11 := (Q.holds'_iff _ _ _).2 h11
                  simp only [c_q11, om_0, om_10, om_20, om_f, allTold', dutiesTold, factsA, factsC, factsP, factsR, AV.facts, RW.facts, inK, and_true, Q.holds', E.i, E.s, E.n, D.nat, E.den, BO.den, UO.den, TO.den, D.toInt_int, D.toList_list, D.ints_ofInts, i64min, i64max, u8min, u8max, u16min, u16max, u32min, u32max, u64min, u64max, i32min, i32max, Om.sub, selI, ints_app, ints_cut, ints_upd, ints_rep, ints_splice, ints_seg, len_ints] at p11
                  have h12 : Q.val (om n0 n1 n2) c_q12 = false := (Q.holds'_iff _ _ _).1 (by
                    simp only [c_q12, om_0, om_10, om_20, om_f, allTold', dutiesTold, factsA, factsC, factsP, factsR, AV.facts, RW.facts, inK, and_true, Q.holds', E.i, E.s, E.n, D.nat, E.den, BO.den, UO.den, TO.den, D.toInt_int, D.toList_list, D.ints_ofInts, i64min, i64max, u8min, u8max, u16min, u16max, u32min, u32max, u64min, u64max, i32min, i32max, Om.sub, selI, ints_app, ints_cut, ints_upd, ints_rep, ints_splice, ints_seg, len_ints]
                    all_goals (first | omega | (obtain ⟨k1, k2, k3, k4, k5, k6, k7, k8, k9, k10, k11, k12, k13⟩ := parts_ok (n := n0) (m := n1) (f := n2) (by omega) (by omega) (by omega) (by omega) (by omega); omega)))
                  have p12 := (Q.holds'_iff _ _ _).2 h12
                  try (
                    simp only [c_q12, om_0, om_10, om_20, om_f, allTold', dutiesTold, factsA, factsC, factsP, factsR, AV.facts, RW.facts, inK, and_true, Q.holds', E.i, E.s, E.n, D.nat, E.den, BO.den, UO.den, TO.den, D.toInt_int, D.toList_list, D.ints_ofInts, i64min, i64max, u8min, u8max, u16min, u16max, u32min, u32max, u64min, u64max, i32min, i32max, Om.sub, selI, ints_app, ints_cut, ints_upd, ints_rep, ints_splice, ints_seg, len_ints] at p12)
                  have h13 : Q.val (om n0 n1 n2) c_q13 = true := (Q.holds'_iff _ _ _).1 (by
                    simp only [c_q13, om_0, om_10, om_20, om_f, allTold', dutiesTold, factsA, factsC, factsP, factsR, AV.facts, RW.facts, inK, and_true, Q.holds', E.i, E.s, E.n, D.nat, E.den, BO.den, UO.den, TO.den, D.toInt_int, D.toList_list, D.ints_ofInts, i64min, i64max, u8min, u8max, u16min, u16max, u32min, u32max, u64min, u64max, i32min, i32max, Om.sub, selI, ints_app, ints_cut, ints_upd, ints_rep, ints_splice, ints_seg, len_ints]
                    all_goals (first | omega | (obtain ⟨k1, k2, k3, k4, k5, k6, k7, k8, k9, k10, k11, k12, k13⟩ := parts_ok (n := n0) (m := n1) (f := n2) (by omega) (by omega) (by omega) (by omega) (by omega); omega)))
                  have p13 := (Q.holds'_iff _ _ _).2 h13
                  try (
                    simp only [c_q13, om_0, om_10, om_20, om_f, allTold', dutiesTold, factsA, factsC, factsP, factsR, AV.facts, RW.facts, inK, and_true, Q.holds', E.i, E.s, E.n, D.nat, E.den, BO.den, UO.den, TO.den, D.toInt_int, D.toList_list, D.ints_ofInts, i64min, i64max, u8min, u8max, u16min, u16max, u32min, u32max, u64min, u64max, i32min, i32max, Om.sub, selI, ints_app, ints_cut, ints_upd, ints_rep, ints_splice, ints_seg, len_ints] at p13)
                  have h14 : Q.val (om n0 n1 n2) c_q14 = true := (Q.holds'_iff _ _ _).1 (by
                    simp only [c_q14, om_0, om_10, om_20, om_f, allTold', dutiesTold, factsA, factsC, factsP, factsR, AV.facts, RW.facts, inK, and_true, Q.holds', E.i, E.s, E.n, D.nat, E.den, BO.den, UO.den, TO.den, D.toInt_int, D.toList_list, D.ints_ofInts, i64min, i64max, u8min, u8max, u16min, u16max, u32min, u32max, u64min, u64max, i32min, i32max, Om.sub, selI, ints_app, ints_cut, ints_upd, ints_rep, ints_splice, ints_seg, len_ints]
                    all_goals (first | omega | (obtain ⟨k1, k2, k3, k4, k5, k6, k7, k8, k9, k10, k11, k12, k13⟩ := parts_ok (n := n0) (m := n1) (f := n2) (by omega) (by omega) (by omega) (by omega) (by omega); omega)))
                  have p14 := (Q.holds'_iff _ _ _).2 h14
                  try (
                    simp only [c_q14, om_0, om_10, om_20, om_f, allTold', dutiesTold, factsA, factsC, factsP, factsR, AV.facts, RW.facts, inK, and_true, Q.holds', E.i, E.s, E.n, D.nat, E.den, BO.den, UO.den, TO.den, D.toInt_int, D.toList_list, D.ints_ofInts, i64min, i64max, u8min, u8max, u16min, u16max, u32min, u32max, u64min, u64max, i32min, i32max, Om.sub, selI, ints_app, ints_cut, ints_upd, ints_rep, ints_splice, ints_seg, len_ints] at p14)
                  have h15 : Q.val (om n0 n1 n2) c_q15 = false := (Q.holds'_iff _ _ _).1 (by
                    simp only [c_q15, om_0, om_10, om_20, om_f, allTold', dutiesTold, factsA, factsC, factsP, factsR, AV.facts, RW.facts, inK, and_true, Q.holds', E.i, E.s, E.n, D.nat, E.den, BO.den, UO.den, TO.den, D.toInt_int, D.toList_list, D.ints_ofInts, i64min, i64max, u8min, u8max, u16min, u16max, u32min, u32max, u64min, u64max, i32min, i32max, Om.sub, selI, ints_app, ints_cut, ints_upd, ints_rep, ints_splice, ints_seg, len_ints]
                    all_goals (first | omega | (obtain ⟨k1, k2, k3, k4, k5, k6, k7, k8, k9, k10, k11, k12, k13⟩ := parts_ok (n := n0) (m := n1) (f := n2) (by omega) (by omega) (by omega) (by omega) (by omega); omega)))
                  have p15 := (Q.holds'_iff _ _ _).2 h15
                  try (
                    simp only [c_q15, om_0, om_10, om_20, om_f, allTold', dutiesTold, factsA, factsC, factsP, factsR, AV.facts, RW.facts, inK, and_true, Q.holds', E.i, E.s, E.n, D.nat, E.den, BO.den, UO.den, TO.den, D.toInt_int, D.toList_list, D.ints_ofInts, i64min, i64max, u8min, u8max, u16min, u16max, u32min, u32max, u64min, u64max, i32min, i32max, Om.sub, selI, ints_app, ints_cut, ints_upd, ints_rep, ints_splice, ints_seg, len_ints] at p15)
                  have h16 : Q.val (om n0 n1 n2) c_q16 = false := (Q.holds'_iff _ _ _).1 (by
                    simp only [c_q16, om_0, om_10, om_20, om_f, allTold', dutiesTold, factsA, factsC, factsP, factsR, AV.facts, RW.facts, inK, and_true, Q.holds', E.i, E.s, E.n, D.nat, E.den, BO.den, UO.den, TO.den, D.toInt_int, D.toList_list, D.ints_ofInts, i64min, i64max, u8min, u8max, u16min, u16max, u32min, u32max, u64min, u64max, i32min, i32max, Om.sub, selI, ints_app, ints_cut, ints_upd, ints_rep, ints_splice, ints_seg, len_ints]
                    all_goals (first | omega | (obtain ⟨k1, k2, k3, k4, k5, k6, k7, k8, k9, k10, k11, k12, k13⟩ := parts_ok (n := n0) (m := n1) (f := n2) (by omega) (by omega) (by omega) (by omega) (by omega); omega)))
                  have p16 := (Q.holds'_iff _ _ _).2 h16
                  try (
                    simp only [c_q16, om_0, om_10, om_20, om_f, allTold', dutiesTold, factsA, factsC, factsP, factsR, AV.facts, RW.facts, inK, and_true, Q.holds', E.i, E.s, E.n, D.nat, E.den, BO.den, UO.den, TO.den, D.toInt_int, D.toList_list, D.ints_ofInts, i64min, i64max, u8min, u8max, u16min, u16max, u32min, u32max, u64min, u64max, i32min, i32max, Om.sub, selI, ints_app, ints_cut, ints_upd, ints_rep, ints_splice, ints_seg, len_ints] at p16)
                  have h17 : Q.val (om n0 n1 n2) c_q17 = false := (Q.holds'_iff _ _ _).1 (by
                    simp only [c_q17, om_0, om_10, om_20, om_f, allTold', dutiesTold, factsA, factsC, factsP, factsR, AV.facts, RW.facts, inK, and_true, Q.holds', E.i, E.s, E.n, D.nat, E.den, BO.den, UO.den, TO.den, D.toInt_int, D.toList_list, D.ints_ofInts, i64min, i64max, u8min, u8max, u16min, u16max, u32min, u32max, u64min, u64max, i32min, i32max, Om.sub, selI, ints_app, ints_cut, ints_upd, ints_rep, ints_splice, ints_seg, len_ints]
                    all_goals (first | omega | (obtain ⟨k1, k2, k3, k4, k5, k6, k7, k8, k9, k10, k11, k12, k13⟩ := parts_ok (n := n0) (m := n1) (f := n2) (by omega) (by omega) (by omega) (by omega) (by omega); omega)))
                  have p17 := (Q.holds'_iff _ _ _).2 h17
                  try (
                    simp only [c_q17, om_0, om_10, om_20, om_f, allTold', dutiesTold, factsA, factsC, factsP, factsR, AV.facts, RW.facts, inK, and_true, Q.holds', E.i, E.s, E.n, D.nat, E.den, BO.den, UO.den, TO.den, D.toInt_int, D.toList_list, D.ints_ofInts, i64min, i64max, u8min, u8max, u16min, u16max, u32min, u32max, u64min, u64max, i32min, i32max, Om.sub, selI, ints_app, ints_cut, ints_upd, ints_rep, ints_splice, ints_seg, len_ints] at p17)
                  exact calls_of_yesV sound tab_ok specs_ok overs_ok c_y11 rfl (tellA_ok (told_cons h0 (told_cons h1 (told_cons h2 (told_cons h3 (told_cons h4 (told_cons h5 (told_cons h6 (told_cons h7 (told_cons h8 (told_cons h9 (told_cons h10 (told_cons h11 (told_cons h12 (told_cons h13 (told_cons h14 (told_cons h15 (told_cons h16 (told_cons h17 told_nil))))))))))))))))))) r0 hargs
              · have p9 := (Q.holds'_iff _ _ _).2 h9
                simp only [c_q9, om_0, om_10, om_20, om_f, allTold', dutiesTold, factsA, factsC, factsP, factsR, AV.facts, RW.facts, inK, and_true, Q.holds', E.i, E.s, E.n, D.nat, E.den, BO.den, UO.den, TO.den, D.toInt_int, D.toList_list, D.ints_ofInts, i64min, i64max, u8min, u8max, u16min, u16max, u32min, u32max, u64min, u64max, i32min, i32max, Om.sub, selI, ints_app, ints_cut, ints_upd, ints_rep, ints_splice, ints_seg, len_ints] at p9
                have h10 : Q.val (om n0 n1 n2) c_q10 = false := (Q.holds'_iff _ _ _).1 (by
                  simp only [c_q10, om_0, om_10, om_20, om_f, allTold', dutiesTold, factsA, factsC, factsP, factsR, AV.facts, RW.facts, inK, and_true, Q.holds', E.i, E.s, E.n, D.nat, E.den, BO.den, UO.den, TO.den, D.toInt_int, D.toList_list, D.ints_ofInts, i64min, i64max, u8min, u8max, u16min, u16max, u32min, u32max, u64min, u64max, i32min, i32max, Om.sub, selI, ints_app, ints_cut, ints_upd, ints_rep, ints_splice, ints_seg, len_ints]
                  all_goals (first | omega | (obtain ⟨k1, k2, k3, k4, k5, k6, k7, k8, k9, k10, k11, k12, k13⟩ := parts_ok (n := n0) (m := n1) (f := n2) (by omega) (by omega) (by omega) (by omega) (by omega); omega)))
                have p10 := (Q.holds'_iff _ _ _).2 h10
                try (
                  simp only [c_q10, om_0, om_10, om_20, om_f, allTold', dutiesTold, factsA, factsC, factsP, factsR, AV.facts, RW.facts, inK, and_true, Q.holds', E.i, E.s, E.n, D.nat, E.den, BO.den, UO.den, TO.den, D.toInt_int, D.toList_list, D.ints_ofInts, i64min, i64max, u8min, u8max, u16min, u16max, u32min, u32max, u64min, u64max, i32min, i32max, Om.sub, selI, ints_app, ints_cut, ints_upd, ints_rep, ints_splice, ints_seg, len_ints] at p10)
                cases h11 : Q.val (om n0 n1 n2) c_q11
                · have p11 := (Q.holds'_iff _ _ _).2 h11
                  simp only [c_q11, om_0, om_10, om_20, om_f, allTold', dutiesTold, factsA, factsC, factsP, factsR, AV.facts, RW.facts, inK, and_true, Q.holds', E.i, E.s, E.n, D.nat, E.den, BO.den, UO.den, TO.den, D.toInt_int, D.toList_list, D.ints_ofInts, i64min, i64max, u8min, u8max, u16min, u16max, u32min, u32max, u64min, u64max, i32min, i32max, Om.sub, selI, ints_app, ints_cut, ints_upd, ints_rep, ints_splice, ints_seg, len_ints] at p11
                  have h12 : Q.val (om n0 n1 n2) c_q12 = true := (Q.holds'_iff _ _ _).1 (by
                    simp only [c_q12, om_0, om_10, om_20, om_f, allTold', dutiesTold, factsA, factsC, factsP, factsR, AV.facts, RW.facts, inK, and_true, Q.holds', E.i, E.s, E.n, D.nat, E.den, BO.den, UO.den, TO.den, D.toInt_int, D.toList_list, D.ints_ofInts, i64min, i64max, u8min, u8max, u16min, u16max, u32min, u32max, u64min, u64max, i32min, i32max, Om.sub, selI, ints_app, ints_cut, ints_upd, ints_rep, ints_splice, ints_seg, len_ints]
                    all_goals (first | omega | (obtain ⟨k1, k2, k3, k4, k5, k6, k7, k8, k9, k10, k11, k12, k13⟩ := parts_ok (n := n0) (m := n1) (f := n2) (by omega) (by omega) (by omega) (by omega) (by omega); omega)))
                  have p12 := (Q.holds'_iff _ _ _).2 h12
                  try (
                    simp only [c_q12, om_0, om_10, om_20, om_f, allTold', dutiesTold, factsA, factsC, factsP, factsR, AV.facts, RW.facts, inK, and_true, Q.holds', E.i, E.s, E.n, D.nat, E.den, BO.den, UO.den, TO.den, D.toInt_int, D.toList_list, D.ints_ofInts, i64min, i64max, u8min, u8max, u16min, u16max, u32min, u32max, u64min, u64max, i32min, i32max, Om.sub, selI, ints_app, ints_cut, ints_upd, ints_rep, ints_splice, ints_seg, len_ints] at p12)
                  have h13 : Q.val (om n0 n1 n2) c_q13 = true := (Q.holds'_iff _ _ _).1 (by
                    simp only [c_q13, om_0, om_10, om_20, om_f, allTold', dutiesTold, factsA, factsC, factsP, factsR, AV.facts, RW.facts, inK, and_true, Q.holds', E.i, E.s, E.n, D.nat, E.den, BO.den, UO.den, TO.den, D.toInt_int, D.toList_list, D.ints_ofInts, i64min, i64max, u8min, u8max, u16min, u16max, u32min, u32max, u64min, u64max, i32min, i32max, Om.sub, selI, ints_app, ints_cut, ints_upd, ints_rep, ints_splice, ints_seg, len_ints]
                    all_goals (first | omega | (obtain ⟨k1, k2, k3, k4, k5, k6, k7, k8, k9, k10, k11, k12, k13⟩ := parts_ok (n := n0) (m := n1) (f := n2) (by omega) (by omega) (by omega) (by omega) (by omega); omega)))
                  have p13 := (Q.holds'_iff _ _ _).2 h13
                  try (
                    simp only [c_q13, om_0, om_10, om_20, om_f, allTold', dutiesTold, factsA, factsC, factsP, factsR, AV.facts, RW.facts, inK, and_true, Q.holds', E.i, E.s, E.n, D.nat, E.den, BO.den, UO.den, TO.den, D.toInt_int, D.toList_list, D.ints_ofInts, i64min, i64max, u8min, u8max, u16min, u16max, u32min, u32max, u64min, u64max, i32min, i32max, Om.sub, selI, ints_app, ints_cut, ints_upd, ints_rep, ints_splice, ints_seg, len_ints] at p13)
                  have h14 : Q.val (om n0 n1 n2) c_q14 = true := (Q.holds'_iff _ _ _).1 (by
                    simp only [c_q14, om_0, om_10, om_20, om_f, allTold', dutiesTold, factsA, factsC, factsP, factsR, AV.facts, RW.facts, inK, and_true, Q.holds', E.i, E.s, E.n, D.nat, E.den, BO.den, UO.den, TO.den, D.toInt_int, D.toList_list, D.ints_ofInts, i64min, i64max, u8min, u8max, u16min, u16max, u32min, u32max, u64min, u64max, i32min, i32max, Om.sub, selI, ints_app, ints_cut, ints_upd, ints_rep, ints_splice, ints_seg, len_ints]
                    all_goals (first | omega | (obtain ⟨k1, k2, k3, k4, k5, k6, k7, k8, k9, k10, k11, k12, k13⟩ := parts_ok (n := n0) (m := n1) (f := n2) (by omega) (by omega) (by omega) (by omega) (by omega); omega)))
                  have p14 := (Q.holds'_iff _ _ _).2 h14
                  try (
                    simp only [c_q14, om_0, om_10, om_20, om_f, allTold', dutiesTold, factsA, factsC, factsP, factsR, AV.facts, RW.facts, inK, and_true, Q.holds', E.i, E.s, E.n, D.nat, E.den, BO.den, UO.den, TO.den, D.toInt_int, D.toList_list, D.ints_ofInts, i64min, i64max, u8min, u8max, u16min, u16max, u32min, u32max, u64min, u64max, i32min, i32max, Om.sub, selI, ints_app, ints_cut, ints_upd, ints_rep, ints_splice, ints_seg, len_ints] at p14)
                  have h15 : Q.val (om n0 n1 n2) c_q15 = false := (Q.holds'_iff _ _ _).1 (by
                    simp only [c_q15, om_0, om_10, om_20, om_f, allTold', dutiesTold, factsA, factsC, factsP, factsR, AV.facts, RW.facts, inK, and_true, Q.holds', E.i, E.s, E.n, D.nat, E.den, BO.den, UO.den, TO.den, D.toInt_int, D.toList_list, D.ints_ofInts, i64min, i64max, u8min, u8max, u16min, u16max, u32min, u32max, u64min, u64max, i32min, i32max, Om.sub, selI, ints_app, ints_cut, ints_upd, ints_rep, ints_splice, ints_seg, len_ints]
                    all_goals (first | omega | (obtain ⟨k1, k2, k3, k4, k5, k6, k7, k8, k9, k10, k11, k12, k13⟩ := parts_ok (n := n0) (m := n1) (f := n2) (by omega) (by omega) (by omega) (by omega) (by omega); omega)))
                  have p15 := (Q.holds'_iff _ _ _).2 h15
                  try (
                    simp only [c_q15, om_0, om_10, om_20, om_f, allTold', dutiesTold, factsA, factsC, factsP, factsR, AV.facts, RW.facts, inK, and_true, Q.holds', E.i, E.s, E.n, D.nat, E.den, BO.den, UO.den, TO.den, D.toInt_int, D.toList_list, D.ints_ofInts, i64min, i64max, u8min, u8max, u16min, u16max, u32min, u32max, u64min, u64max, i32min, i32max, Om.sub, selI, ints_app, ints_cut, ints_upd, ints_rep, ints_splice, ints_seg, len_ints] at p15)
                  have h16 : Q.val (om n0 n1 n2) c_q16 = false := (Q.holds'_iff _ _ _).1 (by
                    simp only [c_q16, om_0, om_10, om_20, om_f, allTold', dutiesTold, factsA, factsC, factsP, factsR, AV.facts, RW.facts, inK, and_true, Q.holds', E.i, E.s, E.n, D.nat, E.den, BO.den, UO.den, TO.den, D.toInt_int, D.toList_list, D.ints_ofInts, i64min, i64max, u8min, u8max, u16min, u16max, u32min, u32max, u64min, u64max, i32min, i32max, Om.sub, selI, ints_app, ints_cut, ints_upd, ints_rep, ints_splice, ints_seg, len_ints]
                    all_goals (first | omega | (obtain ⟨k1, k2, k3, k4, k5, k6, k7, k8, k9, k10, k11, k12, k13⟩ := parts_ok (n := n0) (m := n1) (f := n2) (by omega) (by omega) (by omega) (by omega) (by omega); omega)))
                  have p16 := (Q.holds'_iff _ _ _).2 h16
                  try (
                    simp only [c_q16, om_0, om_10, om_20, om_f, allTold', dutiesTold, factsA, factsC, factsP, factsR, AV.facts, RW.facts, inK, and_true, Q.holds', E.i, E.s, E.n, D.nat, E.den, BO.den, UO.den, TO.den, D.toInt_int, D.toList_list, D.ints_ofInts, i64min, i64max, u8min, u8max, u16min, u16max, u32min, u32max, u64min, u64max, i32min, i32max, Om.sub, selI, ints_app, ints_cut, ints_upd, ints_rep, ints_splice, ints_seg, len_ints] at p16)
                  have h17 : Q.val (om n0 n1 n2) c_q17 = false := (Q.holds'_iff _ _ _).1 (by
                    simp only [c_q17, om_0, om_10, om_20, om_f, allTold', dutiesTold, factsA, factsC, factsP, factsR, AV.facts, RW.facts, inK, and_true, Q.holds', E.i, E.s, E.n, D.nat, E.den, BO.den, UO.den, TO.den, D.toInt_int, D.toList_list, D.ints_ofInts, i64min, i64max, u8min, u8max, u16min, u16max, u32min, u32max, u64min, u64max, i32min, i32max, Om.sub, selI, ints_app, ints_cut, ints_upd, ints_rep, ints_splice, ints_seg, len_ints]
                    all_goals (first | omega | (obtain ⟨k1, k2, k3, k4, k5, k6, k7, k8, k9, k10, k11, k12, k13⟩ := parts_ok (n := n0) (m := n1) (f := n2) (by omega) (by omega) (by omega) (by omega) (by omega); omega)))
                  have p17 := (Q.holds'_iff _ _ _).2 h17
                  try (
                    simp only [c_q17, om_0, om_10, om_20, om_f, allTold', dutiesTold, factsA, factsC, factsP, factsR, AV.facts, RW.facts, inK, and_true, Q.holds', E.i, E.s, E.n, D.nat, E.den, BO.den, UO.den, TO.den, D.toInt_int, D.toList_list, D.ints_ofInts, i64min, i64max, u8min, u8max, u16min, u16max, u32min, u32max, u64min, u64max, i32min, i32max, Om.sub, selI, ints_app, ints_cut, ints_upd, ints_rep, ints_splice, ints_seg, len_ints] at p17)
                  exact calls_of_yesV sound tab_ok specs_ok overs_ok c_y10 rfl (tellA_ok (told_cons h0 (told_cons h1 (told_cons h2 (told_cons h3 (told_cons h4 (told_cons h5 (told_cons h6 (told_cons h7 (told_cons h8 (told_cons h9 (told_cons h10 (told_cons h11 (told_cons h12 (told_cons h13 (told_cons h14 (told_cons h15 (told_cons h16 (told_cons h17 told_nil))))))))))))))))))) r0 hargs
                · have p11 := (Q.holds'_iff _ _ _).2 h11
                  simp only [c_q11, om_0, om_10, om_20, om_f, allTold', dutiesTold, factsA, factsC, factsP, factsR, AV.facts, RW.facts, inK, and_true, Q.holds', E.i, E.s, E.n, D.nat, E.den, BO.den, UO.den, TO.den, D.toInt_int, D.toList_list, D.ints_ofInts, i64min, i64max, u8min, u8max, u16min, u16max, u32min, u32max, u64min, u64max, i32min, i32max, Om.sub, selI, ints_app, ints_cut, ints_upd, ints_rep, ints_splice, ints_seg, len_ints] at p11
                  have h12 : Q.val (om n0 n1 n2) c_q12 = false := (Q.holds'_iff _ _ _).1 (by
                    simp only [c_q12, om_0, om_10, om_20, om_f, allTold', dutiesTold, factsA, factsC, factsP, factsR, AV.facts, RW.facts, inK, and_true, Q.holds', E.i, E.s, E.n, D.nat, E.den, BO.den, UO.den, TO.den, D.toInt_int, D.toList_list, D.ints_ofInts, i64min, i64max, u8min, u8max, u16min, u16max, u32min, u32max, u64min, u64max, i32min, i32max, Om.sub, selI, ints_app, ints_cut, ints_upd, ints_rep, ints_splice, ints_seg, len_ints]
                    all_goals (first | omega | (obtain ⟨k1, k2, k3, k4, k5, k6, k7, k8, k9, k10, k11, k12, k13⟩ := parts_ok (n := n0) (m := n1) (f := n2) (by omega) (by omega) (by omega) (by omega) (by omega); omega)))
                  have p12 := (Q.holds'_iff _ _ _).2 h12
                  try (
                    simp only [c_q12, om_0, om_10, om_20, om_f, allTold', dutiesTold, factsA, factsC, factsP, factsR, AV.facts, RW.facts, inK, and_true, Q.holds', E.i, E.s, E.n, D.nat, E.den, BO.den, UO.den, TO.den, D.toInt_int, D.toList_list, D.ints_ofInts, i64min, i64max, u8min, u8max, u16min, u16max, u32min, u32max, u64min, u64max, i32min, i32max, Om.sub, selI, ints_app, ints_cut, ints_upd, ints_rep, ints_splice, ints_seg, len_ints] at p12)
                  have h13 : Q.val (om n0 n1 n2) c_q13 = true := (Q.holds'_iff _ _ _).1 (by
                    simp only [c_q13, om_0, om_10, om_20, om_f, allTold', dutiesTold, factsA, factsC, factsP, factsR, AV.facts, RW.facts, inK, and_true, Q.holds', E.i, E.s, E.n, D.nat, E.den, BO.den, UO.den, TO.den, D.toInt_int, D.toList_list, D.ints_ofInts, i64min, i64max, u8min, u8max, u16min, u16max, u32min, u32max, u64min, u64max, i32min, i32max, Om.sub, selI, ints_app, ints_cut, ints_upd, ints_rep, ints_splice, ints_seg, len_ints]
                    all_goals (first | omega | (obtain ⟨k1, k2, k3, k4, k5, k6, k7, k8, k9, k10, k11, k12, k13⟩ := parts_ok (n := n0) (m := n1) (f := n2) (by omega) (by omega) (by omega) (by omega) (by omega); omega)))
                  have p13 := (Q.holds'_iff _ _ _).2 h13
                  try (
                    simp only [c_q13, om_0, om_10, om_20, om_f, allTold', dutiesTold, factsA, factsC, factsP, factsR, AV.facts, RW.facts, inK, and_true, Q.holds', E.i, E.s, E.n, D.nat, E.den, BO.den, UO.den, TO.den, D.toInt_int, D.toList_list, D.ints_ofInts, i64min, i64max, u8min, u8max, u16min, u16max, u32min, u32max, u64min, u64max, i32min, i32max, Om.sub, selI, ints_app, ints_cut, ints_upd, ints_rep, ints_splice, ints_seg, len_ints] at p13)
                  have h14 : Q.val (om n0 n1 n2) c_q14 = true := (Q.holds'_iff _ _ _).1 (by
                    simp only [c_q14, om_0, om_10, om_20, om_f, allTold', dutiesTold, factsA, factsC, factsP, factsR, AV.facts, RW.facts, inK, and_true, Q.holds', E.i, E.s, E.n, D.nat, E.den, BO.den, UO.den, TO.den, D.toInt_int, D.toList_list, D.ints_ofInts, i64min, i64max, u8min, u8max, u16min, u16max, u32min, u32max, u64min, u64max, i32min, i32max, Om.sub, selI, ints_app, ints_cut, ints_upd, ints_rep, ints_splice, ints_seg, len_ints]
                    all_goals (first | omega | (obtain ⟨k1, k2, k3, k4, k5, k6, k7, k8, k9, k10, k11, k12, k13⟩ := parts_ok (n := n0) (m := n1) (f := n2) (by omega) (by omega) (by omega) (by omega) (by omega); omega)))
                  have p14 := (Q.holds'_iff _ _ _).2 h14
                  try (
                    simp only [c_q14, om_0, om_10, om_20, om_f, allTold', dutiesTold, factsA, factsC, factsP, factsR, AV.facts, RW.facts, inK, and_true, Q.holds', E.i, E.s, E.n, D.nat, E.den, BO.den, UO.den, TO.den, D.toInt_int, D.toList_list, D.ints_ofInts, i64min, i64max, u8min, u8max, u16min, u16max, u32min, u32max, u64min, u64max, i32min, i32max, Om.sub, selI, ints_app, ints_cut, ints_upd, ints_rep, ints_splice, ints_seg, len_ints] at p14)
                  have h15 : Q.val (om n0 n1 n2) c_q15 = false := (Q.holds'_iff _ _ _).1 (by
                    simp only [c_q15, om_0, om_10, om_20, om_f, allTold', dutiesTold, factsA, factsC, factsP, factsR, AV.facts, RW.facts, inK, and_true, Q.holds', E.i, E.s, E.n, D.nat, E.den, BO.den, UO.den, TO.den, D.toInt_int, D.toList_list, D.ints_ofInts, i64min, i64max, u8min, u8max, u16min, u16max, u32min, u32max, u64min, u64max, i32min, i32max, Om.sub, selI, ints_app, ints_cut, ints_upd, ints_rep, ints_splice, ints_seg, len_ints]
                    all_goals (first | omega | (obtain ⟨k1, k2, k3, k4, k5, k6, k7, k8, k9, k10, k11, k12, k13⟩ := parts_ok (n := n0) (m := n1) (f := n2) (by omega) (by omega) (by omega) (by omega) (by omega); omega)))
                  have p15 := (Q.holds'_iff _ _ _).2 h15
                  try (
                    simp only [c_q15, om_0, om_10, om_20, om_f, allTold', dutiesTold, factsA, factsC, factsP, factsR, AV.facts, RW.facts, inK, and_true, Q.holds', E.i, E.s, E.n, D.nat, E.den, BO.den, UO.den, TO.den, D.toInt_int, D.toList_list, D.ints_ofInts, i64min, i64max, u8min, u8max, u16min, u16max, u32min, u32max, u64min, u64max, i32min, i32max, Om.sub, selI, ints_app, ints_cut, ints_upd, ints_rep, ints_splice, ints_seg, len_ints] at p15)
                  have h16 : Q.val (om n0 n1 n2) c_q16 = false := (Q.holds'_iff _ _ _).1 (by
                    simp only [c_q16, om_0, om_10, om_20, om_f, allTold', dutiesTold, factsA, factsC, factsP, factsR, AV.facts, RW.facts, inK, and_true, Q.holds', E.i, E.s, E.n, D.nat, E.den, BO.den, UO.den, TO.den, D.toInt_int, D.toList_list, D.ints_ofInts, i64min, i64max, u8min, u8max, u16min, u16max, u32min, u32max, u64min, u64max, i32min, i32max, Om.sub, selI, ints_app, ints_cut, ints_upd, ints_rep, ints_splice, ints_seg, len_ints]
                    all_goals (first | omega | (obtain ⟨k1, k2, k3, k4, k5, k6, k7, k8, k9, k10, k11, k12, k13⟩ := parts_ok (n := n0) (m := n1) (f := n2) (by omega) (by omega) (by omega) (by omega) (by omega); omega)))
                  have p16 := (Q.holds'_iff _ _ _).2 h16
                  try (
                    simp only [c_q16, om_0, om_10, om_20, om_f, allTold', dutiesTold, factsA, factsC, factsP, factsR, AV.facts, RW.facts, inK, and_true, Q.holds', E.i, E.s, E.n, D.nat, E.den, BO.den, UO.den, TO.den, D.toInt_int, D.toList_list, D.ints_ofInts, i64min, i64max, u8min, u8max, u16min, u16max, u32min, u32max, u64min, u64max, i32min, i32max, Om.sub, selI, ints_app, ints_cut, ints_upd, ints_rep, ints_splice, ints_seg, len_ints] at p16)
                  have h17 : Q.val (om n0 n1 n2) c_q17 = false := (Q.holds'_iff _ _ _).1 (by
                    simp only [c_q17, om_0, om_10, om_20, om_f, allTold', dutiesTold, factsA, factsC, factsP, factsR, AV.facts, RW.facts, inK, and_true, Q.holds', E.i, E.s, E.n, D.nat, E.den, BO.den, UO.den, TO.den, D.toInt_int, D.toList_list, D.ints_ofInts, i64min, i64max, u8min, u8max, u16min, u16max, u32min, u32max, u64min, u64max, i32min, i32max, Om.sub, selI, ints_app, ints_cut, ints_upd, ints_rep, ints_splice, ints_seg, len_ints]
                    all_goals (first | omega | (obtain ⟨k1, k2, k3, k4, k5, k6, k7, k8, k9, k10, k11, k12, k13⟩ := parts_ok (n := n0) (m := n1) (f := n2) (by omega) (by omega) (by omega) (by omega) (by omega); omega)))
                  have p17 := (Q.holds'_iff _ _ _).2 h17
                  try (
                    simp only [c_q17, om_0, om_10, om_20, om_f, allTold', dutiesTold, factsA, factsC, factsP, factsR, AV.facts, RW.facts, inK, and_true, Q.holds', E.i, E.s, E.n, D.nat, E.den, BO.den, UO.den, TO.den, D.toInt_int, D.toList_list, D.ints_ofInts, i64min, i64max, u8min, u8max, u16min, u16max, u32min, u32max, u64min, u64max, i32min, i32max, Om.sub, selI, ints_app, ints_cut, ints_upd, ints_rep, ints_splice, ints_seg, len_ints] at p17)
                  exact calls_of_yesV sound tab_ok specs_ok overs_ok c_y5 rfl (tellA_ok (told_cons h0 (told_cons h1 (told_cons h2 (told_cons h3 (told_cons h4 (told_cons h5 (told_cons h6 (told_cons h7 (told_cons h8 (told_cons h9 (told_cons h10 (told_cons h11 (told_cons h12 (told_cons h13 (told_cons h14 (told_cons h15 (told_cons h16 (told_cons h17 told_nil))))))))))))))))))) r0 hargs

theorem underI3 : Try.prog.underlying 3 = some (.int .i64) := by kernel_rfl

set_option maxRecDepth 100000 in
theorem lifted (os : Os) (started : os.Started) (H : Type) (enc : TypeId × Value → H) :
    ReturnsInHanded {} Try.checked os 3 .any (Rows.ratioPartsSpec.pre6 enc Try.prog Try.f3 Rows.ratioPartsRow.domain false) (Rows.ratioPartsSpec.post enc Try.prog Try.f3 false true false false) := by
  refine returnsInHanded_of_change (C := Try.checked) own started (by kernel_rfl) Try.func3
    (ChangeSpec.witness6 (enc := enc) (C := Try.checked) false ⟨#[], #[.int .i64 0, .int .i64 0, .int .i64 0], []⟩ 8 (by kernel_rfl) (by kernel_rfl) (by kernel_rfl) (by kernel_rfl)) ?_
  intro W base args ds gs before hval0 hW hcnd _
  have hval : ∀ (j : Nat) t v, Try.f3.params[j]? = some t → args[j]? = some v → Value.okWide Try.prog W .any base t v := hval0
  have hW' := hW
  have hlt := hW.lt
  obtain ⟨p, q, hA0, hV, rfl, hfz, hnd⟩ := hW
  have hA : DataW.TrodAll enc Try.prog W 0 (fun _ => true) true Try.f3.params.toList args.toList ds p := hA0
  have hAll := hA
  rw [Try.params3] at hA hval hAll
  obtain ⟨rfl, rfl⟩ := trodVars_none hV
  obtain ⟨v0, v1, v2, d0, d1, d2, p0, p1, p2, rfl, rfl, rfl, h0, h1, h2⟩ := trodAll_three hA
  obtain ⟨n0, rfl, rfl, rfl, wn0⟩ := open_int underI3 (hval 0 3 _ rfl rfl) h0
  have wn0 := wf_inK wn0
  obtain ⟨n1, rfl, rfl, rfl, wn1⟩ := open_int underI3 (hval 1 3 _ rfl rfl) h1
  have wn1 := wf_inK wn1
  obtain ⟨n2, rfl, rfl, rfl, wn2⟩ := open_int underI3 (hval 2 3 _ rfl rfl) h2
  have wn2 := wf_inK wn2
  clear hA0 hval0
  have hcall : Calls Try.prog 3 #[.int .i64 n0, .int .i64 n1, .int .i64 n2] W fun e w' => e = .returned (.bool true) ∧ Below W.heap.size W w' := by
    exact c_walk wn0 wn1 wn2 (globs0 _ W)
  refine hcall.mono fun e W' ⟨he, hg⟩ => ?_
  subst he
  exact ⟨_, rfl, _, [], _, [], _, [], hW', trodAll_cons_mk (shut_bool Try.underlying4 _) trodAll_mk0, trodAll_stays laid hg _ _ _ _ hAll (fun x hx => hlt x (by simp at hx)) (by kernel_rfl), rfl, hg.frame _, fun h => by cases h⟩

theorem over : Rows.ratioPartsRow.holds Try.pinned (OpenSpec.ofChange Rows.ratioPartsSpec) :=
  OpenClaim.holds_of_wide 3 Try.f3 rfl rfl rfl rfl rfl rfl rfl ⟨rfl, rfl, rfl, rfl, rfl⟩ rfl rfl rfl rfl rfl (by kernel_rfl) Try.func3 (by kernel_rfl)
    (of_decide_eq_true (by kernel_rfl)) (by unfold Func.isWrapper; first | (rw [if_pos (by decide +kernel)]; kernel_rfl) | (rw [if_neg (by decide +kernel)]; exact ⟨rfl, rfl⟩))
    (fun os started H enc _ => lifted os started H enc)

/-- The statement. -/
theorem proved : Rows.RatioPartsSaid :=
  over
#print axioms proved
end Go.Proofs.Ytgfaopbifonacaa.ratioParts
