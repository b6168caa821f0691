/-
  The law RollForgets of the layer roll holds of the code: for all inputs the call returns true, and the arguments read as they did. No condition.
-/
import Derived.Test.YtfmnbdnapmpahaaCo
import Derived.Test.YtfmnbdnapmpahaaSylm
import Derived.Test.YtfmnbdnapmpahaaRa
import Derived.WalkKit
import Derived.ProofKit
import Derived.OpenShut
set_option linter.unusedSimpArgs false
set_option linter.unusedVariables false
namespace Go.Proofs.Ytfmnbdnapmpahaa.rollForgets
open Go.ChangeShapes Go.WideShapes Go.ChangeAt Go.RowKit Go.Ev Go.Proofs.Ytfmnbdnapmpahaa.Co Go.Proofs.Ytfmnbdnapmpahaa.Ra

def om (len0 cap0 : Nat) (zs0 : List Int) (len1 cap1 : Nat) (zs1 : List Int) (len2 cap2 : Nat) (zs2 : List Int) : Om := ⟨fun _ => .bool false, fun i => if i = 0 then .int len0 else if i = 1 then .int cap0 else if i = 2 then D.ofInts zs0 else if i = 10 then .int len1 else if i = 11 then .int cap1 else if i = 12 then D.ofInts zs1 else if i = 20 then .int len2 else if i = 21 then .int cap2 else if i = 22 then D.ofInts zs2 else .int 0, F⟩
theorem om_0 (len0 cap0 : Nat) (zs0 : List Int) (len1 cap1 : Nat) (zs1 : List Int) (len2 cap2 : Nat) (zs2 : List Int) : (om len0 cap0 zs0 len1 cap1 zs1 len2 cap2 zs2).d 0 = .int len0 := rfl
theorem om_1 (len0 cap0 : Nat) (zs0 : List Int) (len1 cap1 : Nat) (zs1 : List Int) (len2 cap2 : Nat) (zs2 : List Int) : (om len0 cap0 zs0 len1 cap1 zs1 len2 cap2 zs2).d 1 = .int cap0 := rfl
theorem om_2 (len0 cap0 : Nat) (zs0 : List Int) (len1 cap1 : Nat) (zs1 : List Int) (len2 cap2 : Nat) (zs2 : List Int) : (om len0 cap0 zs0 len1 cap1 zs1 len2 cap2 zs2).d 2 = D.ofInts zs0 := rfl
theorem om_10 (len0 cap0 : Nat) (zs0 : List Int) (len1 cap1 : Nat) (zs1 : List Int) (len2 cap2 : Nat) (zs2 : List Int) : (om len0 cap0 zs0 len1 cap1 zs1 len2 cap2 zs2).d 10 = .int len1 := rfl
theorem om_11 (len0 cap0 : Nat) (zs0 : List Int) (len1 cap1 : Nat) (zs1 : List Int) (len2 cap2 : Nat) (zs2 : List Int) : (om len0 cap0 zs0 len1 cap1 zs1 len2 cap2 zs2).d 11 = .int cap1 := rfl
theorem om_12 (len0 cap0 : Nat) (zs0 : List Int) (len1 cap1 : Nat) (zs1 : List Int) (len2 cap2 : Nat) (zs2 : List Int) : (om len0 cap0 zs0 len1 cap1 zs1 len2 cap2 zs2).d 12 = D.ofInts zs1 := rfl
theorem om_20 (len0 cap0 : Nat) (zs0 : List Int) (len1 cap1 : Nat) (zs1 : List Int) (len2 cap2 : Nat) (zs2 : List Int) : (om len0 cap0 zs0 len1 cap1 zs1 len2 cap2 zs2).d 20 = .int len2 := rfl
theorem om_21 (len0 cap0 : Nat) (zs0 : List Int) (len1 cap1 : Nat) (zs1 : List Int) (len2 cap2 : Nat) (zs2 : List Int) : (om len0 cap0 zs0 len1 cap1 zs1 len2 cap2 zs2).d 21 = .int cap2 := rfl
theorem om_22 (len0 cap0 : Nat) (zs0 : List Int) (len1 cap1 : Nat) (zs1 : List Int) (len2 cap2 : Nat) (zs2 : List Int) : (om len0 cap0 zs0 len1 cap1 zs1 len2 cap2 zs2).d 22 = D.ofInts zs2 := rfl
theorem om_f (len0 cap0 : Nat) (zs0 : List Int) (len1 cap1 : Nat) (zs1 : List Int) (len2 cap2 : Nat) (zs2 : List Int) : (om len0 cap0 zs0 len1 cap1 zs1 len2 cap2 zs2).f = F := rfl

def c_nil_nil_nil_t0 : List (Q × Bool) := []
set_option maxRecDepth 100000 in
theorem c_nil_nil_nil_y0 : yesOf Try.prog (knownV (tellA c_nil_nil_nil_t0) tab specs overs) 6000 60 7 [.nilslice, .nilslice, .nilslice] (globSt g0) = true := by kernel_rfl
theorem c_nil_nil_nil_walk {W : World}  (hG : GlobsR (om 0 0 [] 0 0 [] 0 0 []) W g0) : Calls Try.prog 7 #[.slice none 0 0, .slice none 0 0, .slice none 0 0] W fun e w' => e = .returned (.bool true) ∧ Below W.heap.size W w' := by
  have r0 := Rel.globs (om 0 0 [] 0 0 [] 0 0 []) W g0 hG
  have hargs : VRs (Env.none (om 0 0 [] 0 0 [] 0 0 [])) [.nilslice, .nilslice, .nilslice] [.slice none 0 0, .slice none 0 0, .slice none 0 0] := VRs_cons vr_nil (VRs_cons vr_nil (VRs_cons vr_nil (VRs_nil)))
  refine calls_of_yesV sound tab_ok specs_ok overs_ok c_nil_nil_nil_y0 rfl (tellA_ok (allTold'_iff.1 ?_)) r0 hargs
  simp only [c_nil_nil_nil_t0, om_0, om_1, om_2, om_10, om_11, om_12, om_20, om_21, om_22, om_f, allTold', dutiesTold, factsA, factsP, factsR, AV.facts, RW.facts, inK, and_true, Q.holds', E.i, E.s, E.n, D.nat, E.den, BO.den, UO.den, TO.den, D.toInt_int, D.toList_list, D.ints_ofInts, i64min, i64max, u8min, u8max, u16min, u16max, u32min, u32max, u64min, u64max, i32min, i32max, Om.sub, selI, ints_app, ints_cut, ints_upd, ints_rep, ints_splice, len_ints]
  first | done | omega | trivial

def c_nil_nil_hol_t0 : List (Q × Bool) := []
set_option maxRecDepth 100000 in
theorem c_nil_nil_hol_y0 : yesOf Try.prog (knownV (tellA c_nil_nil_hol_t0) tab specs overs) 6000 60 7 [.nilslice, .nilslice, .hollow] (globSt g0) = true := by kernel_rfl
theorem c_nil_nil_hol_walk {W : World} (a2 : Addr) (c2 : Nat) (hG : GlobsR (om 0 0 [] 0 0 [] 0 0 []) W g0) : Calls Try.prog 7 #[.slice none 0 0, .slice none 0 0, .slice (some a2) 0 c2] W fun e w' => e = .returned (.bool true) ∧ Below W.heap.size W w' := by
  have r0 := Rel.globs (om 0 0 [] 0 0 [] 0 0 []) W g0 hG
  have hargs : VRs (Env.none (om 0 0 [] 0 0 [] 0 0 [])) [.nilslice, .nilslice, .hollow] [.slice none 0 0, .slice none 0 0, .slice (some a2) 0 c2] := VRs_cons vr_nil (VRs_cons vr_nil (VRs_cons (vr_hollow a2 c2) (VRs_nil)))
  refine calls_of_yesV sound tab_ok specs_ok overs_ok c_nil_nil_hol_y0 rfl (tellA_ok (allTold'_iff.1 ?_)) r0 hargs
  simp only [c_nil_nil_hol_t0, om_0, om_1, om_2, om_10, om_11, om_12, om_20, om_21, om_22, om_f, allTold', dutiesTold, factsA, factsP, factsR, AV.facts, RW.facts, inK, and_true, Q.holds', E.i, E.s, E.n, D.nat, E.den, BO.den, UO.den, TO.den, D.toInt_int, D.toList_list, D.ints_ofInts, i64min, i64max, u8min, u8max, u16min, u16max, u32min, u32max, u64min, u64max, i32min, i32max, Om.sub, selI, ints_app, ints_cut, ints_upd, ints_rep, ints_splice, len_ints]
  first | done | omega | trivial

def c_nil_nil_in_t0 : List (Q × Bool) := [((.fit .i64 (.var 20)), true),
  ((.le (.var 20) (.int 500)), false)]
set_option maxRecDepth 100000 in
theorem c_nil_nil_in_y0 : yesOf Try.prog (knownV (tellA c_nil_nil_in_t0) tab specs overs) 6000 60 7 [.nilslice, .nilslice, .sslice 1 (.int 0) (.var 20) (.var 21) false] ((globSt g0).newO (.eseq ⟨.u8, .var 20, .var 22⟩)) = true := by kernel_rfl
def c_nil_nil_in_t1 : List (Q × Bool) := [((.fit .i64 (.var 20)), true),
  ((.le (.var 20) (.int 500)), true),
  ((.le (.int 16) (.var 20)), false)]
set_option maxRecDepth 100000 in
theorem c_nil_nil_in_y1 : yesOf Try.prog (knownV (tellA c_nil_nil_in_t1) tab specs overs) 6000 60 7 [.nilslice, .nilslice, .sslice 1 (.int 0) (.var 20) (.var 21) false] ((globSt g0).newO (.eseq ⟨.u8, .var 20, .var 22⟩)) = true := by kernel_rfl
def c_nil_nil_in_t2 : List (Q × Bool) := [((.fit .i64 (.var 20)), true),
  ((.le (.var 20) (.int 500)), true),
  ((.le (.int 16) (.var 20)), true),
  ((.le (.int 0) (.var 20)), true),
  ((.le (.bi .add (.int 0) (.var 20)) (.var 20)), true),
  ((.same (.lits [0, 0, 0, 0, 0, 0, 0, 0, 0, 0, 0, 0, 0, 0, 0, 0]) (.fn 12 (.bi .pair (.var 22) (.bi .pair (.int 0) (.bi .pair (.int 0) (.bi .pair (.var 22) (.bi .pair (.int 0) (.bi .pair (.int 0) (.int 0))))))))), true),
  ((.eq (.int 0) (.bi .add (.int 0) (.int 0))), true),
  ((.eq (.int 0) (.fn 13 (.bi .pair (.var 22) (.bi .pair (.int 0) (.bi .pair (.int 0) (.bi .pair (.var 22) (.bi .pair (.int 0) (.bi .pair (.int 0) (.int 0))))))))), true),
  ((.fit .i64 (.bi .add (.var 20) (.int (-16)))), true),
  ((.le (.int 0) (.bi .add (.var 20) (.int (-16)))), true),
  ((.le (.bi .add (.var 20) (.int (-16))) (.var 20)), true),
  ((.le (.var 20) (.var 21)), true),
  ((.le (.int 16) (.bi .add (.int 0) (.var 20))), true),
  ((.le (.bi .add (.bi .add (.var 20) (.int (-16))) (.bi .sub (.var 20) (.bi .add (.var 20) (.int (-16))))) (.var 20)), true),
  ((.le (.bi .sub (.var 20) (.bi .add (.var 20) (.int (-16)))) (.int 1000000)), true),
  ((.eq (.fn 13 (.bi .pair (.var 22) (.bi .pair (.int 0) (.bi .pair (.int 0) (.bi .pair (.var 22) (.bi .pair (.int 0) (.bi .pair (.var 20) (.int 0)))))))) (.fn 2 (.bi .pair (.var 22) (.bi .pair (.bi .add (.var 20) (.int (-16))) (.bi .pair (.bi .add (.bi .add (.var 20) (.int (-16))) (.bi .sub (.var 20) (.bi .add (.var 20) (.int (-16))))) (.int 0)))))), true)]
set_option maxRecDepth 100000 in
theorem c_nil_nil_in_y2 : yesOf Try.prog (knownV (tellA c_nil_nil_in_t2) tab specs overs) 6000 60 7 [.nilslice, .nilslice, .sslice 1 (.int 0) (.var 20) (.var 21) false] ((globSt g0).newO (.eseq ⟨.u8, .var 20, .var 22⟩)) = true := by kernel_rfl
theorem c_nil_nil_in_walk {W : World} {v2 : Value} {b2 off2 len2 cap2 : Nat} {zs2 : List Int} (h2 : InSlice W .u8 v2 b2 off2 len2 cap2 zs2) (hG : GlobsR (om 0 0 [] 0 0 [] len2 cap2 zs2) W g0) : Calls Try.prog 7 #[.slice none 0 0, .slice none 0 0, v2] W fun e w' => e = .returned (.bool true) ∧ Below W.heap.size W w' := by
  have r0 := Rel.globs (om 0 0 [] 0 0 [] len2 cap2 zs2) W g0 hG
  obtain ⟨le2, r1, x2⟩ := h2.open r0 (l := 20) (c := 21) (x := 22) rfl rfl rfl
  have pos2 := h2.pos
  have lec2 := h2.le
  have max2 := h2.max
  have zl2 := h2.len
  have rng2 := h2.rng
  have hargs : VRs _ [.nilslice, .nilslice, .sslice 1 (.int 0) (.var 20) (.var 21) false] [.slice none 0 0, .slice none 0 0, v2] := VRs_cons vr_nil (VRs_cons vr_nil (VRs_cons x2 (VRs_nil)))
  by_cases h0 : 500 < len2
  · refine calls_of_yesV sound tab_ok specs_ok overs_ok c_nil_nil_in_y0 rfl (tellA_ok (allTold'_iff.1 ?_)) r1 hargs
    simp only [c_nil_nil_in_t0, om_0, om_1, om_2, om_10, om_11, om_12, om_20, om_21, om_22, om_f, allTold', dutiesTold, factsA, factsP, factsR, AV.facts, RW.facts, inK, and_true, Q.holds', E.i, E.s, E.n, D.nat, E.den, BO.den, UO.den, TO.den, D.toInt_int, D.toList_list, D.ints_ofInts, i64min, i64max, u8min, u8max, u16min, u16max, u32min, u32max, u64min, u64max, i32min, i32max, Om.sub, selI, ints_app, ints_cut, ints_upd, ints_rep, ints_splice, len_ints]
    omega
  · by_cases h1 : len2 < 16
    · refine calls_of_yesV sound tab_ok specs_ok overs_ok c_nil_nil_in_y1 rfl (tellA_ok (allTold'_iff.1 ?_)) r1 hargs
      simp only [c_nil_nil_in_t1, om_0, om_1, om_2, om_10, om_11, om_12, om_20, om_21, om_22, om_f, allTold', dutiesTold, factsA, factsP, factsR, AV.facts, RW.facts, inK, and_true, Q.holds', E.i, E.s, E.n, D.nat, E.den, BO.den, UO.den, TO.den, D.toInt_int, D.toList_list, D.ints_ofInts, i64min, i64max, u8min, u8max, u16min, u16max, u32min, u32max, u64min, u64max, i32min, i32max, Om.sub, selI, ints_app, ints_cut, ints_upd, ints_rep, ints_splice, len_ints]
      omega
    · refine calls_of_yesV sound tab_ok specs_ok overs_ok c_nil_nil_in_y2 rfl (tellA_ok (allTold'_iff.1 ?_)) r1 hargs
      simp only [c_nil_nil_in_t2, om_0, om_1, om_2, om_10, om_11, om_12, om_20, om_21, om_22, om_f, F2, F9, F11, F12, F13, Int.zero_add, allTold', dutiesTold, factsA, factsP, factsR, AV.facts, RW.facts, inK, and_true, Q.holds', E.i, E.s, E.n, D.nat, E.den, BO.den, UO.den, TO.den, D.toInt_int, D.toList_list, D.ints_ofInts, i64min, i64max, u8min, u8max, u16min, u16max, u32min, u32max, u64min, u64max, i32min, i32max, Om.sub, selI, ints_app, ints_cut, ints_upd, ints_rep, ints_splice, len_ints]
      have tA : twoI zs2 0 0 zs2 0 0 = [] := by unfold twoI; rw [prt_nil (by omega) (by omega)]; rfl
      have zA := win_two (x := zs2) (y := zs2) (o := 0) (n := 0) (p := 0) (m := len2) (by omega) (by omega) (by omega) (by omega) (by omega) (by omega)
      have tB : twoI zs2 0 0 zs2 0 0 = [] := by unfold twoI; rw [prt_nil (by omega) (by omega)]; rfl
      have zB := win_two (x := zs2) (y := zs2) (o := 0) (n := 0) (p := 0) (m := len2) (by omega) (by omega) (by omega) (by omega) (by omega) (by omega)
      simp only [Int.zero_add] at *
      and_intros <;> first | omega | rfl | trivial | (simp only [tA, tB]; first | done | rfl | omega) | (rw [show (len2 : Int) + -16 + ((len2 : Int) - ((len2 : Int) + -16)) = len2 by omega, show (len2 : Int) + -16 = (len2 : Int) - 16 by omega]; exact zA)

def c_nil_hol_nil_t0 : List (Q × Bool) := []
set_option maxRecDepth 100000 in
theorem c_nil_hol_nil_y0 : yesOf Try.prog (knownV (tellA c_nil_hol_nil_t0) tab specs overs) 6000 60 7 [.nilslice, .hollow, .nilslice] (globSt g0) = true := by kernel_rfl
theorem c_nil_hol_nil_walk {W : World} (a1 : Addr) (c1 : Nat) (hG : GlobsR (om 0 0 [] 0 0 [] 0 0 []) W g0) : Calls Try.prog 7 #[.slice none 0 0, .slice (some a1) 0 c1, .slice none 0 0] W fun e w' => e = .returned (.bool true) ∧ Below W.heap.size W w' := by
  have r0 := Rel.globs (om 0 0 [] 0 0 [] 0 0 []) W g0 hG
  have hargs : VRs (Env.none (om 0 0 [] 0 0 [] 0 0 [])) [.nilslice, .hollow, .nilslice] [.slice none 0 0, .slice (some a1) 0 c1, .slice none 0 0] := VRs_cons vr_nil (VRs_cons (vr_hollow a1 c1) (VRs_cons vr_nil (VRs_nil)))
  refine calls_of_yesV sound tab_ok specs_ok overs_ok c_nil_hol_nil_y0 rfl (tellA_ok (allTold'_iff.1 ?_)) r0 hargs
  simp only [c_nil_hol_nil_t0, om_0, om_1, om_2, om_10, om_11, om_12, om_20, om_21, om_22, om_f, allTold', dutiesTold, factsA, factsP, factsR, AV.facts, RW.facts, inK, and_true, Q.holds', E.i, E.s, E.n, D.nat, E.den, BO.den, UO.den, TO.den, D.toInt_int, D.toList_list, D.ints_ofInts, i64min, i64max, u8min, u8max, u16min, u16max, u32min, u32max, u64min, u64max, i32min, i32max, Om.sub, selI, ints_app, ints_cut, ints_upd, ints_rep, ints_splice, len_ints]
  first | done | omega | trivial

def c_nil_hol_hol_t0 : List (Q × Bool) := []
set_option maxRecDepth 100000 in
theorem c_nil_hol_hol_y0 : yesOf Try.prog (knownV (tellA c_nil_hol_hol_t0) tab specs overs) 6000 60 7 [.nilslice, .hollow, .hollow] (globSt g0) = true := by kernel_rfl
theorem c_nil_hol_hol_walk {W : World} (a1 : Addr) (c1 : Nat) (a2 : Addr) (c2 : Nat) (hG : GlobsR (om 0 0 [] 0 0 [] 0 0 []) W g0) : Calls Try.prog 7 #[.slice none 0 0, .slice (some a1) 0 c1, .slice (some a2) 0 c2] W fun e w' => e = .returned (.bool true) ∧ Below W.heap.size W w' := by
  have r0 := Rel.globs (om 0 0 [] 0 0 [] 0 0 []) W g0 hG
  have hargs : VRs (Env.none (om 0 0 [] 0 0 [] 0 0 [])) [.nilslice, .hollow, .hollow] [.slice none 0 0, .slice (some a1) 0 c1, .slice (some a2) 0 c2] := VRs_cons vr_nil (VRs_cons (vr_hollow a1 c1) (VRs_cons (vr_hollow a2 c2) (VRs_nil)))
  refine calls_of_yesV sound tab_ok specs_ok overs_ok c_nil_hol_hol_y0 rfl (tellA_ok (allTold'_iff.1 ?_)) r0 hargs
  simp only [c_nil_hol_hol_t0, om_0, om_1, om_2, om_10, om_11, om_12, om_20, om_21, om_22, om_f, allTold', dutiesTold, factsA, factsP, factsR, AV.facts, RW.facts, inK, and_true, Q.holds', E.i, E.s, E.n, D.nat, E.den, BO.den, UO.den, TO.den, D.toInt_int, D.toList_list, D.ints_ofInts, i64min, i64max, u8min, u8max, u16min, u16max, u32min, u32max, u64min, u64max, i32min, i32max, Om.sub, selI, ints_app, ints_cut, ints_upd, ints_rep, ints_splice, len_ints]
  first | done | omega | trivial

def c_nil_hol_in_t0 : List (Q × Bool) := [((.fit .i64 (.var 20)), true),
  ((.le (.var 20) (.int 500)), false)]
set_option maxRecDepth 100000 in
theorem c_nil_hol_in_y0 : yesOf Try.prog (knownV (tellA c_nil_hol_in_t0) tab specs overs) 6000 60 7 [.nilslice, .hollow, .sslice 1 (.int 0) (.var 20) (.var 21) false] ((globSt g0).newO (.eseq ⟨.u8, .var 20, .var 22⟩)) = true := by kernel_rfl
def c_nil_hol_in_t1 : List (Q × Bool) := [((.fit .i64 (.var 20)), true),
  ((.le (.var 20) (.int 500)), true),
  ((.le (.int 16) (.var 20)), false)]
set_option maxRecDepth 100000 in
theorem c_nil_hol_in_y1 : yesOf Try.prog (knownV (tellA c_nil_hol_in_t1) tab specs overs) 6000 60 7 [.nilslice, .hollow, .sslice 1 (.int 0) (.var 20) (.var 21) false] ((globSt g0).newO (.eseq ⟨.u8, .var 20, .var 22⟩)) = true := by kernel_rfl
def c_nil_hol_in_t2 : List (Q × Bool) := [((.fit .i64 (.var 20)), true),
  ((.le (.var 20) (.int 500)), true),
  ((.le (.int 16) (.var 20)), true),
  ((.le (.int 0) (.var 20)), true),
  ((.le (.bi .add (.int 0) (.var 20)) (.var 20)), true),
  ((.same (.lits [0, 0, 0, 0, 0, 0, 0, 0, 0, 0, 0, 0, 0, 0, 0, 0]) (.fn 12 (.bi .pair (.var 22) (.bi .pair (.int 0) (.bi .pair (.int 0) (.bi .pair (.var 22) (.bi .pair (.int 0) (.bi .pair (.int 0) (.int 0))))))))), true),
  ((.eq (.int 0) (.bi .add (.int 0) (.int 0))), true),
  ((.eq (.int 0) (.fn 13 (.bi .pair (.var 22) (.bi .pair (.int 0) (.bi .pair (.int 0) (.bi .pair (.var 22) (.bi .pair (.int 0) (.bi .pair (.int 0) (.int 0))))))))), true),
  ((.fit .i64 (.bi .add (.var 20) (.int (-16)))), true),
  ((.le (.int 0) (.bi .add (.var 20) (.int (-16)))), true),
  ((.le (.bi .add (.var 20) (.int (-16))) (.var 20)), true),
  ((.le (.var 20) (.var 21)), true),
  ((.le (.int 16) (.bi .add (.int 0) (.var 20))), true),
  ((.le (.bi .add (.bi .add (.var 20) (.int (-16))) (.bi .sub (.var 20) (.bi .add (.var 20) (.int (-16))))) (.var 20)), true),
  ((.le (.bi .sub (.var 20) (.bi .add (.var 20) (.int (-16)))) (.int 1000000)), true),
  ((.eq (.fn 13 (.bi .pair (.var 22) (.bi .pair (.int 0) (.bi .pair (.int 0) (.bi .pair (.var 22) (.bi .pair (.int 0) (.bi .pair (.var 20) (.int 0)))))))) (.fn 2 (.bi .pair (.var 22) (.bi .pair (.bi .add (.var 20) (.int (-16))) (.bi .pair (.bi .add (.bi .add (.var 20) (.int (-16))) (.bi .sub (.var 20) (.bi .add (.var 20) (.int (-16))))) (.int 0)))))), true)]
set_option maxRecDepth 100000 in
theorem c_nil_hol_in_y2 : yesOf Try.prog (knownV (tellA c_nil_hol_in_t2) tab specs overs) 6000 60 7 [.nilslice, .hollow, .sslice 1 (.int 0) (.var 20) (.var 21) false] ((globSt g0).newO (.eseq ⟨.u8, .var 20, .var 22⟩)) = true := by kernel_rfl
theorem c_nil_hol_in_walk {W : World} (a1 : Addr) (c1 : Nat) {v2 : Value} {b2 off2 len2 cap2 : Nat} {zs2 : List Int} (h2 : InSlice W .u8 v2 b2 off2 len2 cap2 zs2) (hG : GlobsR (om 0 0 [] 0 0 [] len2 cap2 zs2) W g0) : Calls Try.prog 7 #[.slice none 0 0, .slice (some a1) 0 c1, v2] W fun e w' => e = .returned (.bool true) ∧ Below W.heap.size W w' := by
  have r0 := Rel.globs (om 0 0 [] 0 0 [] len2 cap2 zs2) W g0 hG
  obtain ⟨le2, r1, x2⟩ := h2.open r0 (l := 20) (c := 21) (x := 22) rfl rfl rfl
  have pos2 := h2.pos
  have lec2 := h2.le
  have max2 := h2.max
  have zl2 := h2.len
  have rng2 := h2.rng
  have hargs : VRs _ [.nilslice, .hollow, .sslice 1 (.int 0) (.var 20) (.var 21) false] [.slice none 0 0, .slice (some a1) 0 c1, v2] := VRs_cons vr_nil (VRs_cons (vr_hollow a1 c1) (VRs_cons x2 (VRs_nil)))
  by_cases h0 : 500 < len2
  · refine calls_of_yesV sound tab_ok specs_ok overs_ok c_nil_hol_in_y0 rfl (tellA_ok (allTold'_iff.1 ?_)) r1 hargs
    simp only [c_nil_hol_in_t0, om_0, om_1, om_2, om_10, om_11, om_12, om_20, om_21, om_22, om_f, allTold', dutiesTold, factsA, factsP, factsR, AV.facts, RW.facts, inK, and_true, Q.holds', E.i, E.s, E.n, D.nat, E.den, BO.den, UO.den, TO.den, D.toInt_int, D.toList_list, D.ints_ofInts, i64min, i64max, u8min, u8max, u16min, u16max, u32min, u32max, u64min, u64max, i32min, i32max, Om.sub, selI, ints_app, ints_cut, ints_upd, ints_rep, ints_splice, len_ints]
    omega
  · by_cases h1 : len2 < 16
    · refine calls_of_yesV sound tab_ok specs_ok overs_ok c_nil_hol_in_y1 rfl (tellA_ok (allTold'_iff.1 ?_)) r1 hargs
      simp only [c_nil_hol_in_t1, om_0, om_1, om_2, om_10, om_11, om_12, om_20, om_21, om_22, om_f, allTold', dutiesTold, factsA, factsP, factsR, AV.facts, RW.facts, inK, and_true, Q.holds', E.i, E.s, E.n, D.nat, E.den, BO.den, UO.den, TO.den, D.toInt_int, D.toList_list, D.ints_ofInts, i64min, i64max, u8min, u8max, u16min, u16max, u32min, u32max, u64min, u64max, i32min, i32max, Om.sub, selI, ints_app, ints_cut, ints_upd, ints_rep, ints_splice, len_ints]
      omega
    · refine calls_of_yesV sound tab_ok specs_ok overs_ok c_nil_hol_in_y2 rfl (tellA_ok (allTold'_iff.1 ?_)) r1 hargs
      simp only [c_nil_hol_in_t2, om_0, om_1, om_2, om_10, om_11, om_12, om_20, om_21, om_22, om_f, F2, F9, F11, F12, F13, Int.zero_add, allTold', dutiesTold, factsA, factsP, factsR, AV.facts, RW.facts, inK, and_true, Q.holds', E.i, E.s, E.n, D.nat, E.den, BO.den, UO.den, TO.den, D.toInt_int, D.toList_list, D.ints_ofInts, i64min, i64max, u8min, u8max, u16min, u16max, u32min, u32max, u64min, u64max, i32min, i32max, Om.sub, selI, ints_app, ints_cut, ints_upd, ints_rep, ints_splice, len_ints]
      have tA : twoI zs2 0 0 zs2 0 0 = [] := by unfold twoI; rw [prt_nil (by omega) (by omega)]; rfl
      have zA := win_two (x := zs2) (y := zs2) (o := 0) (n := 0) (p := 0) (m := len2) (by omega) (by omega) (by omega) (by omega) (by omega) (by omega)
      have tB : twoI zs2 0 0 zs2 0 0 = [] := by unfold twoI; rw [prt_nil (by omega) (by omega)]; rfl
      have zB := win_two (x := zs2) (y := zs2) (o := 0) (n := 0) (p := 0) (m := len2) (by omega) (by omega) (by omega) (by omega) (by omega) (by omega)
      simp only [Int.zero_add] at *
      and_intros <;> first | omega | rfl | trivial | (simp only [tA, tB]; first | done | rfl | omega) | (rw [show (len2 : Int) + -16 + ((len2 : Int) - ((len2 : Int) + -16)) = len2 by omega, show (len2 : Int) + -16 = (len2 : Int) - 16 by omega]; exact zA)

def c_nil_in_nil_t0 : List (Q × Bool) := [((.fit .i64 (.var 10)), true),
  ((.le (.var 10) (.int 500)), false)]
set_option maxRecDepth 100000 in
theorem c_nil_in_nil_y0 : yesOf Try.prog (knownV (tellA c_nil_in_nil_t0) tab specs overs) 6000 60 7 [.nilslice, .sslice 1 (.int 0) (.var 10) (.var 11) false, .nilslice] ((globSt g0).newO (.eseq ⟨.u8, .var 10, .var 12⟩)) = true := by kernel_rfl
def c_nil_in_nil_t1 : List (Q × Bool) := [((.fit .i64 (.var 10)), true),
  ((.le (.var 10) (.int 500)), true)]
set_option maxRecDepth 100000 in
theorem c_nil_in_nil_y1 : yesOf Try.prog (knownV (tellA c_nil_in_nil_t1) tab specs overs) 6000 60 7 [.nilslice, .sslice 1 (.int 0) (.var 10) (.var 11) false, .nilslice] ((globSt g0).newO (.eseq ⟨.u8, .var 10, .var 12⟩)) = true := by kernel_rfl
theorem c_nil_in_nil_walk {W : World} {v1 : Value} {b1 off1 len1 cap1 : Nat} {zs1 : List Int} (h1 : InSlice W .u8 v1 b1 off1 len1 cap1 zs1) (hG : GlobsR (om 0 0 [] len1 cap1 zs1 0 0 []) W g0) : Calls Try.prog 7 #[.slice none 0 0, v1, .slice none 0 0] W fun e w' => e = .returned (.bool true) ∧ Below W.heap.size W w' := by
  have r0 := Rel.globs (om 0 0 [] len1 cap1 zs1 0 0 []) W g0 hG
  obtain ⟨le1, r1, x1⟩ := h1.open r0 (l := 10) (c := 11) (x := 12) rfl rfl rfl
  have pos1 := h1.pos
  have lec1 := h1.le
  have max1 := h1.max
  have zl1 := h1.len
  have rng1 := h1.rng
  have hargs : VRs _ [.nilslice, .sslice 1 (.int 0) (.var 10) (.var 11) false, .nilslice] [.slice none 0 0, v1, .slice none 0 0] := VRs_cons vr_nil (VRs_cons x1 (VRs_cons vr_nil (VRs_nil)))
  by_cases h0 : 500 < len1
  · refine calls_of_yesV sound tab_ok specs_ok overs_ok c_nil_in_nil_y0 rfl (tellA_ok (allTold'_iff.1 ?_)) r1 hargs
    simp only [c_nil_in_nil_t0, om_0, om_1, om_2, om_10, om_11, om_12, om_20, om_21, om_22, om_f, allTold', dutiesTold, factsA, factsP, factsR, AV.facts, RW.facts, inK, and_true, Q.holds', E.i, E.s, E.n, D.nat, E.den, BO.den, UO.den, TO.den, D.toInt_int, D.toList_list, D.ints_ofInts, i64min, i64max, u8min, u8max, u16min, u16max, u32min, u32max, u64min, u64max, i32min, i32max, Om.sub, selI, ints_app, ints_cut, ints_upd, ints_rep, ints_splice, len_ints]
    omega
  · refine calls_of_yesV sound tab_ok specs_ok overs_ok c_nil_in_nil_y1 rfl (tellA_ok (allTold'_iff.1 ?_)) r1 hargs
    simp only [c_nil_in_nil_t1, om_0, om_1, om_2, om_10, om_11, om_12, om_20, om_21, om_22, om_f, allTold', dutiesTold, factsA, factsP, factsR, AV.facts, RW.facts, inK, and_true, Q.holds', E.i, E.s, E.n, D.nat, E.den, BO.den, UO.den, TO.den, D.toInt_int, D.toList_list, D.ints_ofInts, i64min, i64max, u8min, u8max, u16min, u16max, u32min, u32max, u64min, u64max, i32min, i32max, Om.sub, selI, ints_app, ints_cut, ints_upd, ints_rep, ints_splice, len_ints]
    omega

def c_nil_in_hol_t0 : List (Q × Bool) := [((.fit .i64 (.var 10)), true),
  ((.le (.var 10) (.int 500)), false)]
set_option maxRecDepth 100000 in
theorem c_nil_in_hol_y0 : yesOf Try.prog (knownV (tellA c_nil_in_hol_t0) tab specs overs) 6000 60 7 [.nilslice, .sslice 1 (.int 0) (.var 10) (.var 11) false, .hollow] ((globSt g0).newO (.eseq ⟨.u8, .var 10, .var 12⟩)) = true := by kernel_rfl
def c_nil_in_hol_t1 : List (Q × Bool) := [((.fit .i64 (.var 10)), true),
  ((.le (.var 10) (.int 500)), true)]
set_option maxRecDepth 100000 in
theorem c_nil_in_hol_y1 : yesOf Try.prog (knownV (tellA c_nil_in_hol_t1) tab specs overs) 6000 60 7 [.nilslice, .sslice 1 (.int 0) (.var 10) (.var 11) false, .hollow] ((globSt g0).newO (.eseq ⟨.u8, .var 10, .var 12⟩)) = true := by kernel_rfl
theorem c_nil_in_hol_walk {W : World} {v1 : Value} {b1 off1 len1 cap1 : Nat} {zs1 : List Int} (h1 : InSlice W .u8 v1 b1 off1 len1 cap1 zs1) (a2 : Addr) (c2 : Nat) (hG : GlobsR (om 0 0 [] len1 cap1 zs1 0 0 []) W g0) : Calls Try.prog 7 #[.slice none 0 0, v1, .slice (some a2) 0 c2] W fun e w' => e = .returned (.bool true) ∧ Below W.heap.size W w' := by
  have r0 := Rel.globs (om 0 0 [] len1 cap1 zs1 0 0 []) W g0 hG
  obtain ⟨le1, r1, x1⟩ := h1.open r0 (l := 10) (c := 11) (x := 12) rfl rfl rfl
  have pos1 := h1.pos
  have lec1 := h1.le
  have max1 := h1.max
  have zl1 := h1.len
  have rng1 := h1.rng
  have hargs : VRs _ [.nilslice, .sslice 1 (.int 0) (.var 10) (.var 11) false, .hollow] [.slice none 0 0, v1, .slice (some a2) 0 c2] := VRs_cons vr_nil (VRs_cons x1 (VRs_cons (vr_hollow a2 c2) (VRs_nil)))
  by_cases h0 : 500 < len1
  · refine calls_of_yesV sound tab_ok specs_ok overs_ok c_nil_in_hol_y0 rfl (tellA_ok (allTold'_iff.1 ?_)) r1 hargs
    simp only [c_nil_in_hol_t0, om_0, om_1, om_2, om_10, om_11, om_12, om_20, om_21, om_22, om_f, allTold', dutiesTold, factsA, factsP, factsR, AV.facts, RW.facts, inK, and_true, Q.holds', E.i, E.s, E.n, D.nat, E.den, BO.den, UO.den, TO.den, D.toInt_int, D.toList_list, D.ints_ofInts, i64min, i64max, u8min, u8max, u16min, u16max, u32min, u32max, u64min, u64max, i32min, i32max, Om.sub, selI, ints_app, ints_cut, ints_upd, ints_rep, ints_splice, len_ints]
    omega
  · refine calls_of_yesV sound tab_ok specs_ok overs_ok c_nil_in_hol_y1 rfl (tellA_ok (allTold'_iff.1 ?_)) r1 hargs
    simp only [c_nil_in_hol_t1, om_0, om_1, om_2, om_10, om_11, om_12, om_20, om_21, om_22, om_f, allTold', dutiesTold, factsA, factsP, factsR, AV.facts, RW.facts, inK, and_true, Q.holds', E.i, E.s, E.n, D.nat, E.den, BO.den, UO.den, TO.den, D.toInt_int, D.toList_list, D.ints_ofInts, i64min, i64max, u8min, u8max, u16min, u16max, u32min, u32max, u64min, u64max, i32min, i32max, Om.sub, selI, ints_app, ints_cut, ints_upd, ints_rep, ints_splice, len_ints]
    omega

def c_nil_in_in_t0 : List (Q × Bool) := [((.fit .i64 (.var 10)), true),
  ((.le (.var 10) (.int 500)), false)]
set_option maxRecDepth 100000 in
theorem c_nil_in_in_y0 : yesOf Try.prog (knownV (tellA c_nil_in_in_t0) tab specs overs) 6000 60 7 [.nilslice, .sslice 1 (.int 0) (.var 10) (.var 11) false, .sslice 3 (.int 0) (.var 20) (.var 21) false] (((globSt g0).newO (.eseq ⟨.u8, .var 10, .var 12⟩)).newO (.eseq ⟨.u8, .var 20, .var 22⟩)) = true := by kernel_rfl
def c_nil_in_in_t1 : List (Q × Bool) := [((.fit .i64 (.var 10)), true),
  ((.le (.var 10) (.int 500)), true),
  ((.fit .i64 (.var 20)), true),
  ((.le (.var 20) (.int 500)), false)]
set_option maxRecDepth 100000 in
theorem c_nil_in_in_y1 : yesOf Try.prog (knownV (tellA c_nil_in_in_t1) tab specs overs) 6000 60 7 [.nilslice, .sslice 1 (.int 0) (.var 10) (.var 11) false, .sslice 3 (.int 0) (.var 20) (.var 21) false] (((globSt g0).newO (.eseq ⟨.u8, .var 10, .var 12⟩)).newO (.eseq ⟨.u8, .var 20, .var 22⟩)) = true := by kernel_rfl
def c_nil_in_in_t2 : List (Q × Bool) := [((.fit .i64 (.var 10)), true),
  ((.le (.var 10) (.int 500)), true),
  ((.fit .i64 (.var 20)), true),
  ((.le (.var 20) (.int 500)), true),
  ((.le (.int 16) (.var 20)), false)]
set_option maxRecDepth 100000 in
theorem c_nil_in_in_y2 : yesOf Try.prog (knownV (tellA c_nil_in_in_t2) tab specs overs) 6000 60 7 [.nilslice, .sslice 1 (.int 0) (.var 10) (.var 11) false, .sslice 3 (.int 0) (.var 20) (.var 21) false] (((globSt g0).newO (.eseq ⟨.u8, .var 10, .var 12⟩)).newO (.eseq ⟨.u8, .var 20, .var 22⟩)) = true := by kernel_rfl
def c_nil_in_in_t3 : List (Q × Bool) := [((.fit .i64 (.var 10)), true),
  ((.le (.var 10) (.int 500)), true),
  ((.fit .i64 (.var 20)), true),
  ((.le (.var 20) (.int 500)), true),
  ((.le (.int 16) (.var 20)), true),
  ((.le (.int 0) (.var 10)), true),
  ((.le (.bi .add (.int 0) (.var 10)) (.var 10)), true),
  ((.le (.var 10) (.int 1000)), true),
  ((.same (.lits [0, 0, 0, 0, 0, 0, 0, 0, 0, 0, 0, 0, 0, 0, 0, 0]) (.fn 9 (.bi .pair (.var 12) (.bi .pair (.int 0) (.bi .pair (.bi .add (.int 0) (.int 1)) (.int 0)))))), true),
  ((.eq (.int 0) (.fn 11 (.bi .pair (.var 12) (.bi .pair (.int 0) (.bi .pair (.bi .add (.int 0) (.int 1)) (.int 0)))))), true),
  ((.le (.int 0) (.var 20)), true),
  ((.le (.bi .add (.int 0) (.var 20)) (.var 20)), true),
  ((.same (.lits [0, 0, 0, 0, 0, 0, 0, 0, 0, 0, 0, 0, 0, 0, 0, 0]) (.fn 12 (.bi .pair (.var 22) (.bi .pair (.int 0) (.bi .pair (.int 0) (.bi .pair (.var 22) (.bi .pair (.int 0) (.bi .pair (.int 0) (.int 0))))))))), true),
  ((.eq (.int 0) (.bi .add (.int 0) (.int 0))), true),
  ((.eq (.int 0) (.fn 13 (.bi .pair (.var 22) (.bi .pair (.int 0) (.bi .pair (.int 0) (.bi .pair (.var 22) (.bi .pair (.int 0) (.bi .pair (.int 0) (.int 0))))))))), true),
  ((.same (.fn 9 (.bi .pair (.var 12) (.bi .pair (.int 0) (.bi .pair (.bi .add (.var 10) (.int 1)) (.int 0))))) (.fn 12 (.bi .pair (.var 12) (.bi .pair (.int 0) (.bi .pair (.var 10) (.bi .pair (.var 22) (.bi .pair (.int 0) (.bi .pair (.int 0) (.int 0))))))))), true),
  ((.eq (.var 10) (.bi .add (.var 10) (.int 0))), true),
  ((.eq (.fn 11 (.bi .pair (.var 12) (.bi .pair (.int 0) (.bi .pair (.bi .add (.var 10) (.int 1)) (.int 0))))) (.fn 13 (.bi .pair (.var 12) (.bi .pair (.int 0) (.bi .pair (.var 10) (.bi .pair (.var 22) (.bi .pair (.int 0) (.bi .pair (.int 0) (.int 0))))))))), true),
  ((.fit .i64 (.bi .add (.var 20) (.int (-16)))), true),
  ((.le (.int 0) (.bi .add (.var 20) (.int (-16)))), true),
  ((.le (.bi .add (.var 20) (.int (-16))) (.var 20)), true),
  ((.le (.var 20) (.var 21)), true),
  ((.le (.int 16) (.bi .add (.int 0) (.var 20))), true),
  ((.le (.int 16) (.bi .add (.var 10) (.var 20))), true),
  ((.le (.bi .add (.bi .add (.var 20) (.int (-16))) (.bi .sub (.var 20) (.bi .add (.var 20) (.int (-16))))) (.var 20)), true),
  ((.le (.bi .sub (.var 20) (.bi .add (.var 20) (.int (-16)))) (.int 1000000)), true),
  ((.eq (.fn 13 (.bi .pair (.var 22) (.bi .pair (.int 0) (.bi .pair (.int 0) (.bi .pair (.var 22) (.bi .pair (.int 0) (.bi .pair (.var 20) (.int 0)))))))) (.fn 2 (.bi .pair (.var 22) (.bi .pair (.bi .add (.var 20) (.int (-16))) (.bi .pair (.bi .add (.bi .add (.var 20) (.int (-16))) (.bi .sub (.var 20) (.bi .add (.var 20) (.int (-16))))) (.int 0)))))), true)]
set_option maxRecDepth 100000 in
theorem c_nil_in_in_y3 : yesOf Try.prog (knownV (tellA c_nil_in_in_t3) tab specs overs) 6000 60 7 [.nilslice, .sslice 1 (.int 0) (.var 10) (.var 11) false, .sslice 3 (.int 0) (.var 20) (.var 21) false] (((globSt g0).newO (.eseq ⟨.u8, .var 10, .var 12⟩)).newO (.eseq ⟨.u8, .var 20, .var 22⟩)) = true := by kernel_rfl
theorem c_nil_in_in_walk {W : World} {v1 : Value} {b1 off1 len1 cap1 : Nat} {zs1 : List Int} (h1 : InSlice W .u8 v1 b1 off1 len1 cap1 zs1) {v2 : Value} {b2 off2 len2 cap2 : Nat} {zs2 : List Int} (h2 : InSlice W .u8 v2 b2 off2 len2 cap2 zs2) (hG : GlobsR (om 0 0 [] len1 cap1 zs1 len2 cap2 zs2) W g0) : Calls Try.prog 7 #[.slice none 0 0, v1, v2] W fun e w' => e = .returned (.bool true) ∧ Below W.heap.size W w' := by
  have r0 := Rel.globs (om 0 0 [] len1 cap1 zs1 len2 cap2 zs2) W g0 hG
  obtain ⟨le1, r1, x1⟩ := h1.open r0 (l := 10) (c := 11) (x := 12) rfl rfl rfl
  have pos1 := h1.pos
  have lec1 := h1.le
  have max1 := h1.max
  have zl1 := h1.len
  have rng1 := h1.rng
  obtain ⟨le2, r2, x2⟩ := h2.open r1 (l := 20) (c := 21) (x := 22) rfl rfl rfl
  replace x1 := VR.mono le2 _ _ x1
  have pos2 := h2.pos
  have lec2 := h2.le
  have max2 := h2.max
  have zl2 := h2.len
  have rng2 := h2.rng
  have hargs : VRs _ [.nilslice, .sslice 1 (.int 0) (.var 10) (.var 11) false, .sslice 3 (.int 0) (.var 20) (.var 21) false] [.slice none 0 0, v1, v2] := VRs_cons vr_nil (VRs_cons x1 (VRs_cons x2 (VRs_nil)))
  by_cases h0 : 500 < len1
  · refine calls_of_yesV sound tab_ok specs_ok overs_ok c_nil_in_in_y0 rfl (tellA_ok (allTold'_iff.1 ?_)) r2 hargs
    simp only [c_nil_in_in_t0, om_0, om_1, om_2, om_10, om_11, om_12, om_20, om_21, om_22, om_f, allTold', dutiesTold, factsA, factsP, factsR, AV.facts, RW.facts, inK, and_true, Q.holds', E.i, E.s, E.n, D.nat, E.den, BO.den, UO.den, TO.den, D.toInt_int, D.toList_list, D.ints_ofInts, i64min, i64max, u8min, u8max, u16min, u16max, u32min, u32max, u64min, u64max, i32min, i32max, Om.sub, selI, ints_app, ints_cut, ints_upd, ints_rep, ints_splice, len_ints]
    omega
  · by_cases h1 : 500 < len2
    · refine calls_of_yesV sound tab_ok specs_ok overs_ok c_nil_in_in_y1 rfl (tellA_ok (allTold'_iff.1 ?_)) r2 hargs
      simp only [c_nil_in_in_t1, om_0, om_1, om_2, om_10, om_11, om_12, om_20, om_21, om_22, om_f, allTold', dutiesTold, factsA, factsP, factsR, AV.facts, RW.facts, inK, and_true, Q.holds', E.i, E.s, E.n, D.nat, E.den, BO.den, UO.den, TO.den, D.toInt_int, D.toList_list, D.ints_ofInts, i64min, i64max, u8min, u8max, u16min, u16max, u32min, u32max, u64min, u64max, i32min, i32max, Om.sub, selI, ints_app, ints_cut, ints_upd, ints_rep, ints_splice, len_ints]
      omega
    · by_cases h2 : len2 < 16
      · refine calls_of_yesV sound tab_ok specs_ok overs_ok c_nil_in_in_y2 rfl (tellA_ok (allTold'_iff.1 ?_)) r2 hargs
        simp only [c_nil_in_in_t2, om_0, om_1, om_2, om_10, om_11, om_12, om_20, om_21, om_22, om_f, allTold', dutiesTold, factsA, factsP, factsR, AV.facts, RW.facts, inK, and_true, Q.holds', E.i, E.s, E.n, D.nat, E.den, BO.den, UO.den, TO.den, D.toInt_int, D.toList_list, D.ints_ofInts, i64min, i64max, u8min, u8max, u16min, u16max, u32min, u32max, u64min, u64max, i32min, i32max, Om.sub, selI, ints_app, ints_cut, ints_upd, ints_rep, ints_splice, len_ints]
        omega
      · refine calls_of_yesV sound tab_ok specs_ok overs_ok c_nil_in_in_y3 rfl (tellA_ok (allTold'_iff.1 ?_)) r2 hargs
        simp only [c_nil_in_in_t3, om_0, om_1, om_2, om_10, om_11, om_12, om_20, om_21, om_22, om_f, F2, F9, F11, F12, F13, Int.zero_add, allTold', dutiesTold, factsA, factsP, factsR, AV.facts, RW.facts, inK, and_true, Q.holds', E.i, E.s, E.n, D.nat, E.den, BO.den, UO.den, TO.den, D.toInt_int, D.toList_list, D.ints_ofInts, i64min, i64max, u8min, u8max, u16min, u16max, u32min, u32max, u64min, u64max, i32min, i32max, Om.sub, selI, ints_app, ints_cut, ints_upd, ints_rep, ints_splice, len_ints]
        have tA : twoI zs2 0 0 zs2 0 0 = [] := by unfold twoI; rw [prt_nil (by omega) (by omega)]; rfl
        have zA := win_two (x := zs2) (y := zs2) (o := 0) (n := 0) (p := 0) (m := len2) (by omega) (by omega) (by omega) (by omega) (by omega) (by omega)
        have rB := ringL_prt (x := zs1) (o := 0) (n := len1) (by omega) (by omega) (by omega)
        have wB := winL_prt (x := zs1) (o := 0) (n := len1) (by omega) (by omega) (by omega)
        have tB : twoI zs1 0 len1 zs2 0 0 = prt zs1 0 (0 + (len1 : Int)) := by unfold twoI; rw [prt_nil (x := zs2) (by omega) (by omega), List.append_nil]
        have eB : ((len1 : Int) + 1 - 1).toNat = (len1 : Int).toNat := by omega
        have gB : ((len1 : Int).toNat : Int) = len1 := by omega
        have fB : ((((len1 : Int) + 1 - 1).toNat : Nat) : Int) = len1 := by omega
        have zB := win_two (x := zs1) (y := zs2) (o := 0) (n := len1) (p := 0) (m := len2) (by omega) (by omega) (by omega) (by omega) (by omega) (by omega)
        simp only [Int.zero_add] at *
        and_intros <;> first | omega | rfl | trivial | (simp only [tA, tB, eB, fB, gB, rB, wB]; first | done | rfl | omega) | (rw [show (len2 : Int) + -16 + ((len2 : Int) - ((len2 : Int) + -16)) = len2 by omega, show (len2 : Int) + -16 = (len2 : Int) - 16 by omega]; exact zA)

def c_hol_nil_nil_t0 : List (Q × Bool) := []
set_option maxRecDepth 100000 in
theorem c_hol_nil_nil_y0 : yesOf Try.prog (knownV (tellA c_hol_nil_nil_t0) tab specs overs) 6000 60 7 [.hollow, .nilslice, .nilslice] (globSt g0) = true := by kernel_rfl
theorem c_hol_nil_nil_walk {W : World} (a0 : Addr) (c0 : Nat) (hG : GlobsR (om 0 0 [] 0 0 [] 0 0 []) W g0) : Calls Try.prog 7 #[.slice (some a0) 0 c0, .slice none 0 0, .slice none 0 0] W fun e w' => e = .returned (.bool true) ∧ Below W.heap.size W w' := by
  have r0 := Rel.globs (om 0 0 [] 0 0 [] 0 0 []) W g0 hG
  have hargs : VRs (Env.none (om 0 0 [] 0 0 [] 0 0 [])) [.hollow, .nilslice, .nilslice] [.slice (some a0) 0 c0, .slice none 0 0, .slice none 0 0] := VRs_cons (vr_hollow a0 c0) (VRs_cons vr_nil (VRs_cons vr_nil (VRs_nil)))
  refine calls_of_yesV sound tab_ok specs_ok overs_ok c_hol_nil_nil_y0 rfl (tellA_ok (allTold'_iff.1 ?_)) r0 hargs
  simp only [c_hol_nil_nil_t0, om_0, om_1, om_2, om_10, om_11, om_12, om_20, om_21, om_22, om_f, allTold', dutiesTold, factsA, factsP, factsR, AV.facts, RW.facts, inK, and_true, Q.holds', E.i, E.s, E.n, D.nat, E.den, BO.den, UO.den, TO.den, D.toInt_int, D.toList_list, D.ints_ofInts, i64min, i64max, u8min, u8max, u16min, u16max, u32min, u32max, u64min, u64max, i32min, i32max, Om.sub, selI, ints_app, ints_cut, ints_upd, ints_rep, ints_splice, len_ints]
  first | done | omega | trivial

def c_hol_nil_hol_t0 : List (Q × Bool) := []
set_option maxRecDepth 100000 in
theorem c_hol_nil_hol_y0 : yesOf Try.prog (knownV (tellA c_hol_nil_hol_t0) tab specs overs) 6000 60 7 [.hollow, .nilslice, .hollow] (globSt g0) = true := by kernel_rfl
theorem c_hol_nil_hol_walk {W : World} (a0 : Addr) (c0 : Nat) (a2 : Addr) (c2 : Nat) (hG : GlobsR (om 0 0 [] 0 0 [] 0 0 []) W g0) : Calls Try.prog 7 #[.slice (some a0) 0 c0, .slice none 0 0, .slice (some a2) 0 c2] W fun e w' => e = .returned (.bool true) ∧ Below W.heap.size W w' := by
  have r0 := Rel.globs (om 0 0 [] 0 0 [] 0 0 []) W g0 hG
  have hargs : VRs (Env.none (om 0 0 [] 0 0 [] 0 0 [])) [.hollow, .nilslice, .hollow] [.slice (some a0) 0 c0, .slice none 0 0, .slice (some a2) 0 c2] := VRs_cons (vr_hollow a0 c0) (VRs_cons vr_nil (VRs_cons (vr_hollow a2 c2) (VRs_nil)))
  refine calls_of_yesV sound tab_ok specs_ok overs_ok c_hol_nil_hol_y0 rfl (tellA_ok (allTold'_iff.1 ?_)) r0 hargs
  simp only [c_hol_nil_hol_t0, om_0, om_1, om_2, om_10, om_11, om_12, om_20, om_21, om_22, om_f, allTold', dutiesTold, factsA, factsP, factsR, AV.facts, RW.facts, inK, and_true, Q.holds', E.i, E.s, E.n, D.nat, E.den, BO.den, UO.den, TO.den, D.toInt_int, D.toList_list, D.ints_ofInts, i64min, i64max, u8min, u8max, u16min, u16max, u32min, u32max, u64min, u64max, i32min, i32max, Om.sub, selI, ints_app, ints_cut, ints_upd, ints_rep, ints_splice, len_ints]
  first | done | omega | trivial

def c_hol_nil_in_t0 : List (Q × Bool) := [((.fit .i64 (.var 20)), true),
  ((.le (.var 20) (.int 500)), false)]
set_option maxRecDepth 100000 in
theorem c_hol_nil_in_y0 : yesOf Try.prog (knownV (tellA c_hol_nil_in_t0) tab specs overs) 6000 60 7 [.hollow, .nilslice, .sslice 1 (.int 0) (.var 20) (.var 21) false] ((globSt g0).newO (.eseq ⟨.u8, .var 20, .var 22⟩)) = true := by kernel_rfl
def c_hol_nil_in_t1 : List (Q × Bool) := [((.fit .i64 (.var 20)), true),
  ((.le (.var 20) (.int 500)), true),
  ((.le (.int 16) (.var 20)), false)]
set_option maxRecDepth 100000 in
theorem c_hol_nil_in_y1 : yesOf Try.prog (knownV (tellA c_hol_nil_in_t1) tab specs overs) 6000 60 7 [.hollow, .nilslice, .sslice 1 (.int 0) (.var 20) (.var 21) false] ((globSt g0).newO (.eseq ⟨.u8, .var 20, .var 22⟩)) = true := by kernel_rfl
def c_hol_nil_in_t2 : List (Q × Bool) := [((.fit .i64 (.var 20)), true),
  ((.le (.var 20) (.int 500)), true),
  ((.le (.int 16) (.var 20)), true),
  ((.le (.int 0) (.var 20)), true),
  ((.le (.bi .add (.int 0) (.var 20)) (.var 20)), true),
  ((.same (.lits [0, 0, 0, 0, 0, 0, 0, 0, 0, 0, 0, 0, 0, 0, 0, 0]) (.fn 12 (.bi .pair (.var 22) (.bi .pair (.int 0) (.bi .pair (.int 0) (.bi .pair (.var 22) (.bi .pair (.int 0) (.bi .pair (.int 0) (.int 0))))))))), true),
  ((.eq (.int 0) (.bi .add (.int 0) (.int 0))), true),
  ((.eq (.int 0) (.fn 13 (.bi .pair (.var 22) (.bi .pair (.int 0) (.bi .pair (.int 0) (.bi .pair (.var 22) (.bi .pair (.int 0) (.bi .pair (.int 0) (.int 0))))))))), true),
  ((.fit .i64 (.bi .add (.var 20) (.int (-16)))), true),
  ((.le (.int 0) (.bi .add (.var 20) (.int (-16)))), true),
  ((.le (.bi .add (.var 20) (.int (-16))) (.var 20)), true),
  ((.le (.var 20) (.var 21)), true),
  ((.le (.int 16) (.bi .add (.int 0) (.var 20))), true),
  ((.le (.bi .add (.bi .add (.var 20) (.int (-16))) (.bi .sub (.var 20) (.bi .add (.var 20) (.int (-16))))) (.var 20)), true),
  ((.le (.bi .sub (.var 20) (.bi .add (.var 20) (.int (-16)))) (.int 1000000)), true),
  ((.eq (.fn 13 (.bi .pair (.var 22) (.bi .pair (.int 0) (.bi .pair (.int 0) (.bi .pair (.var 22) (.bi .pair (.int 0) (.bi .pair (.var 20) (.int 0)))))))) (.fn 2 (.bi .pair (.var 22) (.bi .pair (.bi .add (.var 20) (.int (-16))) (.bi .pair (.bi .add (.bi .add (.var 20) (.int (-16))) (.bi .sub (.var 20) (.bi .add (.var 20) (.int (-16))))) (.int 0)))))), true)]
set_option maxRecDepth 100000 in
theorem c_hol_nil_in_y2 : yesOf Try.prog (knownV (tellA c_hol_nil_in_t2) tab specs overs) 6000 60 7 [.hollow, .nilslice, .sslice 1 (.int 0) (.var 20) (.var 21) false] ((globSt g0).newO (.eseq ⟨.u8, .var 20, .var 22⟩)) = true := by kernel_rfl
theorem c_hol_nil_in_walk {W : World} (a0 : Addr) (c0 : Nat) {v2 : Value} {b2 off2 len2 cap2 : Nat} {zs2 : List Int} (h2 : InSlice W .u8 v2 b2 off2 len2 cap2 zs2) (hG : GlobsR (om 0 0 [] 0 0 [] len2 cap2 zs2) W g0) : Calls Try.prog 7 #[.slice (some a0) 0 c0, .slice none 0 0, v2] W fun e w' => e = .returned (.bool true) ∧ Below W.heap.size W w' := by
  have r0 := Rel.globs (om 0 0 [] 0 0 [] len2 cap2 zs2) W g0 hG
  obtain ⟨le2, r1, x2⟩ := h2.open r0 (l := 20) (c := 21) (x := 22) rfl rfl rfl
  have pos2 := h2.pos
  have lec2 := h2.le
  have max2 := h2.max
  have zl2 := h2.len
  have rng2 := h2.rng
  have hargs : VRs _ [.hollow, .nilslice, .sslice 1 (.int 0) (.var 20) (.var 21) false] [.slice (some a0) 0 c0, .slice none 0 0, v2] := VRs_cons (vr_hollow a0 c0) (VRs_cons vr_nil (VRs_cons x2 (VRs_nil)))
  by_cases h0 : 500 < len2
  · refine calls_of_yesV sound tab_ok specs_ok overs_ok c_hol_nil_in_y0 rfl (tellA_ok (allTold'_iff.1 ?_)) r1 hargs
    simp only [c_hol_nil_in_t0, om_0, om_1, om_2, om_10, om_11, om_12, om_20, om_21, om_22, om_f, allTold', dutiesTold, factsA, factsP, factsR, AV.facts, RW.facts, inK, and_true, Q.holds', E.i, E.s, E.n, D.nat, E.den, BO.den, UO.den, TO.den, D.toInt_int, D.toList_list, D.ints_ofInts, i64min, i64max, u8min, u8max, u16min, u16max, u32min, u32max, u64min, u64max, i32min, i32max, Om.sub, selI, ints_app, ints_cut, ints_upd, ints_rep, ints_splice, len_ints]
    omega
  · by_cases h1 : len2 < 16
    · refine calls_of_yesV sound tab_ok specs_ok overs_ok c_hol_nil_in_y1 rfl (tellA_ok (allTold'_iff.1 ?_)) r1 hargs
      simp only [c_hol_nil_in_t1, om_0, om_1, om_2, om_10, om_11, om_12, om_20, om_21, om_22, om_f, allTold', dutiesTold, factsA, factsP, factsR, AV.facts, RW.facts, inK, and_true, Q.holds', E.i, E.s, E.n, D.nat, E.den, BO.den, UO.den, TO.den, D.toInt_int, D.toList_list, D.ints_ofInts, i64min, i64max, u8min, u8max, u16min, u16max, u32min, u32max, u64min, u64max, i32min, i32max, Om.sub, selI, ints_app, ints_cut, ints_upd, ints_rep, ints_splice, len_ints]
      omega
    · refine calls_of_yesV sound tab_ok specs_ok overs_ok c_hol_nil_in_y2 rfl (tellA_ok (allTold'_iff.1 ?_)) r1 hargs
      simp only [c_hol_nil_in_t2, om_0, om_1, om_2, om_10, om_11, om_12, om_20, om_21, om_22, om_f, F2, F9, F11, F12, F13, Int.zero_add, allTold', dutiesTold, factsA, factsP, factsR, AV.facts, RW.facts, inK, and_true, Q.holds', E.i, E.s, E.n, D.nat, E.den, BO.den, UO.den, TO.den, D.toInt_int, D.toList_list, D.ints_ofInts, i64min, i64max, u8min, u8max, u16min, u16max, u32min, u32max, u64min, u64max, i32min, i32max, Om.sub, selI, ints_app, ints_cut, ints_upd, ints_rep, ints_splice, len_ints]
      have tA : twoI zs2 0 0 zs2 0 0 = [] := by unfold twoI; rw [prt_nil (by omega) (by omega)]; rfl
      have zA := win_two (x := zs2) (y := zs2) (o := 0) (n := 0) (p := 0) (m := len2) (by omega) (by omega) (by omega) (by omega) (by omega) (by omega)
      have tB : twoI zs2 0 0 zs2 0 0 = [] := by unfold twoI; rw [prt_nil (by omega) (by omega)]; rfl
      have zB := win_two (x := zs2) (y := zs2) (o := 0) (n := 0) (p := 0) (m := len2) (by omega) (by omega) (by omega) (by omega) (by omega) (by omega)
      simp only [Int.zero_add] at *
      and_intros <;> first | omega | rfl | trivial | (simp only [tA, tB]; first | done | rfl | omega) | (rw [show (len2 : Int) + -16 + ((len2 : Int) - ((len2 : Int) + -16)) = len2 by omega, show (len2 : Int) + -16 = (len2 : Int) - 16 by omega]; exact zA)

def c_hol_hol_nil_t0 : List (Q × Bool) := []
set_option maxRecDepth 100000 in
theorem c_hol_hol_nil_y0 : yesOf Try.prog (knownV (tellA c_hol_hol_nil_t0) tab specs overs) 6000 60 7 [.hollow, .hollow, .nilslice] (globSt g0) = true := by kernel_rfl
theorem c_hol_hol_nil_walk {W : World} (a0 : Addr) (c0 : Nat) (a1 : Addr) (c1 : Nat) (hG : GlobsR (om 0 0 [] 0 0 [] 0 0 []) W g0) : Calls Try.prog 7 #[.slice (some a0) 0 c0, .slice (some a1) 0 c1, .slice none 0 0] W fun e w' => e = .returned (.bool true) ∧ Below W.heap.size W w' := by
  have r0 := Rel.globs (om 0 0 [] 0 0 [] 0 0 []) W g0 hG
  have hargs : VRs (Env.none (om 0 0 [] 0 0 [] 0 0 [])) [.hollow, .hollow, .nilslice] [.slice (some a0) 0 c0, .slice (some a1) 0 c1, .slice none 0 0] := VRs_cons (vr_hollow a0 c0) (VRs_cons (vr_hollow a1 c1) (VRs_cons vr_nil (VRs_nil)))
  refine calls_of_yesV sound tab_ok specs_ok overs_ok c_hol_hol_nil_y0 rfl (tellA_ok (allTold'_iff.1 ?_)) r0 hargs
  simp only [c_hol_hol_nil_t0, om_0, om_1, om_2, om_10, om_11, om_12, om_20, om_21, om_22, om_f, allTold', dutiesTold, factsA, factsP, factsR, AV.facts, RW.facts, inK, and_true, Q.holds', E.i, E.s, E.n, D.nat, E.den, BO.den, UO.den, TO.den, D.toInt_int, D.toList_list, D.ints_ofInts, i64min, i64max, u8min, u8max, u16min, u16max, u32min, u32max, u64min, u64max, i32min, i32max, Om.sub, selI, ints_app, ints_cut, ints_upd, ints_rep, ints_splice, len_ints]
  first | done | omega | trivial

def c_hol_hol_hol_t0 : List (Q × Bool) := []
set_option maxRecDepth 100000 in
theorem c_hol_hol_hol_y0 : yesOf Try.prog (knownV (tellA c_hol_hol_hol_t0) tab specs overs) 6000 60 7 [.hollow, .hollow, .hollow] (globSt g0) = true := by kernel_rfl
theorem c_hol_hol_hol_walk {W : World} (a0 : Addr) (c0 : Nat) (a1 : Addr) (c1 : Nat) (a2 : Addr) (c2 : Nat) (hG : GlobsR (om 0 0 [] 0 0 [] 0 0 []) W g0) : Calls Try.prog 7 #[.slice (some a0) 0 c0, .slice (some a1) 0 c1, .slice (some a2) 0 c2] W fun e w' => e = .returned (.bool true) ∧ Below W.heap.size W w' := by
  have r0 := Rel.globs (om 0 0 [] 0 0 [] 0 0 []) W g0 hG
  have hargs : VRs (Env.none (om 0 0 [] 0 0 [] 0 0 [])) [.hollow, .hollow, .hollow] [.slice (some a0) 0 c0, .slice (some a1) 0 c1, .slice (some a2) 0 c2] := VRs_cons (vr_hollow a0 c0) (VRs_cons (vr_hollow a1 c1) (VRs_cons (vr_hollow a2 c2) (VRs_nil)))
  refine calls_of_yesV sound tab_ok specs_ok overs_ok c_hol_hol_hol_y0 rfl (tellA_ok (allTold'_iff.1 ?_)) r0 hargs
  simp only [c_hol_hol_hol_t0, om_0, om_1, om_2, om_10, om_11, om_12, om_20, om_21, om_22, om_f, allTold', dutiesTold, factsA, factsP, factsR, AV.facts, RW.facts, inK, and_true, Q.holds', E.i, E.s, E.n, D.nat, E.den, BO.den, UO.den, TO.den, D.toInt_int, D.toList_list, D.ints_ofInts, i64min, i64max, u8min, u8max, u16min, u16max, u32min, u32max, u64min, u64max, i32min, i32max, Om.sub, selI, ints_app, ints_cut, ints_upd, ints_rep, ints_splice, len_ints]
  first | done | omega | trivial

def c_hol_hol_in_t0 : List (Q × Bool) := [((.fit .i64 (.var 20)), true),
  ((.le (.var 20) (.int 500)), false)]
set_option maxRecDepth 100000 in
theorem c_hol_hol_in_y0 : yesOf Try.prog (knownV (tellA c_hol_hol_in_t0) tab specs overs) 6000 60 7 [.hollow, .hollow, .sslice 1 (.int 0) (.var 20) (.var 21) false] ((globSt g0).newO (.eseq ⟨.u8, .var 20, .var 22⟩)) = true := by kernel_rfl
def c_hol_hol_in_t1 : List (Q × Bool) := [((.fit .i64 (.var 20)), true),
  ((.le (.var 20) (.int 500)), true),
  ((.le (.int 16) (.var 20)), false)]
set_option maxRecDepth 100000 in
theorem c_hol_hol_in_y1 : yesOf Try.prog (knownV (tellA c_hol_hol_in_t1) tab specs overs) 6000 60 7 [.hollow, .hollow, .sslice 1 (.int 0) (.var 20) (.var 21) false] ((globSt g0).newO (.eseq ⟨.u8, .var 20, .var 22⟩)) = true := by kernel_rfl
def c_hol_hol_in_t2 : List (Q × Bool) := [((.fit .i64 (.var 20)), true),
  ((.le (.var 20) (.int 500)), true),
  ((.le (.int 16) (.var 20)), true),
  ((.le (.int 0) (.var 20)), true),
  ((.le (.bi .add (.int 0) (.var 20)) (.var 20)), true),
  ((.same (.lits [0, 0, 0, 0, 0, 0, 0, 0, 0, 0, 0, 0, 0, 0, 0, 0]) (.fn 12 (.bi .pair (.var 22) (.bi .pair (.int 0) (.bi .pair (.int 0) (.bi .pair (.var 22) (.bi .pair (.int 0) (.bi .pair (.int 0) (.int 0))))))))), true),
  ((.eq (.int 0) (.bi .add (.int 0) (.int 0))), true),
  ((.eq (.int 0) (.fn 13 (.bi .pair (.var 22) (.bi .pair (.int 0) (.bi .pair (.int 0) (.bi .pair (.var 22) (.bi .pair (.int 0) (.bi .pair (.int 0) (.int 0))))))))), true),
  ((.fit .i64 (.bi .add (.var 20) (.int (-16)))), true),
  ((.le (.int 0) (.bi .add (.var 20) (.int (-16)))), true),
  ((.le (.bi .add (.var 20) (.int (-16))) (.var 20)), true),
  ((.le (.var 20) (.var 21)), true),
  ((.le (.int 16) (.bi .add (.int 0) (.var 20))), true),
  ((.le (.bi .add (.bi .add (.var 20) (.int (-16))) (.bi .sub (.var 20) (.bi .add (.var 20) (.int (-16))))) (.var 20)), true),
  ((.le (.bi .sub (.var 20) (.bi .add (.var 20) (.int (-16)))) (.int 1000000)), true),
  ((.eq (.fn 13 (.bi .pair (.var 22) (.bi .pair (.int 0) (.bi .pair (.int 0) (.bi .pair (.var 22) (.bi .pair (.int 0) (.bi .pair (.var 20) (.int 0)))))))) (.fn 2 (.bi .pair (.var 22) (.bi .pair (.bi .add (.var 20) (.int (-16))) (.bi .pair (.bi .add (.bi .add (.var 20) (.int (-16))) (.bi .sub (.var 20) (.bi .add (.var 20) (.int (-16))))) (.int 0)))))), true)]
set_option maxRecDepth 100000 in
theorem c_hol_hol_in_y2 : yesOf Try.prog (knownV (tellA c_hol_hol_in_t2) tab specs overs) 6000 60 7 [.hollow, .hollow, .sslice 1 (.int 0) (.var 20) (.var 21) false] ((globSt g0).newO (.eseq ⟨.u8, .var 20, .var 22⟩)) = true := by kernel_rfl
theorem c_hol_hol_in_walk {W : World} (a0 : Addr) (c0 : Nat) (a1 : Addr) (c1 : Nat) {v2 : Value} {b2 off2 len2 cap2 : Nat} {zs2 : List Int} (h2 : InSlice W .u8 v2 b2 off2 len2 cap2 zs2) (hG : GlobsR (om 0 0 [] 0 0 [] len2 cap2 zs2) W g0) : Calls Try.prog 7 #[.slice (some a0) 0 c0, .slice (some a1) 0 c1, v2] W fun e w' => e = .returned (.bool true) ∧ Below W.heap.size W w' := by
  have r0 := Rel.globs (om 0 0 [] 0 0 [] len2 cap2 zs2) W g0 hG
  obtain ⟨le2, r1, x2⟩ := h2.open r0 (l := 20) (c := 21) (x := 22) rfl rfl rfl
  have pos2 := h2.pos
  have lec2 := h2.le
  have max2 := h2.max
  have zl2 := h2.len
  have rng2 := h2.rng
  have hargs : VRs _ [.hollow, .hollow, .sslice 1 (.int 0) (.var 20) (.var 21) false] [.slice (some a0) 0 c0, .slice (some a1) 0 c1, v2] := VRs_cons (vr_hollow a0 c0) (VRs_cons (vr_hollow a1 c1) (VRs_cons x2 (VRs_nil)))
  by_cases h0 : 500 < len2
  · refine calls_of_yesV sound tab_ok specs_ok overs_ok c_hol_hol_in_y0 rfl (tellA_ok (allTold'_iff.1 ?_)) r1 hargs
    simp only [c_hol_hol_in_t0, om_0, om_1, om_2, om_10, om_11, om_12, om_20, om_21, om_22, om_f, allTold', dutiesTold, factsA, factsP, factsR, AV.facts, RW.facts, inK, and_true, Q.holds', E.i, E.s, E.n, D.nat, E.den, BO.den, UO.den, TO.den, D.toInt_int, D.toList_list, D.ints_ofInts, i64min, i64max, u8min, u8max, u16min, u16max, u32min, u32max, u64min, u64max, i32min, i32max, Om.sub, selI, ints_app, ints_cut, ints_upd, ints_rep, ints_splice, len_ints]
    omega
  · by_cases h1 : len2 < 16
    · refine calls_of_yesV sound tab_ok specs_ok overs_ok c_hol_hol_in_y1 rfl (tellA_ok (allTold'_iff.1 ?_)) r1 hargs
      simp only [c_hol_hol_in_t1, om_0, om_1, om_2, om_10, om_11, om_12, om_20, om_21, om_22, om_f, allTold', dutiesTold, factsA, factsP, factsR, AV.facts, RW.facts, inK, and_true, Q.holds', E.i, E.s, E.n, D.nat, E.den, BO.den, UO.den, TO.den, D.toInt_int, D.toList_list, D.ints_ofInts, i64min, i64max, u8min, u8max, u16min, u16max, u32min, u32max, u64min, u64max, i32min, i32max, Om.sub, selI, ints_app, ints_cut, ints_upd, ints_rep, ints_splice, len_ints]
      omega
    · refine calls_of_yesV sound tab_ok specs_ok overs_ok c_hol_hol_in_y2 rfl (tellA_ok (allTold'_iff.1 ?_)) r1 hargs
      simp only [c_hol_hol_in_t2, om_0, om_1, om_2, om_10, om_11, om_12, om_20, om_21, om_22, om_f, F2, F9, F11, F12, F13, Int.zero_add, allTold', dutiesTold, factsA, factsP, factsR, AV.facts, RW.facts, inK, and_true, Q.holds', E.i, E.s, E.n, D.nat, E.den, BO.den, UO.den, TO.den, D.toInt_int, D.toList_list, D.ints_ofInts, i64min, i64max, u8min, u8max, u16min, u16max, u32min, u32max, u64min, u64max, i32min, i32max, Om.sub, selI, ints_app, ints_cut, ints_upd, ints_rep, ints_splice, len_ints]
      have tA : twoI zs2 0 0 zs2 0 0 = [] := by unfold twoI; rw [prt_nil (by omega) (by omega)]; rfl
      have zA := win_two (x := zs2) (y := zs2) (o := 0) (n := 0) (p := 0) (m := len2) (by omega) (by omega) (by omega) (by omega) (by omega) (by omega)
      have tB : twoI zs2 0 0 zs2 0 0 = [] := by unfold twoI; rw [prt_nil (by omega) (by omega)]; rfl
      have zB := win_two (x := zs2) (y := zs2) (o := 0) (n := 0) (p := 0) (m := len2) (by omega) (by omega) (by omega) (by omega) (by omega) (by omega)
      simp only [Int.zero_add] at *
      and_intros <;> first | omega | rfl | trivial | (simp only [tA, tB]; first | done | rfl | omega) | (rw [show (len2 : Int) + -16 + ((len2 : Int) - ((len2 : Int) + -16)) = len2 by omega, show (len2 : Int) + -16 = (len2 : Int) - 16 by omega]; exact zA)

def c_hol_in_nil_t0 : List (Q × Bool) := [((.fit .i64 (.var 10)), true),
  ((.le (.var 10) (.int 500)), false)]
set_option maxRecDepth 100000 in
theorem c_hol_in_nil_y0 : yesOf Try.prog (knownV (tellA c_hol_in_nil_t0) tab specs overs) 6000 60 7 [.hollow, .sslice 1 (.int 0) (.var 10) (.var 11) false, .nilslice] ((globSt g0).newO (.eseq ⟨.u8, .var 10, .var 12⟩)) = true := by kernel_rfl
def c_hol_in_nil_t1 : List (Q × Bool) := [((.fit .i64 (.var 10)), true),
  ((.le (.var 10) (.int 500)), true)]
set_option maxRecDepth 100000 in
theorem c_hol_in_nil_y1 : yesOf Try.prog (knownV (tellA c_hol_in_nil_t1) tab specs overs) 6000 60 7 [.hollow, .sslice 1 (.int 0) (.var 10) (.var 11) false, .nilslice] ((globSt g0).newO (.eseq ⟨.u8, .var 10, .var 12⟩)) = true := by kernel_rfl
theorem c_hol_in_nil_walk {W : World} (a0 : Addr) (c0 : Nat) {v1 : Value} {b1 off1 len1 cap1 : Nat} {zs1 : List Int} (h1 : InSlice W .u8 v1 b1 off1 len1 cap1 zs1) (hG : GlobsR (om 0 0 [] len1 cap1 zs1 0 0 []) W g0) : Calls Try.prog 7 #[.slice (some a0) 0 c0, v1, .slice none 0 0] W fun e w' => e = .returned (.bool true) ∧ Below W.heap.size W w' := by
  have r0 := Rel.globs (om 0 0 [] len1 cap1 zs1 0 0 []) W g0 hG
  obtain ⟨le1, r1, x1⟩ := h1.open r0 (l := 10) (c := 11) (x := 12) rfl rfl rfl
  have pos1 := h1.pos
  have lec1 := h1.le
  have max1 := h1.max
  have zl1 := h1.len
  have rng1 := h1.rng
  have hargs : VRs _ [.hollow, .sslice 1 (.int 0) (.var 10) (.var 11) false, .nilslice] [.slice (some a0) 0 c0, v1, .slice none 0 0] := VRs_cons (vr_hollow a0 c0) (VRs_cons x1 (VRs_cons vr_nil (VRs_nil)))
  by_cases h0 : 500 < len1
  · refine calls_of_yesV sound tab_ok specs_ok overs_ok c_hol_in_nil_y0 rfl (tellA_ok (allTold'_iff.1 ?_)) r1 hargs
    simp only [c_hol_in_nil_t0, om_0, om_1, om_2, om_10, om_11, om_12, om_20, om_21, om_22, om_f, allTold', dutiesTold, factsA, factsP, factsR, AV.facts, RW.facts, inK, and_true, Q.holds', E.i, E.s, E.n, D.nat, E.den, BO.den, UO.den, TO.den, D.toInt_int, D.toList_list, D.ints_ofInts, i64min, i64max, u8min, u8max, u16min, u16max, u32min, u32max, u64min, u64max, i32min, i32max, Om.sub, selI, ints_app, ints_cut, ints_upd, ints_rep, ints_splice, len_ints]
    omega
  · refine calls_of_yesV sound tab_ok specs_ok overs_ok c_hol_in_nil_y1 rfl (tellA_ok (allTold'_iff.1 ?_)) r1 hargs
    simp only [c_hol_in_nil_t1, om_0, om_1, om_2, om_10, om_11, om_12, om_20, om_21, om_22, om_f, allTold', dutiesTold, factsA, factsP, factsR, AV.facts, RW.facts, inK, and_true, Q.holds', E.i, E.s, E.n, D.nat, E.den, BO.den, UO.den, TO.den, D.toInt_int, D.toList_list, D.ints_ofInts, i64min, i64max, u8min, u8max, u16min, u16max, u32min, u32max, u64min, u64max, i32min, i32max, Om.sub, selI, ints_app, ints_cut, ints_upd, ints_rep, ints_splice, len_ints]
    omega

def c_hol_in_hol_t0 : List (Q × Bool) := [((.fit .i64 (.var 10)), true),
  ((.le (.var 10) (.int 500)), false)]
set_option maxRecDepth 100000 in
theorem c_hol_in_hol_y0 : yesOf Try.prog (knownV (tellA c_hol_in_hol_t0) tab specs overs) 6000 60 7 [.hollow, .sslice 1 (.int 0) (.var 10) (.var 11) false, .hollow] ((globSt g0).newO (.eseq ⟨.u8, .var 10, .var 12⟩)) = true := by kernel_rfl
def c_hol_in_hol_t1 : List (Q × Bool) := [((.fit .i64 (.var 10)), true),
  ((.le (.var 10) (.int 500)), true)]
set_option maxRecDepth 100000 in
theorem c_hol_in_hol_y1 : yesOf Try.prog (knownV (tellA c_hol_in_hol_t1) tab specs overs) 6000 60 7 [.hollow, .sslice 1 (.int 0) (.var 10) (.var 11) false, .hollow] ((globSt g0).newO (.eseq ⟨.u8, .var 10, .var 12⟩)) = true := by kernel_rfl
theorem c_hol_in_hol_walk {W : World} (a0 : Addr) (c0 : Nat) {v1 : Value} {b1 off1 len1 cap1 : Nat} {zs1 : List Int} (h1 : InSlice W .u8 v1 b1 off1 len1 cap1 zs1) (a2 : Addr) (c2 : Nat) (hG : GlobsR (om 0 0 [] len1 cap1 zs1 0 0 []) W g0) : Calls Try.prog 7 #[.slice (some a0) 0 c0, v1, .slice (some a2) 0 c2] W fun e w' => e = .returned (.bool true) ∧ Below W.heap.size W w' := by
  have r0 := Rel.globs (om 0 0 [] len1 cap1 zs1 0 0 []) W g0 hG
  obtain ⟨le1, r1, x1⟩ := h1.open r0 (l := 10) (c := 11) (x := 12) rfl rfl rfl
  have pos1 := h1.pos
  have lec1 := h1.le
  have max1 := h1.max
  have zl1 := h1.len
  have rng1 := h1.rng
  have hargs : VRs _ [.hollow, .sslice 1 (.int 0) (.var 10) (.var 11) false, .hollow] [.slice (some a0) 0 c0, v1, .slice (some a2) 0 c2] := VRs_cons (vr_hollow a0 c0) (VRs_cons x1 (VRs_cons (vr_hollow a2 c2) (VRs_nil)))
  by_cases h0 : 500 < len1
  · refine calls_of_yesV sound tab_ok specs_ok overs_ok c_hol_in_hol_y0 rfl (tellA_ok (allTold'_iff.1 ?_)) r1 hargs
    simp only [c_hol_in_hol_t0, om_0, om_1, om_2, om_10, om_11, om_12, om_20, om_21, om_22, om_f, allTold', dutiesTold, factsA, factsP, factsR, AV.facts, RW.facts, inK, and_true, Q.holds', E.i, E.s, E.n, D.nat, E.den, BO.den, UO.den, TO.den, D.toInt_int, D.toList_list, D.ints_ofInts, i64min, i64max, u8min, u8max, u16min, u16max, u32min, u32max, u64min, u64max, i32min, i32max, Om.sub, selI, ints_app, ints_cut, ints_upd, ints_rep, ints_splice, len_ints]
    omega
  · refine calls_of_yesV sound tab_ok specs_ok overs_ok c_hol_in_hol_y1 rfl (tellA_ok (allTold'_iff.1 ?_)) r1 hargs
    simp only [c_hol_in_hol_t1, om_0, om_1, om_2, om_10, om_11, om_12, om_20, om_21, om_22, om_f, allTold', dutiesTold, factsA, factsP, factsR, AV.facts, RW.facts, inK, and_true, Q.holds', E.i, E.s, E.n, D.nat, E.den, BO.den, UO.den, TO.den, D.toInt_int, D.toList_list, D.ints_ofInts, i64min, i64max, u8min, u8max, u16min, u16max, u32min, u32max, u64min, u64max, i32min, i32max, Om.sub, selI, ints_app, ints_cut, ints_upd, ints_rep, ints_splice, len_ints]
    omega

def c_hol_in_in_t0 : List (Q × Bool) := [((.fit .i64 (.var 10)), true),
  ((.le (.var 10) (.int 500)), false)]
set_option maxRecDepth 100000 in
theorem c_hol_in_in_y0 : yesOf Try.prog (knownV (tellA c_hol_in_in_t0) tab specs overs) 6000 60 7 [.hollow, .sslice 1 (.int 0) (.var 10) (.var 11) false, .sslice 3 (.int 0) (.var 20) (.var 21) false] (((globSt g0).newO (.eseq ⟨.u8, .var 10, .var 12⟩)).newO (.eseq ⟨.u8, .var 20, .var 22⟩)) = true := by kernel_rfl
def c_hol_in_in_t1 : List (Q × Bool) := [((.fit .i64 (.var 10)), true),
  ((.le (.var 10) (.int 500)), true),
  ((.fit .i64 (.var 20)), true),
  ((.le (.var 20) (.int 500)), false)]
set_option maxRecDepth 100000 in
theorem c_hol_in_in_y1 : yesOf Try.prog (knownV (tellA c_hol_in_in_t1) tab specs overs) 6000 60 7 [.hollow, .sslice 1 (.int 0) (.var 10) (.var 11) false, .sslice 3 (.int 0) (.var 20) (.var 21) false] (((globSt g0).newO (.eseq ⟨.u8, .var 10, .var 12⟩)).newO (.eseq ⟨.u8, .var 20, .var 22⟩)) = true := by kernel_rfl
def c_hol_in_in_t2 : List (Q × Bool) := [((.fit .i64 (.var 10)), true),
  ((.le (.var 10) (.int 500)), true),
  ((.fit .i64 (.var 20)), true),
  ((.le (.var 20) (.int 500)), true),
  ((.le (.int 16) (.var 20)), false)]
set_option maxRecDepth 100000 in
theorem c_hol_in_in_y2 : yesOf Try.prog (knownV (tellA c_hol_in_in_t2) tab specs overs) 6000 60 7 [.hollow, .sslice 1 (.int 0) (.var 10) (.var 11) false, .sslice 3 (.int 0) (.var 20) (.var 21) false] (((globSt g0).newO (.eseq ⟨.u8, .var 10, .var 12⟩)).newO (.eseq ⟨.u8, .var 20, .var 22⟩)) = true := by kernel_rfl
def c_hol_in_in_t3 : List (Q × Bool) := [((.fit .i64 (.var 10)), true),
  ((.le (.var 10) (.int 500)), true),
  ((.fit .i64 (.var 20)), true),
  ((.le (.var 20) (.int 500)), true),
  ((.le (.int 16) (.var 20)), true),
  ((.le (.int 0) (.var 10)), true),
  ((.le (.bi .add (.int 0) (.var 10)) (.var 10)), true),
  ((.le (.var 10) (.int 1000)), true),
  ((.same (.lits [0, 0, 0, 0, 0, 0, 0, 0, 0, 0, 0, 0, 0, 0, 0, 0]) (.fn 9 (.bi .pair (.var 12) (.bi .pair (.int 0) (.bi .pair (.bi .add (.int 0) (.int 1)) (.int 0)))))), true),
  ((.eq (.int 0) (.fn 11 (.bi .pair (.var 12) (.bi .pair (.int 0) (.bi .pair (.bi .add (.int 0) (.int 1)) (.int 0)))))), true),
  ((.le (.int 0) (.var 20)), true),
  ((.le (.bi .add (.int 0) (.var 20)) (.var 20)), true),
  ((.same (.lits [0, 0, 0, 0, 0, 0, 0, 0, 0, 0, 0, 0, 0, 0, 0, 0]) (.fn 12 (.bi .pair (.var 22) (.bi .pair (.int 0) (.bi .pair (.int 0) (.bi .pair (.var 22) (.bi .pair (.int 0) (.bi .pair (.int 0) (.int 0))))))))), true),
  ((.eq (.int 0) (.bi .add (.int 0) (.int 0))), true),
  ((.eq (.int 0) (.fn 13 (.bi .pair (.var 22) (.bi .pair (.int 0) (.bi .pair (.int 0) (.bi .pair (.var 22) (.bi .pair (.int 0) (.bi .pair (.int 0) (.int 0))))))))), true),
  ((.same (.fn 9 (.bi .pair (.var 12) (.bi .pair (.int 0) (.bi .pair (.bi .add (.var 10) (.int 1)) (.int 0))))) (.fn 12 (.bi .pair (.var 12) (.bi .pair (.int 0) (.bi .pair (.var 10) (.bi .pair (.var 22) (.bi .pair (.int 0) (.bi .pair (.int 0) (.int 0))))))))), true),
  ((.eq (.var 10) (.bi .add (.var 10) (.int 0))), true),
  ((.eq (.fn 11 (.bi .pair (.var 12) (.bi .pair (.int 0) (.bi .pair (.bi .add (.var 10) (.int 1)) (.int 0))))) (.fn 13 (.bi .pair (.var 12) (.bi .pair (.int 0) (.bi .pair (.var 10) (.bi .pair (.var 22) (.bi .pair (.int 0) (.bi .pair (.int 0) (.int 0))))))))), true),
  ((.fit .i64 (.bi .add (.var 20) (.int (-16)))), true),
  ((.le (.int 0) (.bi .add (.var 20) (.int (-16)))), true),
  ((.le (.bi .add (.var 20) (.int (-16))) (.var 20)), true),
  ((.le (.var 20) (.var 21)), true),
  ((.le (.int 16) (.bi .add (.int 0) (.var 20))), true),
  ((.le (.int 16) (.bi .add (.var 10) (.var 20))), true),
  ((.le (.bi .add (.bi .add (.var 20) (.int (-16))) (.bi .sub (.var 20) (.bi .add (.var 20) (.int (-16))))) (.var 20)), true),
  ((.le (.bi .sub (.var 20) (.bi .add (.var 20) (.int (-16)))) (.int 1000000)), true),
  ((.eq (.fn 13 (.bi .pair (.var 22) (.bi .pair (.int 0) (.bi .pair (.int 0) (.bi .pair (.var 22) (.bi .pair (.int 0) (.bi .pair (.var 20) (.int 0)))))))) (.fn 2 (.bi .pair (.var 22) (.bi .pair (.bi .add (.var 20) (.int (-16))) (.bi .pair (.bi .add (.bi .add (.var 20) (.int (-16))) (.bi .sub (.var 20) (.bi .add (.var 20) (.int (-16))))) (.int 0)))))), true)]
set_option maxRecDepth 100000 in
theorem c_hol_in_in_y3 : yesOf Try.prog (knownV (tellA c_hol_in_in_t3) tab specs overs) 6000 60 7 [.hollow, .sslice 1 (.int 0) (.var 10) (.var 11) false, .sslice 3 (.int 0) (.var 20) (.var 21) false] (((globSt g0).newO (.eseq ⟨.u8, .var 10, .var 12⟩)).newO (.eseq ⟨.u8, .var 20, .var 22⟩)) = true := by kernel_rfl
theorem c_hol_in_in_walk {W : World} (a0 : Addr) (c0 : Nat) {v1 : Value} {b1 off1 len1 cap1 : Nat} {zs1 : List Int} (h1 : InSlice W .u8 v1 b1 off1 len1 cap1 zs1) {v2 : Value} {b2 off2 len2 cap2 : Nat} {zs2 : List Int} (h2 : InSlice W .u8 v2 b2 off2 len2 cap2 zs2) (hG : GlobsR (om 0 0 [] len1 cap1 zs1 len2 cap2 zs2) W g0) : Calls Try.prog 7 #[.slice (some a0) 0 c0, v1, v2] W fun e w' => e = .returned (.bool true) ∧ Below W.heap.size W w' := by
  have r0 := Rel.globs (om 0 0 [] len1 cap1 zs1 len2 cap2 zs2) W g0 hG
  obtain ⟨le1, r1, x1⟩ := h1.open r0 (l := 10) (c := 11) (x := 12) rfl rfl rfl
  have pos1 := h1.pos
  have lec1 := h1.le
  have max1 := h1.max
  have zl1 := h1.len
  have rng1 := h1.rng
  obtain ⟨le2, r2, x2⟩ := h2.open r1 (l := 20) (c := 21) (x := 22) rfl rfl rfl
  replace x1 := VR.mono le2 _ _ x1
  have pos2 := h2.pos
  have lec2 := h2.le
  have max2 := h2.max
  have zl2 := h2.len
  have rng2 := h2.rng
  have hargs : VRs _ [.hollow, .sslice 1 (.int 0) (.var 10) (.var 11) false, .sslice 3 (.int 0) (.var 20) (.var 21) false] [.slice (some a0) 0 c0, v1, v2] := VRs_cons (vr_hollow a0 c0) (VRs_cons x1 (VRs_cons x2 (VRs_nil)))
  by_cases h0 : 500 < len1
  · refine calls_of_yesV sound tab_ok specs_ok overs_ok c_hol_in_in_y0 rfl (tellA_ok (allTold'_iff.1 ?_)) r2 hargs
    simp only [c_hol_in_in_t0, om_0, om_1, om_2, om_10, om_11, om_12, om_20, om_21, om_22, om_f, allTold', dutiesTold, factsA, factsP, factsR, AV.facts, RW.facts, inK, and_true, Q.holds', E.i, E.s, E.n, D.nat, E.den, BO.den, UO.den, TO.den, D.toInt_int, D.toList_list, D.ints_ofInts, i64min, i64max, u8min, u8max, u16min, u16max, u32min, u32max, u64min, u64max, i32min, i32max, Om.sub, selI, ints_app, ints_cut, ints_upd, ints_rep, ints_splice, len_ints]
    omega
  · by_cases h1 : 500 < len2
    · refine calls_of_yesV sound tab_ok specs_ok overs_ok c_hol_in_in_y1 rfl (tellA_ok (allTold'_iff.1 ?_)) r2 hargs
      simp only [c_hol_in_in_t1, om_0, om_1, om_2, om_10, om_11, om_12, om_20, om_21, om_22, om_f, allTold', dutiesTold, factsA, factsP, factsR, AV.facts, RW.facts, inK, and_true, Q.holds', E.i, E.s, E.n, D.nat, E.den, BO.den, UO.den, TO.den, D.toInt_int, D.toList_list, D.ints_ofInts, i64min, i64max, u8min, u8max, u16min, u16max, u32min, u32max, u64min, u64max, i32min, i32max, Om.sub, selI, ints_app, ints_cut, ints_upd, ints_rep, ints_splice, len_ints]
      omega
    · by_cases h2 : len2 < 16
      · refine calls_of_yesV sound tab_ok specs_ok overs_ok c_hol_in_in_y2 rfl (tellA_ok (allTold'_iff.1 ?_)) r2 hargs
        simp only [c_hol_in_in_t2, om_0, om_1, om_2, om_10, om_11, om_12, om_20, om_21, om_22, om_f, allTold', dutiesTold, factsA, factsP, factsR, AV.facts, RW.facts, inK, and_true, Q.holds', E.i, E.s, E.n, D.nat, E.den, BO.den, UO.den, TO.den, D.toInt_int, D.toList_list, D.ints_ofInts, i64min, i64max, u8min, u8max, u16min, u16max, u32min, u32max, u64min, u64max, i32min, i32max, Om.sub, selI, ints_app, ints_cut, ints_upd, ints_rep, ints_splice, len_ints]
        omega
      · refine calls_of_yesV sound tab_ok specs_ok overs_ok c_hol_in_in_y3 rfl (tellA_ok (allTold'_iff.1 ?_)) r2 hargs
        simp only [c_hol_in_in_t3, om_0, om_1, om_2, om_10, om_11, om_12, om_20, om_21, om_22, om_f, F2, F9, F11, F12, F13, Int.zero_add, allTold', dutiesTold, factsA, factsP, factsR, AV.facts, RW.facts, inK, and_true, Q.holds', E.i, E.s, E.n, D.nat, E.den, BO.den, UO.den, TO.den, D.toInt_int, D.toList_list, D.ints_ofInts, i64min, i64max, u8min, u8max, u16min, u16max, u32min, u32max, u64min, u64max, i32min, i32max, Om.sub, selI, ints_app, ints_cut, ints_upd, ints_rep, ints_splice, len_ints]
        have tA : twoI zs2 0 0 zs2 0 0 = [] := by unfold twoI; rw [prt_nil (by omega) (by omega)]; rfl
        have zA := win_two (x := zs2) (y := zs2) (o := 0) (n := 0) (p := 0) (m := len2) (by omega) (by omega) (by omega) (by omega) (by omega) (by omega)
        have rB := ringL_prt (x := zs1) (o := 0) (n := len1) (by omega) (by omega) (by omega)
        have wB := winL_prt (x := zs1) (o := 0) (n := len1) (by omega) (by omega) (by omega)
        have tB : twoI zs1 0 len1 zs2 0 0 = prt zs1 0 (0 + (len1 : Int)) := by unfold twoI; rw [prt_nil (x := zs2) (by omega) (by omega), List.append_nil]
        have eB : ((len1 : Int) + 1 - 1).toNat = (len1 : Int).toNat := by omega
        have gB : ((len1 : Int).toNat : Int) = len1 := by omega
        have fB : ((((len1 : Int) + 1 - 1).toNat : Nat) : Int) = len1 := by omega
        have zB := win_two (x := zs1) (y := zs2) (o := 0) (n := len1) (p := 0) (m := len2) (by omega) (by omega) (by omega) (by omega) (by omega) (by omega)
        simp only [Int.zero_add] at *
        and_intros <;> first | omega | rfl | trivial | (simp only [tA, tB, eB, fB, gB, rB, wB]; first | done | rfl | omega) | (rw [show (len2 : Int) + -16 + ((len2 : Int) - ((len2 : Int) + -16)) = len2 by omega, show (len2 : Int) + -16 = (len2 : Int) - 16 by omega]; exact zA)

def c_in_nil_nil_t0 : List (Q × Bool) := [((.fit .i64 (.var 0)), true),
  ((.le (.var 0) (.int 500)), false)]
set_option maxRecDepth 100000 in
theorem c_in_nil_nil_y0 : yesOf Try.prog (knownV (tellA c_in_nil_nil_t0) tab specs overs) 6000 60 7 [.sslice 1 (.int 0) (.var 0) (.var 1) false, .nilslice, .nilslice] ((globSt g0).newO (.eseq ⟨.u8, .var 0, .var 2⟩)) = true := by kernel_rfl
def c_in_nil_nil_t1 : List (Q × Bool) := [((.fit .i64 (.var 0)), true),
  ((.le (.var 0) (.int 500)), true)]
set_option maxRecDepth 100000 in
theorem c_in_nil_nil_y1 : yesOf Try.prog (knownV (tellA c_in_nil_nil_t1) tab specs overs) 6000 60 7 [.sslice 1 (.int 0) (.var 0) (.var 1) false, .nilslice, .nilslice] ((globSt g0).newO (.eseq ⟨.u8, .var 0, .var 2⟩)) = true := by kernel_rfl
theorem c_in_nil_nil_walk {W : World} {v0 : Value} {b0 off0 len0 cap0 : Nat} {zs0 : List Int} (h0 : InSlice W .u8 v0 b0 off0 len0 cap0 zs0) (hG : GlobsR (om len0 cap0 zs0 0 0 [] 0 0 []) W g0) : Calls Try.prog 7 #[v0, .slice none 0 0, .slice none 0 0] W fun e w' => e = .returned (.bool true) ∧ Below W.heap.size W w' := by
  have r0 := Rel.globs (om len0 cap0 zs0 0 0 [] 0 0 []) W g0 hG
  obtain ⟨le0, r1, x0⟩ := h0.open r0 (l := 0) (c := 1) (x := 2) rfl rfl rfl
  have pos0 := h0.pos
  have lec0 := h0.le
  have max0 := h0.max
  have zl0 := h0.len
  have rng0 := h0.rng
  have hargs : VRs _ [.sslice 1 (.int 0) (.var 0) (.var 1) false, .nilslice, .nilslice] [v0, .slice none 0 0, .slice none 0 0] := VRs_cons x0 (VRs_cons vr_nil (VRs_cons vr_nil (VRs_nil)))
  by_cases h0 : 500 < len0
  · refine calls_of_yesV sound tab_ok specs_ok overs_ok c_in_nil_nil_y0 rfl (tellA_ok (allTold'_iff.1 ?_)) r1 hargs
    simp only [c_in_nil_nil_t0, om_0, om_1, om_2, om_10, om_11, om_12, om_20, om_21, om_22, om_f, allTold', dutiesTold, factsA, factsP, factsR, AV.facts, RW.facts, inK, and_true, Q.holds', E.i, E.s, E.n, D.nat, E.den, BO.den, UO.den, TO.den, D.toInt_int, D.toList_list, D.ints_ofInts, i64min, i64max, u8min, u8max, u16min, u16max, u32min, u32max, u64min, u64max, i32min, i32max, Om.sub, selI, ints_app, ints_cut, ints_upd, ints_rep, ints_splice, len_ints]
    omega
  · refine calls_of_yesV sound tab_ok specs_ok overs_ok c_in_nil_nil_y1 rfl (tellA_ok (allTold'_iff.1 ?_)) r1 hargs
    simp only [c_in_nil_nil_t1, om_0, om_1, om_2, om_10, om_11, om_12, om_20, om_21, om_22, om_f, allTold', dutiesTold, factsA, factsP, factsR, AV.facts, RW.facts, inK, and_true, Q.holds', E.i, E.s, E.n, D.nat, E.den, BO.den, UO.den, TO.den, D.toInt_int, D.toList_list, D.ints_ofInts, i64min, i64max, u8min, u8max, u16min, u16max, u32min, u32max, u64min, u64max, i32min, i32max, Om.sub, selI, ints_app, ints_cut, ints_upd, ints_rep, ints_splice, len_ints]
    omega

def c_in_nil_hol_t0 : List (Q × Bool) := [((.fit .i64 (.var 0)), true),
  ((.le (.var 0) (.int 500)), false)]
set_option maxRecDepth 100000 in
theorem c_in_nil_hol_y0 : yesOf Try.prog (knownV (tellA c_in_nil_hol_t0) tab specs overs) 6000 60 7 [.sslice 1 (.int 0) (.var 0) (.var 1) false, .nilslice, .hollow] ((globSt g0).newO (.eseq ⟨.u8, .var 0, .var 2⟩)) = true := by kernel_rfl
def c_in_nil_hol_t1 : List (Q × Bool) := [((.fit .i64 (.var 0)), true),
  ((.le (.var 0) (.int 500)), true)]
set_option maxRecDepth 100000 in
theorem c_in_nil_hol_y1 : yesOf Try.prog (knownV (tellA c_in_nil_hol_t1) tab specs overs) 6000 60 7 [.sslice 1 (.int 0) (.var 0) (.var 1) false, .nilslice, .hollow] ((globSt g0).newO (.eseq ⟨.u8, .var 0, .var 2⟩)) = true := by kernel_rfl
theorem c_in_nil_hol_walk {W : World} {v0 : Value} {b0 off0 len0 cap0 : Nat} {zs0 : List Int} (h0 : InSlice W .u8 v0 b0 off0 len0 cap0 zs0) (a2 : Addr) (c2 : Nat) (hG : GlobsR (om len0 cap0 zs0 0 0 [] 0 0 []) W g0) : Calls Try.prog 7 #[v0, .slice none 0 0, .slice (some a2) 0 c2] W fun e w' => e = .returned (.bool true) ∧ Below W.heap.size W w' := by
  have r0 := Rel.globs (om len0 cap0 zs0 0 0 [] 0 0 []) W g0 hG
  obtain ⟨le0, r1, x0⟩ := h0.open r0 (l := 0) (c := 1) (x := 2) rfl rfl rfl
  have pos0 := h0.pos
  have lec0 := h0.le
  have max0 := h0.max
  have zl0 := h0.len
  have rng0 := h0.rng
  have hargs : VRs _ [.sslice 1 (.int 0) (.var 0) (.var 1) false, .nilslice, .hollow] [v0, .slice none 0 0, .slice (some a2) 0 c2] := VRs_cons x0 (VRs_cons vr_nil (VRs_cons (vr_hollow a2 c2) (VRs_nil)))
  by_cases h0 : 500 < len0
  · refine calls_of_yesV sound tab_ok specs_ok overs_ok c_in_nil_hol_y0 rfl (tellA_ok (allTold'_iff.1 ?_)) r1 hargs
    simp only [c_in_nil_hol_t0, om_0, om_1, om_2, om_10, om_11, om_12, om_20, om_21, om_22, om_f, allTold', dutiesTold, factsA, factsP, factsR, AV.facts, RW.facts, inK, and_true, Q.holds', E.i, E.s, E.n, D.nat, E.den, BO.den, UO.den, TO.den, D.toInt_int, D.toList_list, D.ints_ofInts, i64min, i64max, u8min, u8max, u16min, u16max, u32min, u32max, u64min, u64max, i32min, i32max, Om.sub, selI, ints_app, ints_cut, ints_upd, ints_rep, ints_splice, len_ints]
    omega
  · refine calls_of_yesV sound tab_ok specs_ok overs_ok c_in_nil_hol_y1 rfl (tellA_ok (allTold'_iff.1 ?_)) r1 hargs
    simp only [c_in_nil_hol_t1, om_0, om_1, om_2, om_10, om_11, om_12, om_20, om_21, om_22, om_f, allTold', dutiesTold, factsA, factsP, factsR, AV.facts, RW.facts, inK, and_true, Q.holds', E.i, E.s, E.n, D.nat, E.den, BO.den, UO.den, TO.den, D.toInt_int, D.toList_list, D.ints_ofInts, i64min, i64max, u8min, u8max, u16min, u16max, u32min, u32max, u64min, u64max, i32min, i32max, Om.sub, selI, ints_app, ints_cut, ints_upd, ints_rep, ints_splice, len_ints]
    omega

def c_in_nil_in_t0 : List (Q × Bool) := [((.fit .i64 (.var 0)), true),
  ((.le (.var 0) (.int 500)), false)]
set_option maxRecDepth 100000 in
theorem c_in_nil_in_y0 : yesOf Try.prog (knownV (tellA c_in_nil_in_t0) tab specs overs) 6000 60 7 [.sslice 1 (.int 0) (.var 0) (.var 1) false, .nilslice, .sslice 3 (.int 0) (.var 20) (.var 21) false] (((globSt g0).newO (.eseq ⟨.u8, .var 0, .var 2⟩)).newO (.eseq ⟨.u8, .var 20, .var 22⟩)) = true := by kernel_rfl
def c_in_nil_in_t1 : List (Q × Bool) := [((.fit .i64 (.var 0)), true),
  ((.le (.var 0) (.int 500)), true),
  ((.fit .i64 (.var 20)), true),
  ((.le (.var 20) (.int 500)), false)]
set_option maxRecDepth 100000 in
theorem c_in_nil_in_y1 : yesOf Try.prog (knownV (tellA c_in_nil_in_t1) tab specs overs) 6000 60 7 [.sslice 1 (.int 0) (.var 0) (.var 1) false, .nilslice, .sslice 3 (.int 0) (.var 20) (.var 21) false] (((globSt g0).newO (.eseq ⟨.u8, .var 0, .var 2⟩)).newO (.eseq ⟨.u8, .var 20, .var 22⟩)) = true := by kernel_rfl
def c_in_nil_in_t2 : List (Q × Bool) := [((.fit .i64 (.var 0)), true),
  ((.le (.var 0) (.int 500)), true),
  ((.fit .i64 (.var 20)), true),
  ((.le (.var 20) (.int 500)), true),
  ((.le (.int 16) (.var 20)), false)]
set_option maxRecDepth 100000 in
theorem c_in_nil_in_y2 : yesOf Try.prog (knownV (tellA c_in_nil_in_t2) tab specs overs) 6000 60 7 [.sslice 1 (.int 0) (.var 0) (.var 1) false, .nilslice, .sslice 3 (.int 0) (.var 20) (.var 21) false] (((globSt g0).newO (.eseq ⟨.u8, .var 0, .var 2⟩)).newO (.eseq ⟨.u8, .var 20, .var 22⟩)) = true := by kernel_rfl
def c_in_nil_in_t3 : List (Q × Bool) := [((.fit .i64 (.var 0)), true),
  ((.le (.var 0) (.int 500)), true),
  ((.fit .i64 (.var 20)), true),
  ((.le (.var 20) (.int 500)), true),
  ((.le (.int 16) (.var 20)), true),
  ((.le (.int 0) (.var 0)), true),
  ((.le (.bi .add (.int 0) (.var 0)) (.var 0)), true),
  ((.le (.var 0) (.int 1000)), true),
  ((.same (.lits [0, 0, 0, 0, 0, 0, 0, 0, 0, 0, 0, 0, 0, 0, 0, 0]) (.fn 9 (.bi .pair (.var 2) (.bi .pair (.int 0) (.bi .pair (.bi .add (.int 0) (.int 1)) (.int 0)))))), true),
  ((.eq (.int 0) (.fn 11 (.bi .pair (.var 2) (.bi .pair (.int 0) (.bi .pair (.bi .add (.int 0) (.int 1)) (.int 0)))))), true),
  ((.le (.int 0) (.var 20)), true),
  ((.le (.bi .add (.int 0) (.var 20)) (.var 20)), true),
  ((.same (.fn 9 (.bi .pair (.var 2) (.bi .pair (.int 0) (.bi .pair (.bi .add (.var 0) (.int 1)) (.int 0))))) (.fn 12 (.bi .pair (.var 2) (.bi .pair (.int 0) (.bi .pair (.var 0) (.bi .pair (.var 22) (.bi .pair (.int 0) (.bi .pair (.int 0) (.int 0))))))))), true),
  ((.eq (.var 0) (.bi .add (.var 0) (.int 0))), true),
  ((.eq (.fn 11 (.bi .pair (.var 2) (.bi .pair (.int 0) (.bi .pair (.bi .add (.var 0) (.int 1)) (.int 0))))) (.fn 13 (.bi .pair (.var 2) (.bi .pair (.int 0) (.bi .pair (.var 0) (.bi .pair (.var 22) (.bi .pair (.int 0) (.bi .pair (.int 0) (.int 0))))))))), true),
  ((.same (.lits [0, 0, 0, 0, 0, 0, 0, 0, 0, 0, 0, 0, 0, 0, 0, 0]) (.fn 12 (.bi .pair (.var 22) (.bi .pair (.int 0) (.bi .pair (.int 0) (.bi .pair (.var 22) (.bi .pair (.int 0) (.bi .pair (.int 0) (.int 0))))))))), true),
  ((.eq (.int 0) (.bi .add (.int 0) (.int 0))), true),
  ((.eq (.int 0) (.fn 13 (.bi .pair (.var 22) (.bi .pair (.int 0) (.bi .pair (.int 0) (.bi .pair (.var 22) (.bi .pair (.int 0) (.bi .pair (.int 0) (.int 0))))))))), true),
  ((.fit .i64 (.bi .add (.var 20) (.int (-16)))), true),
  ((.le (.int 0) (.bi .add (.var 20) (.int (-16)))), true),
  ((.le (.bi .add (.var 20) (.int (-16))) (.var 20)), true),
  ((.le (.var 20) (.var 21)), true),
  ((.le (.int 16) (.bi .add (.var 0) (.var 20))), true),
  ((.le (.int 16) (.bi .add (.int 0) (.var 20))), true),
  ((.le (.bi .add (.bi .add (.var 20) (.int (-16))) (.bi .sub (.var 20) (.bi .add (.var 20) (.int (-16))))) (.var 20)), true),
  ((.le (.bi .sub (.var 20) (.bi .add (.var 20) (.int (-16)))) (.int 1000000)), true),
  ((.eq (.fn 13 (.bi .pair (.var 2) (.bi .pair (.int 0) (.bi .pair (.var 0) (.bi .pair (.var 22) (.bi .pair (.int 0) (.bi .pair (.var 20) (.int 0)))))))) (.fn 2 (.bi .pair (.var 22) (.bi .pair (.bi .add (.var 20) (.int (-16))) (.bi .pair (.bi .add (.bi .add (.var 20) (.int (-16))) (.bi .sub (.var 20) (.bi .add (.var 20) (.int (-16))))) (.int 0)))))), true)]
set_option maxRecDepth 100000 in
theorem c_in_nil_in_y3 : yesOf Try.prog (knownV (tellA c_in_nil_in_t3) tab specs overs) 6000 60 7 [.sslice 1 (.int 0) (.var 0) (.var 1) false, .nilslice, .sslice 3 (.int 0) (.var 20) (.var 21) false] (((globSt g0).newO (.eseq ⟨.u8, .var 0, .var 2⟩)).newO (.eseq ⟨.u8, .var 20, .var 22⟩)) = true := by kernel_rfl
theorem c_in_nil_in_walk {W : World} {v0 : Value} {b0 off0 len0 cap0 : Nat} {zs0 : List Int} (h0 : InSlice W .u8 v0 b0 off0 len0 cap0 zs0) {v2 : Value} {b2 off2 len2 cap2 : Nat} {zs2 : List Int} (h2 : InSlice W .u8 v2 b2 off2 len2 cap2 zs2) (hG : GlobsR (om len0 cap0 zs0 0 0 [] len2 cap2 zs2) W g0) : Calls Try.prog 7 #[v0, .slice none 0 0, v2] W fun e w' => e = .returned (.bool true) ∧ Below W.heap.size W w' := by
  have r0 := Rel.globs (om len0 cap0 zs0 0 0 [] len2 cap2 zs2) W g0 hG
  obtain ⟨le0, r1, x0⟩ := h0.open r0 (l := 0) (c := 1) (x := 2) rfl rfl rfl
  have pos0 := h0.pos
  have lec0 := h0.le
  have max0 := h0.max
  have zl0 := h0.len
  have rng0 := h0.rng
  obtain ⟨le2, r2, x2⟩ := h2.open r1 (l := 20) (c := 21) (x := 22) rfl rfl rfl
  replace x0 := VR.mono le2 _ _ x0
  have pos2 := h2.pos
  have lec2 := h2.le
  have max2 := h2.max
  have zl2 := h2.len
  have rng2 := h2.rng
  have hargs : VRs _ [.sslice 1 (.int 0) (.var 0) (.var 1) false, .nilslice, .sslice 3 (.int 0) (.var 20) (.var 21) false] [v0, .slice none 0 0, v2] := VRs_cons x0 (VRs_cons vr_nil (VRs_cons x2 (VRs_nil)))
  by_cases h0 : 500 < len0
  · refine calls_of_yesV sound tab_ok specs_ok overs_ok c_in_nil_in_y0 rfl (tellA_ok (allTold'_iff.1 ?_)) r2 hargs
    simp only [c_in_nil_in_t0, om_0, om_1, om_2, om_10, om_11, om_12, om_20, om_21, om_22, om_f, allTold', dutiesTold, factsA, factsP, factsR, AV.facts, RW.facts, inK, and_true, Q.holds', E.i, E.s, E.n, D.nat, E.den, BO.den, UO.den, TO.den, D.toInt_int, D.toList_list, D.ints_ofInts, i64min, i64max, u8min, u8max, u16min, u16max, u32min, u32max, u64min, u64max, i32min, i32max, Om.sub, selI, ints_app, ints_cut, ints_upd, ints_rep, ints_splice, len_ints]
    omega
  · by_cases h1 : 500 < len2
    · refine calls_of_yesV sound tab_ok specs_ok overs_ok c_in_nil_in_y1 rfl (tellA_ok (allTold'_iff.1 ?_)) r2 hargs
      simp only [c_in_nil_in_t1, om_0, om_1, om_2, om_10, om_11, om_12, om_20, om_21, om_22, om_f, allTold', dutiesTold, factsA, factsP, factsR, AV.facts, RW.facts, inK, and_true, Q.holds', E.i, E.s, E.n, D.nat, E.den, BO.den, UO.den, TO.den, D.toInt_int, D.toList_list, D.ints_ofInts, i64min, i64max, u8min, u8max, u16min, u16max, u32min, u32max, u64min, u64max, i32min, i32max, Om.sub, selI, ints_app, ints_cut, ints_upd, ints_rep, ints_splice, len_ints]
      omega
    · by_cases h2 : len2 < 16
      · refine calls_of_yesV sound tab_ok specs_ok overs_ok c_in_nil_in_y2 rfl (tellA_ok (allTold'_iff.1 ?_)) r2 hargs
        simp only [c_in_nil_in_t2, om_0, om_1, om_2, om_10, om_11, om_12, om_20, om_21, om_22, om_f, allTold', dutiesTold, factsA, factsP, factsR, AV.facts, RW.facts, inK, and_true, Q.holds', E.i, E.s, E.n, D.nat, E.den, BO.den, UO.den, TO.den, D.toInt_int, D.toList_list, D.ints_ofInts, i64min, i64max, u8min, u8max, u16min, u16max, u32min, u32max, u64min, u64max, i32min, i32max, Om.sub, selI, ints_app, ints_cut, ints_upd, ints_rep, ints_splice, len_ints]
        omega
      · refine calls_of_yesV sound tab_ok specs_ok overs_ok c_in_nil_in_y3 rfl (tellA_ok (allTold'_iff.1 ?_)) r2 hargs
        simp only [c_in_nil_in_t3, om_0, om_1, om_2, om_10, om_11, om_12, om_20, om_21, om_22, om_f, F2, F9, F11, F12, F13, Int.zero_add, allTold', dutiesTold, factsA, factsP, factsR, AV.facts, RW.facts, inK, and_true, Q.holds', E.i, E.s, E.n, D.nat, E.den, BO.den, UO.den, TO.den, D.toInt_int, D.toList_list, D.ints_ofInts, i64min, i64max, u8min, u8max, u16min, u16max, u32min, u32max, u64min, u64max, i32min, i32max, Om.sub, selI, ints_app, ints_cut, ints_upd, ints_rep, ints_splice, len_ints]
        have rA := ringL_prt (x := zs0) (o := 0) (n := len0) (by omega) (by omega) (by omega)
        have wA := winL_prt (x := zs0) (o := 0) (n := len0) (by omega) (by omega) (by omega)
        have tA : twoI zs0 0 len0 zs2 0 0 = prt zs0 0 (0 + (len0 : Int)) := by unfold twoI; rw [prt_nil (x := zs2) (by omega) (by omega), List.append_nil]
        have eA : ((len0 : Int) + 1 - 1).toNat = (len0 : Int).toNat := by omega
        have gA : ((len0 : Int).toNat : Int) = len0 := by omega
        have fA : ((((len0 : Int) + 1 - 1).toNat : Nat) : Int) = len0 := by omega
        have zA := win_two (x := zs0) (y := zs2) (o := 0) (n := len0) (p := 0) (m := len2) (by omega) (by omega) (by omega) (by omega) (by omega) (by omega)
        have tB : twoI zs2 0 0 zs2 0 0 = [] := by unfold twoI; rw [prt_nil (by omega) (by omega)]; rfl
        have zB := win_two (x := zs2) (y := zs2) (o := 0) (n := 0) (p := 0) (m := len2) (by omega) (by omega) (by omega) (by omega) (by omega) (by omega)
        simp only [Int.zero_add] at *
        and_intros <;> first | omega | rfl | trivial | (simp only [tA, eA, fA, gA, rA, wA, tB]; first | done | rfl | omega) | (rw [show (len2 : Int) + -16 + ((len2 : Int) - ((len2 : Int) + -16)) = len2 by omega, show (len2 : Int) + -16 = (len2 : Int) - 16 by omega]; exact zA)

def c_in_hol_nil_t0 : List (Q × Bool) := [((.fit .i64 (.var 0)), true),
  ((.le (.var 0) (.int 500)), false)]
set_option maxRecDepth 100000 in
theorem c_in_hol_nil_y0 : yesOf Try.prog (knownV (tellA c_in_hol_nil_t0) tab specs overs) 6000 60 7 [.sslice 1 (.int 0) (.var 0) (.var 1) false, .hollow, .nilslice] ((globSt g0).newO (.eseq ⟨.u8, .var 0, .var 2⟩)) = true := by kernel_rfl
def c_in_hol_nil_t1 : List (Q × Bool) := [((.fit .i64 (.var 0)), true),
  ((.le (.var 0) (.int 500)), true)]
set_option maxRecDepth 100000 in
theorem c_in_hol_nil_y1 : yesOf Try.prog (knownV (tellA c_in_hol_nil_t1) tab specs overs) 6000 60 7 [.sslice 1 (.int 0) (.var 0) (.var 1) false, .hollow, .nilslice] ((globSt g0).newO (.eseq ⟨.u8, .var 0, .var 2⟩)) = true := by kernel_rfl
theorem c_in_hol_nil_walk {W : World} {v0 : Value} {b0 off0 len0 cap0 : Nat} {zs0 : List Int} (h0 : InSlice W .u8 v0 b0 off0 len0 cap0 zs0) (a1 : Addr) (c1 : Nat) (hG : GlobsR (om len0 cap0 zs0 0 0 [] 0 0 []) W g0) : Calls Try.prog 7 #[v0, .slice (some a1) 0 c1, .slice none 0 0] W fun e w' => e = .returned (.bool true) ∧ Below W.heap.size W w' := by
  have r0 := Rel.globs (om len0 cap0 zs0 0 0 [] 0 0 []) W g0 hG
  obtain ⟨le0, r1, x0⟩ := h0.open r0 (l := 0) (c := 1) (x := 2) rfl rfl rfl
  have pos0 := h0.pos
  have lec0 := h0.le
  have max0 := h0.max
  have zl0 := h0.len
  have rng0 := h0.rng
  have hargs : VRs _ [.sslice 1 (.int 0) (.var 0) (.var 1) false, .hollow, .nilslice] [v0, .slice (some a1) 0 c1, .slice none 0 0] := VRs_cons x0 (VRs_cons (vr_hollow a1 c1) (VRs_cons vr_nil (VRs_nil)))
  by_cases h0 : 500 < len0
  · refine calls_of_yesV sound tab_ok specs_ok overs_ok c_in_hol_nil_y0 rfl (tellA_ok (allTold'_iff.1 ?_)) r1 hargs
    simp only [c_in_hol_nil_t0, om_0, om_1, om_2, om_10, om_11, om_12, om_20, om_21, om_22, om_f, allTold', dutiesTold, factsA, factsP, factsR, AV.facts, RW.facts, inK, and_true, Q.holds', E.i, E.s, E.n, D.nat, E.den, BO.den, UO.den, TO.den, D.toInt_int, D.toList_list, D.ints_ofInts, i64min, i64max, u8min, u8max, u16min, u16max, u32min, u32max, u64min, u64max, i32min, i32max, Om.sub, selI, ints_app, ints_cut, ints_upd, ints_rep, ints_splice, len_ints]
    omega
  · refine calls_of_yesV sound tab_ok specs_ok overs_ok c_in_hol_nil_y1 rfl (tellA_ok (allTold'_iff.1 ?_)) r1 hargs
    simp only [c_in_hol_nil_t1, om_0, om_1, om_2, om_10, om_11, om_12, om_20, om_21, om_22, om_f, allTold', dutiesTold, factsA, factsP, factsR, AV.facts, RW.facts, inK, and_true, Q.holds', E.i, E.s, E.n, D.nat, E.den, BO.den, UO.den, TO.den, D.toInt_int, D.toList_list, D.ints_ofInts, i64min, i64max, u8min, u8max, u16min, u16max, u32min, u32max, u64min, u64max, i32min, i32max, Om.sub, selI, ints_app, ints_cut, ints_upd, ints_rep, ints_splice, len_ints]
    omega

def c_in_hol_hol_t0 : List (Q × Bool) := [((.fit .i64 (.var 0)), true),
  ((.le (.var 0) (.int 500)), false)]
set_option maxRecDepth 100000 in
theorem c_in_hol_hol_y0 : yesOf Try.prog (knownV (tellA c_in_hol_hol_t0) tab specs overs) 6000 60 7 [.sslice 1 (.int 0) (.var 0) (.var 1) false, .hollow, .hollow] ((globSt g0).newO (.eseq ⟨.u8, .var 0, .var 2⟩)) = true := by kernel_rfl
def c_in_hol_hol_t1 : List (Q × Bool) := [((.fit .i64 (.var 0)), true),
  ((.le (.var 0) (.int 500)), true)]
set_option maxRecDepth 100000 in
theorem c_in_hol_hol_y1 : yesOf Try.prog (knownV (tellA c_in_hol_hol_t1) tab specs overs) 6000 60 7 [.sslice 1 (.int 0) (.var 0) (.var 1) false, .hollow, .hollow] ((globSt g0).newO (.eseq ⟨.u8, .var 0, .var 2⟩)) = true := by kernel_rfl
theorem c_in_hol_hol_walk {W : World} {v0 : Value} {b0 off0 len0 cap0 : Nat} {zs0 : List Int} (h0 : InSlice W .u8 v0 b0 off0 len0 cap0 zs0) (a1 : Addr) (c1 : Nat) (a2 : Addr) (c2 : Nat) (hG : GlobsR (om len0 cap0 zs0 0 0 [] 0 0 []) W g0) : Calls Try.prog 7 #[v0, .slice (some a1) 0 c1, .slice (some a2) 0 c2] W fun e w' => e = .returned (.bool true) ∧ Below W.heap.size W w' := by
  have r0 := Rel.globs (om len0 cap0 zs0 0 0 [] 0 0 []) W g0 hG
  obtain ⟨le0, r1, x0⟩ := h0.open r0 (l := 0) (c := 1) (x := 2) rfl rfl rfl
  have pos0 := h0.pos
  have lec0 := h0.le
  have max0 := h0.max
  have zl0 := h0.len
  have rng0 := h0.rng
  have hargs : VRs _ [.sslice 1 (.int 0) (.var 0) (.var 1) false, .hollow, .hollow] [v0, .slice (some a1) 0 c1, .slice (some a2) 0 c2] := VRs_cons x0 (VRs_cons (vr_hollow a1 c1) (VRs_cons (vr_hollow a2 c2) (VRs_nil)))
  by_cases h0 : 500 < len0
  · refine calls_of_yesV sound tab_ok specs_ok overs_ok c_in_hol_hol_y0 rfl (tellA_ok (allTold'_iff.1 ?_)) r1 hargs
    simp only [c_in_hol_hol_t0, om_0, om_1, om_2, om_10, om_11, om_12, om_20, om_21, om_22, om_f, allTold', dutiesTold, factsA, factsP, factsR, AV.facts, RW.facts, inK, and_true, Q.holds', E.i, E.s, E.n, D.nat, E.den, BO.den, UO.den, TO.den, D.toInt_int, D.toList_list, D.ints_ofInts, i64min, i64max, u8min, u8max, u16min, u16max, u32min, u32max, u64min, u64max, i32min, i32max, Om.sub, selI, ints_app, ints_cut, ints_upd, ints_rep, ints_splice, len_ints]
    omega
  · refine calls_of_yesV sound tab_ok specs_ok overs_ok c_in_hol_hol_y1 rfl (tellA_ok (allTold'_iff.1 ?_)) r1 hargs
    simp only [c_in_hol_hol_t1, om_0, om_1, om_2, om_10, om_11, om_12, om_20, om_21, om_22, om_f, allTold', dutiesTold, factsA, factsP, factsR, AV.facts, RW.facts, inK, and_true, Q.holds', E.i, E.s, E.n, D.nat, E.den, BO.den, UO.den, TO.den, D.toInt_int, D.toList_list, D.ints_ofInts, i64min, i64max, u8min, u8max, u16min, u16max, u32min, u32max, u64min, u64max, i32min, i32max, Om.sub, selI, ints_app, ints_cut, ints_upd, ints_rep, ints_splice, len_ints]
    omega

def c_in_hol_in_t0 : List (Q × Bool) := [((.fit .i64 (.var 0)), true),
  ((.le (.var 0) (.int 500)), false)]
set_option maxRecDepth 100000 in
theorem c_in_hol_in_y0 : yesOf Try.prog (knownV (tellA c_in_hol_in_t0) tab specs overs) 6000 60 7 [.sslice 1 (.int 0) (.var 0) (.var 1) false, .hollow, .sslice 3 (.int 0) (.var 20) (.var 21) false] (((globSt g0).newO (.eseq ⟨.u8, .var 0, .var 2⟩)).newO (.eseq ⟨.u8, .var 20, .var 22⟩)) = true := by kernel_rfl
def c_in_hol_in_t1 : List (Q × Bool) := [((.fit .i64 (.var 0)), true),
  ((.le (.var 0) (.int 500)), true),
  ((.fit .i64 (.var 20)), true),
  ((.le (.var 20) (.int 500)), false)]
set_option maxRecDepth 100000 in
theorem c_in_hol_in_y1 : yesOf Try.prog (knownV (tellA c_in_hol_in_t1) tab specs overs) 6000 60 7 [.sslice 1 (.int 0) (.var 0) (.var 1) false, .hollow, .sslice 3 (.int 0) (.var 20) (.var 21) false] (((globSt g0).newO (.eseq ⟨.u8, .var 0, .var 2⟩)).newO (.eseq ⟨.u8, .var 20, .var 22⟩)) = true := by kernel_rfl
def c_in_hol_in_t2 : List (Q × Bool) := [((.fit .i64 (.var 0)), true),
  ((.le (.var 0) (.int 500)), true),
  ((.fit .i64 (.var 20)), true),
  ((.le (.var 20) (.int 500)), true),
  ((.le (.int 16) (.var 20)), false)]
set_option maxRecDepth 100000 in
theorem c_in_hol_in_y2 : yesOf Try.prog (knownV (tellA c_in_hol_in_t2) tab specs overs) 6000 60 7 [.sslice 1 (.int 0) (.var 0) (.var 1) false, .hollow, .sslice 3 (.int 0) (.var 20) (.var 21) false] (((globSt g0).newO (.eseq ⟨.u8, .var 0, .var 2⟩)).newO (.eseq ⟨.u8, .var 20, .var 22⟩)) = true := by kernel_rfl
def c_in_hol_in_t3 : List (Q × Bool) := [((.fit .i64 (.var 0)), true),
  ((.le (.var 0) (.int 500)), true),
  ((.fit .i64 (.var 20)), true),
  ((.le (.var 20) (.int 500)), true),
  ((.le (.int 16) (.var 20)), true),
  ((.le (.int 0) (.var 0)), true),
  ((.le (.bi .add (.int 0) (.var 0)) (.var 0)), true),
  ((.le (.var 0) (.int 1000)), true),
  ((.same (.lits [0, 0, 0, 0, 0, 0, 0, 0, 0, 0, 0, 0, 0, 0, 0, 0]) (.fn 9 (.bi .pair (.var 2) (.bi .pair (.int 0) (.bi .pair (.bi .add (.int 0) (.int 1)) (.int 0)))))), true),
  ((.eq (.int 0) (.fn 11 (.bi .pair (.var 2) (.bi .pair (.int 0) (.bi .pair (.bi .add (.int 0) (.int 1)) (.int 0)))))), true),
  ((.le (.int 0) (.var 20)), true),
  ((.le (.bi .add (.int 0) (.var 20)) (.var 20)), true),
  ((.same (.fn 9 (.bi .pair (.var 2) (.bi .pair (.int 0) (.bi .pair (.bi .add (.var 0) (.int 1)) (.int 0))))) (.fn 12 (.bi .pair (.var 2) (.bi .pair (.int 0) (.bi .pair (.var 0) (.bi .pair (.var 22) (.bi .pair (.int 0) (.bi .pair (.int 0) (.int 0))))))))), true),
  ((.eq (.var 0) (.bi .add (.var 0) (.int 0))), true),
  ((.eq (.fn 11 (.bi .pair (.var 2) (.bi .pair (.int 0) (.bi .pair (.bi .add (.var 0) (.int 1)) (.int 0))))) (.fn 13 (.bi .pair (.var 2) (.bi .pair (.int 0) (.bi .pair (.var 0) (.bi .pair (.var 22) (.bi .pair (.int 0) (.bi .pair (.int 0) (.int 0))))))))), true),
  ((.same (.lits [0, 0, 0, 0, 0, 0, 0, 0, 0, 0, 0, 0, 0, 0, 0, 0]) (.fn 12 (.bi .pair (.var 22) (.bi .pair (.int 0) (.bi .pair (.int 0) (.bi .pair (.var 22) (.bi .pair (.int 0) (.bi .pair (.int 0) (.int 0))))))))), true),
  ((.eq (.int 0) (.bi .add (.int 0) (.int 0))), true),
  ((.eq (.int 0) (.fn 13 (.bi .pair (.var 22) (.bi .pair (.int 0) (.bi .pair (.int 0) (.bi .pair (.var 22) (.bi .pair (.int 0) (.bi .pair (.int 0) (.int 0))))))))), true),
  ((.fit .i64 (.bi .add (.var 20) (.int (-16)))), true),
  ((.le (.int 0) (.bi .add (.var 20) (.int (-16)))), true),
  ((.le (.bi .add (.var 20) (.int (-16))) (.var 20)), true),
  ((.le (.var 20) (.var 21)), true),
  ((.le (.int 16) (.bi .add (.var 0) (.var 20))), true),
  ((.le (.int 16) (.bi .add (.int 0) (.var 20))), true),
  ((.le (.bi .add (.bi .add (.var 20) (.int (-16))) (.bi .sub (.var 20) (.bi .add (.var 20) (.int (-16))))) (.var 20)), true),
  ((.le (.bi .sub (.var 20) (.bi .add (.var 20) (.int (-16)))) (.int 1000000)), true),
  ((.eq (.fn 13 (.bi .pair (.var 2) (.bi .pair (.int 0) (.bi .pair (.var 0) (.bi .pair (.var 22) (.bi .pair (.int 0) (.bi .pair (.var 20) (.int 0)))))))) (.fn 2 (.bi .pair (.var 22) (.bi .pair (.bi .add (.var 20) (.int (-16))) (.bi .pair (.bi .add (.bi .add (.var 20) (.int (-16))) (.bi .sub (.var 20) (.bi .add (.var 20) (.int (-16))))) (.int 0)))))), true)]
set_option maxRecDepth 100000 in
theorem c_in_hol_in_y3 : yesOf Try.prog (knownV (tellA c_in_hol_in_t3) tab specs overs) 6000 60 7 [.sslice 1 (.int 0) (.var 0) (.var 1) false, .hollow, .sslice 3 (.int 0) (.var 20) (.var 21) false] (((globSt g0).newO (.eseq ⟨.u8, .var 0, .var 2⟩)).newO (.eseq ⟨.u8, .var 20, .var 22⟩)) = true := by kernel_rfl
theorem c_in_hol_in_walk {W : World} {v0 : Value} {b0 off0 len0 cap0 : Nat} {zs0 : List Int} (h0 : InSlice W .u8 v0 b0 off0 len0 cap0 zs0) (a1 : Addr) (c1 : Nat) {v2 : Value} {b2 off2 len2 cap2 : Nat} {zs2 : List Int} (h2 : InSlice W .u8 v2 b2 off2 len2 cap2 zs2) (hG : GlobsR (om len0 cap0 zs0 0 0 [] len2 cap2 zs2) W g0) : Calls Try.prog 7 #[v0, .slice (some a1) 0 c1, v2] W fun e w' => e = .returned (.bool true) ∧ Below W.heap.size W w' := by
  have r0 := Rel.globs (om len0 cap0 zs0 0 0 [] len2 cap2 zs2) W g0 hG
  obtain ⟨le0, r1, x0⟩ := h0.open r0 (l := 0) (c := 1) (x := 2) rfl rfl rfl
  have pos0 := h0.pos
  have lec0 := h0.le
  have max0 := h0.max
  have zl0 := h0.len
  have rng0 := h0.rng
  obtain ⟨le2, r2, x2⟩ := h2.open r1 (l := 20) (c := 21) (x := 22) rfl rfl rfl
  replace x0 := VR.mono le2 _ _ x0
  have pos2 := h2.pos
  have lec2 := h2.le
  have max2 := h2.max
  have zl2 := h2.len
  have rng2 := h2.rng
  have hargs : VRs _ [.sslice 1 (.int 0) (.var 0) (.var 1) false, .hollow, .sslice 3 (.int 0) (.var 20) (.var 21) false] [v0, .slice (some a1) 0 c1, v2] := VRs_cons x0 (VRs_cons (vr_hollow a1 c1) (VRs_cons x2 (VRs_nil)))
  by_cases h0 : 500 < len0
  · refine calls_of_yesV sound tab_ok specs_ok overs_ok c_in_hol_in_y0 rfl (tellA_ok (allTold'_iff.1 ?_)) r2 hargs
    simp only [c_in_hol_in_t0, om_0, om_1, om_2, om_10, om_11, om_12, om_20, om_21, om_22, om_f, allTold', dutiesTold, factsA, factsP, factsR, AV.facts, RW.facts, inK, and_true, Q.holds', E.i, E.s, E.n, D.nat, E.den, BO.den, UO.den, TO.den, D.toInt_int, D.toList_list, D.ints_ofInts, i64min, i64max, u8min, u8max, u16min, u16max, u32min, u32max, u64min, u64max, i32min, i32max, Om.sub, selI, ints_app, ints_cut, ints_upd, ints_rep, ints_splice, len_ints]
    omega
  · by_cases h1 : 500 < len2
    · refine calls_of_yesV sound tab_ok specs_ok overs_ok c_in_hol_in_y1 rfl (tellA_ok (allTold'_iff.1 ?_)) r2 hargs
      simp only [c_in_hol_in_t1, om_0, om_1, om_2, om_10, om_11, om_12, om_20, om_21, om_22, om_f, allTold', dutiesTold, factsA, factsP, factsR, AV.facts, RW.facts, inK, and_true, Q.holds', E.i, E.s, E.n, D.nat, E.den, BO.den, UO.den, TO.den, D.toInt_int, D.toList_list, D.ints_ofInts, i64min, i64max, u8min, u8max, u16min, u16max, u32min, u32max, u64min, u64max, i32min, i32max, Om.sub, selI, ints_app, ints_cut, ints_upd, ints_rep, ints_splice, len_ints]
      omega
    · by_cases h2 : len2 < 16
      · refine calls_of_yesV sound tab_ok specs_ok overs_ok c_in_hol_in_y2 rfl (tellA_ok (allTold'_iff.1 ?_)) r2 hargs
        simp only [c_in_hol_in_t2, om_0, om_1, om_2, om_10, om_11, om_12, om_20, om_21, om_22, om_f, allTold', dutiesTold, factsA, factsP, factsR, AV.facts, RW.facts, inK, and_true, Q.holds', E.i, E.s, E.n, D.nat, E.den, BO.den, UO.den, TO.den, D.toInt_int, D.toList_list, D.ints_ofInts, i64min, i64max, u8min, u8max, u16min, u16max, u32min, u32max, u64min, u64max, i32min, i32max, Om.sub, selI, ints_app, ints_cut, ints_upd, ints_rep, ints_splice, len_ints]
        omega
      · refine calls_of_yesV sound tab_ok specs_ok overs_ok c_in_hol_in_y3 rfl (tellA_ok (allTold'_iff.1 ?_)) r2 hargs
        simp only [c_in_hol_in_t3, om_0, om_1, om_2, om_10, om_11, om_12, om_20, om_21, om_22, om_f, F2, F9, F11, F12, F13, Int.zero_add, allTold', dutiesTold, factsA, factsP, factsR, AV.facts, RW.facts, inK, and_true, Q.holds', E.i, E.s, E.n, D.nat, E.den, BO.den, UO.den, TO.den, D.toInt_int, D.toList_list, D.ints_ofInts, i64min, i64max, u8min, u8max, u16min, u16max, u32min, u32max, u64min, u64max, i32min, i32max, Om.sub, selI, ints_app, ints_cut, ints_upd, ints_rep, ints_splice, len_ints]
        have rA := ringL_prt (x := zs0) (o := 0) (n := len0) (by omega) (by omega) (by omega)
        have wA := winL_prt (x := zs0) (o := 0) (n := len0) (by omega) (by omega) (by omega)
        have tA : twoI zs0 0 len0 zs2 0 0 = prt zs0 0 (0 + (len0 : Int)) := by unfold twoI; rw [prt_nil (x := zs2) (by omega) (by omega), List.append_nil]
        have eA : ((len0 : Int) + 1 - 1).toNat = (len0 : Int).toNat := by omega
        have gA : ((len0 : Int).toNat : Int) = len0 := by omega
        have fA : ((((len0 : Int) + 1 - 1).toNat : Nat) : Int) = len0 := by omega
        have zA := win_two (x := zs0) (y := zs2) (o := 0) (n := len0) (p := 0) (m := len2) (by omega) (by omega) (by omega) (by omega) (by omega) (by omega)
        have tB : twoI zs2 0 0 zs2 0 0 = [] := by unfold twoI; rw [prt_nil (by omega) (by omega)]; rfl
        have zB := win_two (x := zs2) (y := zs2) (o := 0) (n := 0) (p := 0) (m := len2) (by omega) (by omega) (by omega) (by omega) (by omega) (by omega)
        simp only [Int.zero_add] at *
        and_intros <;> first | omega | rfl | trivial | (simp only [tA, eA, fA, gA, rA, wA, tB]; first | done | rfl | omega) | (rw [show (len2 : Int) + -16 + ((len2 : Int) - ((len2 : Int) + -16)) = len2 by omega, show (len2 : Int) + -16 = (len2 : Int) - 16 by omega]; exact zA)

def c_in_in_nil_t0 : List (Q × Bool) := [((.fit .i64 (.var 0)), true),
  ((.le (.var 0) (.int 500)), false)]
set_option maxRecDepth 100000 in
theorem c_in_in_nil_y0 : yesOf Try.prog (knownV (tellA c_in_in_nil_t0) tab specs overs) 6000 60 7 [.sslice 1 (.int 0) (.var 0) (.var 1) false, .sslice 3 (.int 0) (.var 10) (.var 11) false, .nilslice] (((globSt g0).newO (.eseq ⟨.u8, .var 0, .var 2⟩)).newO (.eseq ⟨.u8, .var 10, .var 12⟩)) = true := by kernel_rfl
def c_in_in_nil_t1 : List (Q × Bool) := [((.fit .i64 (.var 0)), true),
  ((.le (.var 0) (.int 500)), true),
  ((.fit .i64 (.var 10)), true),
  ((.le (.var 10) (.int 500)), false)]
set_option maxRecDepth 100000 in
theorem c_in_in_nil_y1 : yesOf Try.prog (knownV (tellA c_in_in_nil_t1) tab specs overs) 6000 60 7 [.sslice 1 (.int 0) (.var 0) (.var 1) false, .sslice 3 (.int 0) (.var 10) (.var 11) false, .nilslice] (((globSt g0).newO (.eseq ⟨.u8, .var 0, .var 2⟩)).newO (.eseq ⟨.u8, .var 10, .var 12⟩)) = true := by kernel_rfl
def c_in_in_nil_t2 : List (Q × Bool) := [((.fit .i64 (.var 0)), true),
  ((.le (.var 0) (.int 500)), true),
  ((.fit .i64 (.var 10)), true),
  ((.le (.var 10) (.int 500)), true)]
set_option maxRecDepth 100000 in
theorem c_in_in_nil_y2 : yesOf Try.prog (knownV (tellA c_in_in_nil_t2) tab specs overs) 6000 60 7 [.sslice 1 (.int 0) (.var 0) (.var 1) false, .sslice 3 (.int 0) (.var 10) (.var 11) false, .nilslice] (((globSt g0).newO (.eseq ⟨.u8, .var 0, .var 2⟩)).newO (.eseq ⟨.u8, .var 10, .var 12⟩)) = true := by kernel_rfl
theorem c_in_in_nil_walk {W : World} {v0 : Value} {b0 off0 len0 cap0 : Nat} {zs0 : List Int} (h0 : InSlice W .u8 v0 b0 off0 len0 cap0 zs0) {v1 : Value} {b1 off1 len1 cap1 : Nat} {zs1 : List Int} (h1 : InSlice W .u8 v1 b1 off1 len1 cap1 zs1) (hG : GlobsR (om len0 cap0 zs0 len1 cap1 zs1 0 0 []) W g0) : Calls Try.prog 7 #[v0, v1, .slice none 0 0] W fun e w' => e = .returned (.bool true) ∧ Below W.heap.size W w' := by
  have r0 := Rel.globs (om len0 cap0 zs0 len1 cap1 zs1 0 0 []) W g0 hG
  obtain ⟨le0, r1, x0⟩ := h0.open r0 (l := 0) (c := 1) (x := 2) rfl rfl rfl
  have pos0 := h0.pos
  have lec0 := h0.le
  have max0 := h0.max
  have zl0 := h0.len
  have rng0 := h0.rng
  obtain ⟨le1, r2, x1⟩ := h1.open r1 (l := 10) (c := 11) (x := 12) rfl rfl rfl
  replace x0 := VR.mono le1 _ _ x0
  have pos1 := h1.pos
  have lec1 := h1.le
  have max1 := h1.max
  have zl1 := h1.len
  have rng1 := h1.rng
  have hargs : VRs _ [.sslice 1 (.int 0) (.var 0) (.var 1) false, .sslice 3 (.int 0) (.var 10) (.var 11) false, .nilslice] [v0, v1, .slice none 0 0] := VRs_cons x0 (VRs_cons x1 (VRs_cons vr_nil (VRs_nil)))
  by_cases h0 : 500 < len0
  · refine calls_of_yesV sound tab_ok specs_ok overs_ok c_in_in_nil_y0 rfl (tellA_ok (allTold'_iff.1 ?_)) r2 hargs
    simp only [c_in_in_nil_t0, om_0, om_1, om_2, om_10, om_11, om_12, om_20, om_21, om_22, om_f, allTold', dutiesTold, factsA, factsP, factsR, AV.facts, RW.facts, inK, and_true, Q.holds', E.i, E.s, E.n, D.nat, E.den, BO.den, UO.den, TO.den, D.toInt_int, D.toList_list, D.ints_ofInts, i64min, i64max, u8min, u8max, u16min, u16max, u32min, u32max, u64min, u64max, i32min, i32max, Om.sub, selI, ints_app, ints_cut, ints_upd, ints_rep, ints_splice, len_ints]
    omega
  · by_cases h1 : 500 < len1
    · refine calls_of_yesV sound tab_ok specs_ok overs_ok c_in_in_nil_y1 rfl (tellA_ok (allTold'_iff.1 ?_)) r2 hargs
      simp only [c_in_in_nil_t1, om_0, om_1, om_2, om_10, om_11, om_12, om_20, om_21, om_22, om_f, allTold', dutiesTold, factsA, factsP, factsR, AV.facts, RW.facts, inK, and_true, Q.holds', E.i, E.s, E.n, D.nat, E.den, BO.den, UO.den, TO.den, D.toInt_int, D.toList_list, D.ints_ofInts, i64min, i64max, u8min, u8max, u16min, u16max, u32min, u32max, u64min, u64max, i32min, i32max, Om.sub, selI, ints_app, ints_cut, ints_upd, ints_rep, ints_splice, len_ints]
      omega
    · refine calls_of_yesV sound tab_ok specs_ok overs_ok c_in_in_nil_y2 rfl (tellA_ok (allTold'_iff.1 ?_)) r2 hargs
      simp only [c_in_in_nil_t2, om_0, om_1, om_2, om_10, om_11, om_12, om_20, om_21, om_22, om_f, allTold', dutiesTold, factsA, factsP, factsR, AV.facts, RW.facts, inK, and_true, Q.holds', E.i, E.s, E.n, D.nat, E.den, BO.den, UO.den, TO.den, D.toInt_int, D.toList_list, D.ints_ofInts, i64min, i64max, u8min, u8max, u16min, u16max, u32min, u32max, u64min, u64max, i32min, i32max, Om.sub, selI, ints_app, ints_cut, ints_upd, ints_rep, ints_splice, len_ints]
      omega

def c_in_in_hol_t0 : List (Q × Bool) := [((.fit .i64 (.var 0)), true),
  ((.le (.var 0) (.int 500)), false)]
set_option maxRecDepth 100000 in
theorem c_in_in_hol_y0 : yesOf Try.prog (knownV (tellA c_in_in_hol_t0) tab specs overs) 6000 60 7 [.sslice 1 (.int 0) (.var 0) (.var 1) false, .sslice 3 (.int 0) (.var 10) (.var 11) false, .hollow] (((globSt g0).newO (.eseq ⟨.u8, .var 0, .var 2⟩)).newO (.eseq ⟨.u8, .var 10, .var 12⟩)) = true := by kernel_rfl
def c_in_in_hol_t1 : List (Q × Bool) := [((.fit .i64 (.var 0)), true),
  ((.le (.var 0) (.int 500)), true),
  ((.fit .i64 (.var 10)), true),
  ((.le (.var 10) (.int 500)), false)]
set_option maxRecDepth 100000 in
theorem c_in_in_hol_y1 : yesOf Try.prog (knownV (tellA c_in_in_hol_t1) tab specs overs) 6000 60 7 [.sslice 1 (.int 0) (.var 0) (.var 1) false, .sslice 3 (.int 0) (.var 10) (.var 11) false, .hollow] (((globSt g0).newO (.eseq ⟨.u8, .var 0, .var 2⟩)).newO (.eseq ⟨.u8, .var 10, .var 12⟩)) = true := by kernel_rfl
def c_in_in_hol_t2 : List (Q × Bool) := [((.fit .i64 (.var 0)), true),
  ((.le (.var 0) (.int 500)), true),
  ((.fit .i64 (.var 10)), true),
  ((.le (.var 10) (.int 500)), true)]
set_option maxRecDepth 100000 in
theorem c_in_in_hol_y2 : yesOf Try.prog (knownV (tellA c_in_in_hol_t2) tab specs overs) 6000 60 7 [.sslice 1 (.int 0) (.var 0) (.var 1) false, .sslice 3 (.int 0) (.var 10) (.var 11) false, .hollow] (((globSt g0).newO (.eseq ⟨.u8, .var 0, .var 2⟩)).newO (.eseq ⟨.u8, .var 10, .var 12⟩)) = true := by kernel_rfl
theorem c_in_in_hol_walk {W : World} {v0 : Value} {b0 off0 len0 cap0 : Nat} {zs0 : List Int} (h0 : InSlice W .u8 v0 b0 off0 len0 cap0 zs0) {v1 : Value} {b1 off1 len1 cap1 : Nat} {zs1 : List Int} (h1 : InSlice W .u8 v1 b1 off1 len1 cap1 zs1) (a2 : Addr) (c2 : Nat) (hG : GlobsR (om len0 cap0 zs0 len1 cap1 zs1 0 0 []) W g0) : Calls Try.prog 7 #[v0, v1, .slice (some a2) 0 c2] W fun e w' => e = .returned (.bool true) ∧ Below W.heap.size W w' := by
  have r0 := Rel.globs (om len0 cap0 zs0 len1 cap1 zs1 0 0 []) W g0 hG
  obtain ⟨le0, r1, x0⟩ := h0.open r0 (l := 0) (c := 1) (x := 2) rfl rfl rfl
  have pos0 := h0.pos
  have lec0 := h0.le
  have max0 := h0.max
  have zl0 := h0.len
  have rng0 := h0.rng
  obtain ⟨le1, r2, x1⟩ := h1.open r1 (l := 10) (c := 11) (x := 12) rfl rfl rfl
  replace x0 := VR.mono le1 _ _ x0
  have pos1 := h1.pos
  have lec1 := h1.le
  have max1 := h1.max
  have zl1 := h1.len
  have rng1 := h1.rng
  have hargs : VRs _ [.sslice 1 (.int 0) (.var 0) (.var 1) false, .sslice 3 (.int 0) (.var 10) (.var 11) false, .hollow] [v0, v1, .slice (some a2) 0 c2] := VRs_cons x0 (VRs_cons x1 (VRs_cons (vr_hollow a2 c2) (VRs_nil)))
  by_cases h0 : 500 < len0
  · refine calls_of_yesV sound tab_ok specs_ok overs_ok c_in_in_hol_y0 rfl (tellA_ok (allTold'_iff.1 ?_)) r2 hargs
    simp only [c_in_in_hol_t0, om_0, om_1, om_2, om_10, om_11, om_12, om_20, om_21, om_22, om_f, allTold', dutiesTold, factsA, factsP, factsR, AV.facts, RW.facts, inK, and_true, Q.holds', E.i, E.s, E.n, D.nat, E.den, BO.den, UO.den, TO.den, D.toInt_int, D.toList_list, D.ints_ofInts, i64min, i64max, u8min, u8max, u16min, u16max, u32min, u32max, u64min, u64max, i32min, i32max, Om.sub, selI, ints_app, ints_cut, ints_upd, ints_rep, ints_splice, len_ints]
    omega
  · by_cases h1 : 500 < len1
    · refine calls_of_yesV sound tab_ok specs_ok overs_ok c_in_in_hol_y1 rfl (tellA_ok (allTold'_iff.1 ?_)) r2 hargs
      simp only [c_in_in_hol_t1, om_0, om_1, om_2, om_10, om_11, om_12, om_20, om_21, om_22, om_f, allTold', dutiesTold, factsA, factsP, factsR, AV.facts, RW.facts, inK, and_true, Q.holds', E.i, E.s, E.n, D.nat, E.den, BO.den, UO.den, TO.den, D.toInt_int, D.toList_list, D.ints_ofInts, i64min, i64max, u8min, u8max, u16min, u16max, u32min, u32max, u64min, u64max, i32min, i32max, Om.sub, selI, ints_app, ints_cut, ints_upd, ints_rep, ints_splice, len_ints]
      omega
    · refine calls_of_yesV sound tab_ok specs_ok overs_ok c_in_in_hol_y2 rfl (tellA_ok (allTold'_iff.1 ?_)) r2 hargs
      simp only [c_in_in_hol_t2, om_0, om_1, om_2, om_10, om_11, om_12, om_20, om_21, om_22, om_f, allTold', dutiesTold, factsA, factsP, factsR, AV.facts, RW.facts, inK, and_true, Q.holds', E.i, E.s, E.n, D.nat, E.den, BO.den, UO.den, TO.den, D.toInt_int, D.toList_list, D.ints_ofInts, i64min, i64max, u8min, u8max, u16min, u16max, u32min, u32max, u64min, u64max, i32min, i32max, Om.sub, selI, ints_app, ints_cut, ints_upd, ints_rep, ints_splice, len_ints]
      omega

def c_in_in_in_t0 : List (Q × Bool) := [((.fit .i64 (.var 0)), true),
  ((.le (.var 0) (.int 500)), false)]
set_option maxRecDepth 100000 in
theorem c_in_in_in_y0 : yesOf Try.prog (knownV (tellA c_in_in_in_t0) tab specs overs) 6000 60 7 [.sslice 1 (.int 0) (.var 0) (.var 1) false, .sslice 3 (.int 0) (.var 10) (.var 11) false, .sslice 5 (.int 0) (.var 20) (.var 21) false] ((((globSt g0).newO (.eseq ⟨.u8, .var 0, .var 2⟩)).newO (.eseq ⟨.u8, .var 10, .var 12⟩)).newO (.eseq ⟨.u8, .var 20, .var 22⟩)) = true := by kernel_rfl
def c_in_in_in_t1 : List (Q × Bool) := [((.fit .i64 (.var 0)), true),
  ((.le (.var 0) (.int 500)), true),
  ((.fit .i64 (.var 10)), true),
  ((.le (.var 10) (.int 500)), false)]
set_option maxRecDepth 100000 in
theorem c_in_in_in_y1 : yesOf Try.prog (knownV (tellA c_in_in_in_t1) tab specs overs) 6000 60 7 [.sslice 1 (.int 0) (.var 0) (.var 1) false, .sslice 3 (.int 0) (.var 10) (.var 11) false, .sslice 5 (.int 0) (.var 20) (.var 21) false] ((((globSt g0).newO (.eseq ⟨.u8, .var 0, .var 2⟩)).newO (.eseq ⟨.u8, .var 10, .var 12⟩)).newO (.eseq ⟨.u8, .var 20, .var 22⟩)) = true := by kernel_rfl
def c_in_in_in_t2 : List (Q × Bool) := [((.fit .i64 (.var 0)), true),
  ((.le (.var 0) (.int 500)), true),
  ((.fit .i64 (.var 10)), true),
  ((.le (.var 10) (.int 500)), true),
  ((.fit .i64 (.var 20)), true),
  ((.le (.var 20) (.int 500)), false)]
set_option maxRecDepth 100000 in
theorem c_in_in_in_y2 : yesOf Try.prog (knownV (tellA c_in_in_in_t2) tab specs overs) 6000 60 7 [.sslice 1 (.int 0) (.var 0) (.var 1) false, .sslice 3 (.int 0) (.var 10) (.var 11) false, .sslice 5 (.int 0) (.var 20) (.var 21) false] ((((globSt g0).newO (.eseq ⟨.u8, .var 0, .var 2⟩)).newO (.eseq ⟨.u8, .var 10, .var 12⟩)).newO (.eseq ⟨.u8, .var 20, .var 22⟩)) = true := by kernel_rfl
def c_in_in_in_t3 : List (Q × Bool) := [((.fit .i64 (.var 0)), true),
  ((.le (.var 0) (.int 500)), true),
  ((.fit .i64 (.var 10)), true),
  ((.le (.var 10) (.int 500)), true),
  ((.fit .i64 (.var 20)), true),
  ((.le (.var 20) (.int 500)), true),
  ((.le (.int 16) (.var 20)), false)]
set_option maxRecDepth 100000 in
theorem c_in_in_in_y3 : yesOf Try.prog (knownV (tellA c_in_in_in_t3) tab specs overs) 6000 60 7 [.sslice 1 (.int 0) (.var 0) (.var 1) false, .sslice 3 (.int 0) (.var 10) (.var 11) false, .sslice 5 (.int 0) (.var 20) (.var 21) false] ((((globSt g0).newO (.eseq ⟨.u8, .var 0, .var 2⟩)).newO (.eseq ⟨.u8, .var 10, .var 12⟩)).newO (.eseq ⟨.u8, .var 20, .var 22⟩)) = true := by kernel_rfl
def c_in_in_in_t4 : List (Q × Bool) := [((.fit .i64 (.var 0)), true),
  ((.le (.var 0) (.int 500)), true),
  ((.fit .i64 (.var 10)), true),
  ((.le (.var 10) (.int 500)), true),
  ((.fit .i64 (.var 20)), true),
  ((.le (.var 20) (.int 500)), true),
  ((.le (.int 16) (.var 20)), true),
  ((.le (.int 0) (.var 0)), true),
  ((.le (.bi .add (.int 0) (.var 0)) (.var 0)), true),
  ((.le (.var 0) (.int 1000)), true),
  ((.same (.lits [0, 0, 0, 0, 0, 0, 0, 0, 0, 0, 0, 0, 0, 0, 0, 0]) (.fn 9 (.bi .pair (.var 2) (.bi .pair (.int 0) (.bi .pair (.bi .add (.int 0) (.int 1)) (.int 0)))))), true),
  ((.eq (.int 0) (.fn 11 (.bi .pair (.var 2) (.bi .pair (.int 0) (.bi .pair (.bi .add (.int 0) (.int 1)) (.int 0)))))), true),
  ((.le (.int 0) (.var 10)), true),
  ((.le (.bi .add (.int 0) (.var 10)) (.var 10)), true),
  ((.le (.var 10) (.int 1000)), true),
  ((.same (.lits [0, 0, 0, 0, 0, 0, 0, 0, 0, 0, 0, 0, 0, 0, 0, 0]) (.fn 9 (.bi .pair (.var 12) (.bi .pair (.int 0) (.bi .pair (.bi .add (.int 0) (.int 1)) (.int 0)))))), true),
  ((.eq (.int 0) (.fn 11 (.bi .pair (.var 12) (.bi .pair (.int 0) (.bi .pair (.bi .add (.int 0) (.int 1)) (.int 0)))))), true),
  ((.le (.int 0) (.var 20)), true),
  ((.le (.bi .add (.int 0) (.var 20)) (.var 20)), true),
  ((.same (.fn 9 (.bi .pair (.var 2) (.bi .pair (.int 0) (.bi .pair (.bi .add (.var 0) (.int 1)) (.int 0))))) (.fn 12 (.bi .pair (.var 2) (.bi .pair (.int 0) (.bi .pair (.var 0) (.bi .pair (.var 22) (.bi .pair (.int 0) (.bi .pair (.int 0) (.int 0))))))))), true),
  ((.eq (.var 0) (.bi .add (.var 0) (.int 0))), true),
  ((.eq (.fn 11 (.bi .pair (.var 2) (.bi .pair (.int 0) (.bi .pair (.bi .add (.var 0) (.int 1)) (.int 0))))) (.fn 13 (.bi .pair (.var 2) (.bi .pair (.int 0) (.bi .pair (.var 0) (.bi .pair (.var 22) (.bi .pair (.int 0) (.bi .pair (.int 0) (.int 0))))))))), true),
  ((.same (.fn 9 (.bi .pair (.var 12) (.bi .pair (.int 0) (.bi .pair (.bi .add (.var 10) (.int 1)) (.int 0))))) (.fn 12 (.bi .pair (.var 12) (.bi .pair (.int 0) (.bi .pair (.var 10) (.bi .pair (.var 22) (.bi .pair (.int 0) (.bi .pair (.int 0) (.int 0))))))))), true),
  ((.eq (.var 10) (.bi .add (.var 10) (.int 0))), true),
  ((.eq (.fn 11 (.bi .pair (.var 12) (.bi .pair (.int 0) (.bi .pair (.bi .add (.var 10) (.int 1)) (.int 0))))) (.fn 13 (.bi .pair (.var 12) (.bi .pair (.int 0) (.bi .pair (.var 10) (.bi .pair (.var 22) (.bi .pair (.int 0) (.bi .pair (.int 0) (.int 0))))))))), true),
  ((.fit .i64 (.bi .add (.var 20) (.int (-16)))), true),
  ((.le (.int 0) (.bi .add (.var 20) (.int (-16)))), true),
  ((.le (.bi .add (.var 20) (.int (-16))) (.var 20)), true),
  ((.le (.var 20) (.var 21)), true),
  ((.le (.int 16) (.bi .add (.var 0) (.var 20))), true),
  ((.le (.int 16) (.bi .add (.var 10) (.var 20))), true),
  ((.le (.bi .add (.bi .add (.var 20) (.int (-16))) (.bi .sub (.var 20) (.bi .add (.var 20) (.int (-16))))) (.var 20)), true),
  ((.le (.bi .sub (.var 20) (.bi .add (.var 20) (.int (-16)))) (.int 1000000)), true),
  ((.eq (.fn 13 (.bi .pair (.var 2) (.bi .pair (.int 0) (.bi .pair (.var 0) (.bi .pair (.var 22) (.bi .pair (.int 0) (.bi .pair (.var 20) (.int 0)))))))) (.fn 2 (.bi .pair (.var 22) (.bi .pair (.bi .add (.var 20) (.int (-16))) (.bi .pair (.bi .add (.bi .add (.var 20) (.int (-16))) (.bi .sub (.var 20) (.bi .add (.var 20) (.int (-16))))) (.int 0)))))), true)]
set_option maxRecDepth 100000 in
theorem c_in_in_in_y4 : yesOf Try.prog (knownV (tellA c_in_in_in_t4) tab specs overs) 6000 60 7 [.sslice 1 (.int 0) (.var 0) (.var 1) false, .sslice 3 (.int 0) (.var 10) (.var 11) false, .sslice 5 (.int 0) (.var 20) (.var 21) false] ((((globSt g0).newO (.eseq ⟨.u8, .var 0, .var 2⟩)).newO (.eseq ⟨.u8, .var 10, .var 12⟩)).newO (.eseq ⟨.u8, .var 20, .var 22⟩)) = true := by kernel_rfl
theorem c_in_in_in_walk {W : World} {v0 : Value} {b0 off0 len0 cap0 : Nat} {zs0 : List Int} (h0 : InSlice W .u8 v0 b0 off0 len0 cap0 zs0) {v1 : Value} {b1 off1 len1 cap1 : Nat} {zs1 : List Int} (h1 : InSlice W .u8 v1 b1 off1 len1 cap1 zs1) {v2 : Value} {b2 off2 len2 cap2 : Nat} {zs2 : List Int} (h2 : InSlice W .u8 v2 b2 off2 len2 cap2 zs2) (hG : GlobsR (om len0 cap0 zs0 len1 cap1 zs1 len2 cap2 zs2) W g0) : Calls Try.prog 7 #[v0, v1, v2] W fun e w' => e = .returned (.bool true) ∧ Below W.heap.size W w' := by
  have r0 := Rel.globs (om len0 cap0 zs0 len1 cap1 zs1 len2 cap2 zs2) W g0 hG
  obtain ⟨le0, r1, x0⟩ := h0.open r0 (l := 0) (c := 1) (x := 2) rfl rfl rfl
  have pos0 := h0.pos
  have lec0 := h0.le
  have max0 := h0.max
  have zl0 := h0.len
  have rng0 := h0.rng
  obtain ⟨le1, r2, x1⟩ := h1.open r1 (l := 10) (c := 11) (x := 12) rfl rfl rfl
  replace x0 := VR.mono le1 _ _ x0
  have pos1 := h1.pos
  have lec1 := h1.le
  have max1 := h1.max
  have zl1 := h1.len
  have rng1 := h1.rng
  obtain ⟨le2, r3, x2⟩ := h2.open r2 (l := 20) (c := 21) (x := 22) rfl rfl rfl
  replace x0 := VR.mono le2 _ _ x0
  replace x1 := VR.mono le2 _ _ x1
  have pos2 := h2.pos
  have lec2 := h2.le
  have max2 := h2.max
  have zl2 := h2.len
  have rng2 := h2.rng
  have hargs : VRs _ [.sslice 1 (.int 0) (.var 0) (.var 1) false, .sslice 3 (.int 0) (.var 10) (.var 11) false, .sslice 5 (.int 0) (.var 20) (.var 21) false] [v0, v1, v2] := VRs_cons x0 (VRs_cons x1 (VRs_cons x2 (VRs_nil)))
  by_cases h0 : 500 < len0
  · refine calls_of_yesV sound tab_ok specs_ok overs_ok c_in_in_in_y0 rfl (tellA_ok (allTold'_iff.1 ?_)) r3 hargs
    simp only [c_in_in_in_t0, om_0, om_1, om_2, om_10, om_11, om_12, om_20, om_21, om_22, om_f, allTold', dutiesTold, factsA, factsP, factsR, AV.facts, RW.facts, inK, and_true, Q.holds', E.i, E.s, E.n, D.nat, E.den, BO.den, UO.den, TO.den, D.toInt_int, D.toList_list, D.ints_ofInts, i64min, i64max, u8min, u8max, u16min, u16max, u32min, u32max, u64min, u64max, i32min, i32max, Om.sub, selI, ints_app, ints_cut, ints_upd, ints_rep, ints_splice, len_ints]
    omega
  · by_cases h1 : 500 < len1
    · refine calls_of_yesV sound tab_ok specs_ok overs_ok c_in_in_in_y1 rfl (tellA_ok (allTold'_iff.1 ?_)) r3 hargs
      simp only [c_in_in_in_t1, om_0, om_1, om_2, om_10, om_11, om_12, om_20, om_21, om_22, om_f, allTold', dutiesTold, factsA, factsP, factsR, AV.facts, RW.facts, inK, and_true, Q.holds', E.i, E.s, E.n, D.nat, E.den, BO.den, UO.den, TO.den, D.toInt_int, D.toList_list, D.ints_ofInts, i64min, i64max, u8min, u8max, u16min, u16max, u32min, u32max, u64min, u64max, i32min, i32max, Om.sub, selI, ints_app, ints_cut, ints_upd, ints_rep, ints_splice, len_ints]
      omega
    · by_cases h2 : 500 < len2
      · refine calls_of_yesV sound tab_ok specs_ok overs_ok c_in_in_in_y2 rfl (tellA_ok (allTold'_iff.1 ?_)) r3 hargs
        simp only [c_in_in_in_t2, om_0, om_1, om_2, om_10, om_11, om_12, om_20, om_21, om_22, om_f, allTold', dutiesTold, factsA, factsP, factsR, AV.facts, RW.facts, inK, and_true, Q.holds', E.i, E.s, E.n, D.nat, E.den, BO.den, UO.den, TO.den, D.toInt_int, D.toList_list, D.ints_ofInts, i64min, i64max, u8min, u8max, u16min, u16max, u32min, u32max, u64min, u64max, i32min, i32max, Om.sub, selI, ints_app, ints_cut, ints_upd, ints_rep, ints_splice, len_ints]
        omega
      · by_cases h3 : len2 < 16
        · refine calls_of_yesV sound tab_ok specs_ok overs_ok c_in_in_in_y3 rfl (tellA_ok (allTold'_iff.1 ?_)) r3 hargs
          simp only [c_in_in_in_t3, om_0, om_1, om_2, om_10, om_11, om_12, om_20, om_21, om_22, om_f, allTold', dutiesTold, factsA, factsP, factsR, AV.facts, RW.facts, inK, and_true, Q.holds', E.i, E.s, E.n, D.nat, E.den, BO.den, UO.den, TO.den, D.toInt_int, D.toList_list, D.ints_ofInts, i64min, i64max, u8min, u8max, u16min, u16max, u32min, u32max, u64min, u64max, i32min, i32max, Om.sub, selI, ints_app, ints_cut, ints_upd, ints_rep, ints_splice, len_ints]
          omega
        · refine calls_of_yesV sound tab_ok specs_ok overs_ok c_in_in_in_y4 rfl (tellA_ok (allTold'_iff.1 ?_)) r3 hargs
          simp only [c_in_in_in_t4, om_0, om_1, om_2, om_10, om_11, om_12, om_20, om_21, om_22, om_f, F2, F9, F11, F12, F13, Int.zero_add, allTold', dutiesTold, factsA, factsP, factsR, AV.facts, RW.facts, inK, and_true, Q.holds', E.i, E.s, E.n, D.nat, E.den, BO.den, UO.den, TO.den, D.toInt_int, D.toList_list, D.ints_ofInts, i64min, i64max, u8min, u8max, u16min, u16max, u32min, u32max, u64min, u64max, i32min, i32max, Om.sub, selI, ints_app, ints_cut, ints_upd, ints_rep, ints_splice, len_ints]
          have rA := ringL_prt (x := zs0) (o := 0) (n := len0) (by omega) (by omega) (by omega)
          have wA := winL_prt (x := zs0) (o := 0) (n := len0) (by omega) (by omega) (by omega)
          have tA : twoI zs0 0 len0 zs2 0 0 = prt zs0 0 (0 + (len0 : Int)) := by unfold twoI; rw [prt_nil (x := zs2) (by omega) (by omega), List.append_nil]
          have eA : ((len0 : Int) + 1 - 1).toNat = (len0 : Int).toNat := by omega
          have gA : ((len0 : Int).toNat : Int) = len0 := by omega
          have fA : ((((len0 : Int) + 1 - 1).toNat : Nat) : Int) = len0 := by omega
          have zA := win_two (x := zs0) (y := zs2) (o := 0) (n := len0) (p := 0) (m := len2) (by omega) (by omega) (by omega) (by omega) (by omega) (by omega)
          have rB := ringL_prt (x := zs1) (o := 0) (n := len1) (by omega) (by omega) (by omega)
          have wB := winL_prt (x := zs1) (o := 0) (n := len1) (by omega) (by omega) (by omega)
          have tB : twoI zs1 0 len1 zs2 0 0 = prt zs1 0 (0 + (len1 : Int)) := by unfold twoI; rw [prt_nil (x := zs2) (by omega) (by omega), List.append_nil]
          have eB : ((len1 : Int) + 1 - 1).toNat = (len1 : Int).toNat := by omega
          have gB : ((len1 : Int).toNat : Int) = len1 := by omega
          have fB : ((((len1 : Int) + 1 - 1).toNat : Nat) : Int) = len1 := by omega
          have zB := win_two (x := zs1) (y := zs2) (o := 0) (n := len1) (p := 0) (m := len2) (by omega) (by omega) (by omega) (by omega) (by omega) (by omega)
          simp only [Int.zero_add] at *
          and_intros <;> first | omega | rfl | trivial | (simp only [tA, eA, fA, gA, rA, wA, tB, eB, fB, gB, rB, wB]; first | done | rfl | omega) | (rw [show (len2 : Int) + -16 + ((len2 : Int) - ((len2 : Int) + -16)) = len2 by omega, show (len2 : Int) + -16 = (len2 : Int) - 16 by omega]; exact zA)

theorem underS22 : Try.prog.underlying 22 = some (.slice 5) := by kernel_rfl
theorem underE5 : Try.prog.underlying 5 = some (.int .u8) := by kernel_rfl
theorem cellsE5 : Try.prog.cellsOf 5 = 1 := by kernel_rfl

set_option maxRecDepth 100000 in
theorem lifted (os : Os) (started : os.Started) (H : Type) (enc : TypeId × Value → H) :
    ReturnsInHanded {} Try.checked os 7 .any (Rows.rollForgetsSpec.pre6 enc Try.prog Try.f7 Rows.rollForgetsRow.domain false) (Rows.rollForgetsSpec.post enc Try.prog Try.f7 false true false false) := by
  refine returnsInHanded_of_change (C := Try.checked) own started (by kernel_rfl) Try.func7
    (ChangeSpec.witness6 (enc := enc) (C := Try.checked) false ⟨#[], #[.slice none 0 0, .slice none 0 0, .slice none 0 0], []⟩ 8 (by kernel_rfl) (by kernel_rfl) (by kernel_rfl) (by kernel_rfl)) ?_
  intro W base args ds gs before hval0 hW hcnd _
  have hval : ∀ (j : Nat) t v, Try.f7.params[j]? = some t → args[j]? = some v → Value.okWide Try.prog W .any base t v := hval0
  have hW' := hW
  have hlt := hW.lt
  obtain ⟨p, q, hA0, hV, rfl, hfz, hnd⟩ := hW
  have hA : DataW.TrodAll enc Try.prog W 0 (fun _ => true) true Try.f7.params.toList args.toList ds p := hA0
  have hAll := hA
  rw [Try.params7] at hA hval hAll
  obtain ⟨rfl, rfl⟩ := trodVars_none hV
  obtain ⟨v0, v1, v2, d0, d1, d2, p0, p1, p2, rfl, rfl, rfl, h0, h1, h2⟩ := trodAll_three hA
  have s0 := in_slice (k := .u8) underS22 underE5 cellsE5 (hval 0 22 _ rfl rfl) h0
  have s1 := in_slice (k := .u8) underS22 underE5 cellsE5 (hval 1 22 _ rfl rfl) h1
  have s2 := in_slice (k := .u8) underS22 underE5 cellsE5 (hval 2 22 _ rfl rfl) h2
  clear hA0 hval0
  have hcall : Calls Try.prog 7 #[v0, v1, v2] W fun e w' => e = .returned (.bool true) ∧ Below W.heap.size W w' := by
    rcases s0 with rfl | ⟨a0, c0, rfl⟩ | ⟨_, _, _, _, _, s0⟩
    · rcases s1 with rfl | ⟨a1, c1, rfl⟩ | ⟨_, _, _, _, _, s1⟩
      · rcases s2 with rfl | ⟨a2, c2, rfl⟩ | ⟨_, _, _, _, _, s2⟩
        · exact c_nil_nil_nil_walk  (globs0 _ W)
        · exact c_nil_nil_hol_walk a2 c2 (globs0 _ W)
        · exact c_nil_nil_in_walk s2 (globs0 _ W)
      · rcases s2 with rfl | ⟨a2, c2, rfl⟩ | ⟨_, _, _, _, _, s2⟩
        · exact c_nil_hol_nil_walk a1 c1 (globs0 _ W)
        · exact c_nil_hol_hol_walk a1 c1 a2 c2 (globs0 _ W)
        · exact c_nil_hol_in_walk a1 c1 s2 (globs0 _ W)
      · rcases s2 with rfl | ⟨a2, c2, rfl⟩ | ⟨_, _, _, _, _, s2⟩
        · exact c_nil_in_nil_walk s1 (globs0 _ W)
        · exact c_nil_in_hol_walk s1 a2 c2 (globs0 _ W)
        · exact c_nil_in_in_walk s1 s2 (globs0 _ W)
    · rcases s1 with rfl | ⟨a1, c1, rfl⟩ | ⟨_, _, _, _, _, s1⟩
      · rcases s2 with rfl | ⟨a2, c2, rfl⟩ | ⟨_, _, _, _, _, s2⟩
        · exact c_hol_nil_nil_walk a0 c0 (globs0 _ W)
        · exact c_hol_nil_hol_walk a0 c0 a2 c2 (globs0 _ W)
        · exact c_hol_nil_in_walk a0 c0 s2 (globs0 _ W)
      · rcases s2 with rfl | ⟨a2, c2, rfl⟩ | ⟨_, _, _, _, _, s2⟩
        · exact c_hol_hol_nil_walk a0 c0 a1 c1 (globs0 _ W)
        · exact c_hol_hol_hol_walk a0 c0 a1 c1 a2 c2 (globs0 _ W)
        · exact c_hol_hol_in_walk a0 c0 a1 c1 s2 (globs0 _ W)
      · rcases s2 with rfl | ⟨a2, c2, rfl⟩ | ⟨_, _, _, _, _, s2⟩
        · exact c_hol_in_nil_walk a0 c0 s1 (globs0 _ W)
        · exact c_hol_in_hol_walk a0 c0 s1 a2 c2 (globs0 _ W)
        · exact c_hol_in_in_walk a0 c0 s1 s2 (globs0 _ W)
    · rcases s1 with rfl | ⟨a1, c1, rfl⟩ | ⟨_, _, _, _, _, s1⟩
      · rcases s2 with rfl | ⟨a2, c2, rfl⟩ | ⟨_, _, _, _, _, s2⟩
        · exact c_in_nil_nil_walk s0 (globs0 _ W)
        · exact c_in_nil_hol_walk s0 a2 c2 (globs0 _ W)
        · exact c_in_nil_in_walk s0 s2 (globs0 _ W)
      · rcases s2 with rfl | ⟨a2, c2, rfl⟩ | ⟨_, _, _, _, _, s2⟩
        · exact c_in_hol_nil_walk s0 a1 c1 (globs0 _ W)
        · exact c_in_hol_hol_walk s0 a1 c1 a2 c2 (globs0 _ W)
        · exact c_in_hol_in_walk s0 a1 c1 s2 (globs0 _ W)
      · rcases s2 with rfl | ⟨a2, c2, rfl⟩ | ⟨_, _, _, _, _, s2⟩
        · exact c_in_in_nil_walk s0 s1 (globs0 _ W)
        · exact c_in_in_hol_walk s0 s1 a2 c2 (globs0 _ W)
        · exact c_in_in_in_walk s0 s1 s2 (globs0 _ W)
  refine hcall.mono fun e W' ⟨he, hg⟩ => ?_
  subst he
  exact ⟨_, rfl, _, [], _, [], _, [], hW', trodAll_cons_mk (shut_bool Try.underlying4 _) trodAll_mk0, trodAll_stays laid hg _ _ _ _ hAll (fun x hx => hlt x (by simpa using hx)) (by kernel_rfl), rfl, hg.frame _, fun h => by cases h⟩

theorem over : Rows.rollForgetsRow.holds Try.pinned (OpenSpec.ofChange Rows.rollForgetsSpec) :=
  OpenClaim.holds_of_wide 7 Try.f7 rfl rfl rfl rfl rfl rfl rfl ⟨rfl, rfl, rfl, rfl, rfl⟩ rfl rfl rfl rfl rfl (by kernel_rfl) Try.func7 (by kernel_rfl)
    (of_decide_eq_true (by kernel_rfl)) (by unfold Func.isWrapper; first | (rw [if_pos (by decide +kernel)]; kernel_rfl) | (rw [if_neg (by decide +kernel)]; exact ⟨rfl, rfl⟩))
    (fun os started H enc _ => lifted os started H enc)

/-- The statement. -/
theorem proved : Rows.RollForgetsSaid :=
  over
#print axioms proved
end Go.Proofs.Ytfmnbdnapmpahaa.rollForgets
