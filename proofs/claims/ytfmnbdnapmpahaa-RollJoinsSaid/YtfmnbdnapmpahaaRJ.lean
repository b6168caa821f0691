/-
  The law RollJoins of the layer roll holds of the code: for all inputs the call returns true, and the arguments read as they did. No condition.
-/
import Derived.Test.YtfmnbdnapmpahaaCo
import Derived.Test.YtfmnbdnapmpahaaSylm
import Derived.Test.YtfmnbdnapmpahaaRa
import Derived.WalkKit
import Derived.ProofKit
import Derived.OpenShut
set_option linter.unusedSimpArgs false
set_option linter.unusedVariables false
namespace Go.Proofs.Ytfmnbdnapmpahaa.rollJoins
open Go.ChangeShapes Go.WideShapes Go.ChangeAt Go.RowKit Go.Ev Go.Proofs.Ytfmnbdnapmpahaa.Co Go.Proofs.Ytfmnbdnapmpahaa.Ra

def om (len0 cap0 : Nat) (zs0 : List Int) (len1 cap1 : Nat) (zs1 : List Int) : Om := ⟨fun _ => .bool false, fun i => if i = 0 then .int len0 else if i = 1 then .int cap0 else if i = 2 then D.ofInts zs0 else if i = 10 then .int len1 else if i = 11 then .int cap1 else if i = 12 then D.ofInts zs1 else .int 0, F⟩
theorem om_0 (len0 cap0 : Nat) (zs0 : List Int) (len1 cap1 : Nat) (zs1 : List Int) : (om len0 cap0 zs0 len1 cap1 zs1).d 0 = .int len0 := rfl
theorem om_1 (len0 cap0 : Nat) (zs0 : List Int) (len1 cap1 : Nat) (zs1 : List Int) : (om len0 cap0 zs0 len1 cap1 zs1).d 1 = .int cap0 := rfl
theorem om_2 (len0 cap0 : Nat) (zs0 : List Int) (len1 cap1 : Nat) (zs1 : List Int) : (om len0 cap0 zs0 len1 cap1 zs1).d 2 = D.ofInts zs0 := rfl
theorem om_10 (len0 cap0 : Nat) (zs0 : List Int) (len1 cap1 : Nat) (zs1 : List Int) : (om len0 cap0 zs0 len1 cap1 zs1).d 10 = .int len1 := rfl
theorem om_11 (len0 cap0 : Nat) (zs0 : List Int) (len1 cap1 : Nat) (zs1 : List Int) : (om len0 cap0 zs0 len1 cap1 zs1).d 11 = .int cap1 := rfl
theorem om_12 (len0 cap0 : Nat) (zs0 : List Int) (len1 cap1 : Nat) (zs1 : List Int) : (om len0 cap0 zs0 len1 cap1 zs1).d 12 = D.ofInts zs1 := rfl
theorem om_f (len0 cap0 : Nat) (zs0 : List Int) (len1 cap1 : Nat) (zs1 : List Int) : (om len0 cap0 zs0 len1 cap1 zs1).f = F := rfl

def c_nil_nil_t0 : List (Q × Bool) := [((.le (.bi .add (.int 0) (.int 0)) (.int 0)), true),
  ((.eq (.fn 2 (.bi .pair (.lits []) (.bi .pair (.int 0) (.bi .pair (.bi .add (.int 0) (.int 0)) (.int 0))))) (.int 0)), true)]
set_option maxRecDepth 100000 in
theorem c_nil_nil_y0 : yesOf Try.prog (knownV (tellA c_nil_nil_t0) tab specs overs) 6000 60 9 [.nilslice, .nilslice] (globSt g0) = true := by kernel_rfl
theorem c_nil_nil_walk {W : World}  (hG : GlobsR (om 0 0 [] 0 0 []) W g0) : Calls Try.prog 9 #[.slice none 0 0, .slice none 0 0] W fun e w' => e = .returned (.bool true) ∧ Below W.heap.size W w' := by
  have r0 := Rel.globs (om 0 0 [] 0 0 []) W g0 hG
  have hargs : VRs (Env.none (om 0 0 [] 0 0 [])) [.nilslice, .nilslice] [.slice none 0 0, .slice none 0 0] := VRs_cons vr_nil (VRs_cons vr_nil (VRs_nil))
  refine calls_of_yesV sound tab_ok specs_ok overs_ok c_nil_nil_y0 rfl (tellA_ok (allTold'_iff.1 ?_)) r0 hargs
  simp only [c_nil_nil_t0, om_0, om_1, om_2, om_10, om_11, om_12, om_f, allTold', dutiesTold, factsA, factsP, factsR, AV.facts, RW.facts, inK, and_true, Q.holds', E.i, E.s, E.n, D.nat, E.den, BO.den, UO.den, TO.den, D.toInt_int, D.toList_list, D.ints_ofInts, i64min, i64max, u8min, u8max, u16min, u16max, u32min, u32max, u64min, u64max, i32min, i32max, Om.sub, selI, ints_app, ints_cut, ints_upd, ints_rep, ints_splice, len_ints]
  first | done | omega | trivial

def c_nil_hol_t0 : List (Q × Bool) := [((.le (.bi .add (.int 0) (.int 0)) (.int 0)), true),
  ((.eq (.fn 2 (.bi .pair (.lits []) (.bi .pair (.int 0) (.bi .pair (.bi .add (.int 0) (.int 0)) (.int 0))))) (.int 0)), true)]
set_option maxRecDepth 100000 in
theorem c_nil_hol_y0 : yesOf Try.prog (knownV (tellA c_nil_hol_t0) tab specs overs) 6000 60 9 [.nilslice, .hollow] (globSt g0) = true := by kernel_rfl
theorem c_nil_hol_walk {W : World} (a1 : Addr) (c1 : Nat) (hG : GlobsR (om 0 0 [] 0 0 []) W g0) : Calls Try.prog 9 #[.slice none 0 0, .slice (some a1) 0 c1] W fun e w' => e = .returned (.bool true) ∧ Below W.heap.size W w' := by
  have r0 := Rel.globs (om 0 0 [] 0 0 []) W g0 hG
  have hargs : VRs (Env.none (om 0 0 [] 0 0 [])) [.nilslice, .hollow] [.slice none 0 0, .slice (some a1) 0 c1] := VRs_cons vr_nil (VRs_cons (vr_hollow a1 c1) (VRs_nil))
  refine calls_of_yesV sound tab_ok specs_ok overs_ok c_nil_hol_y0 rfl (tellA_ok (allTold'_iff.1 ?_)) r0 hargs
  simp only [c_nil_hol_t0, om_0, om_1, om_2, om_10, om_11, om_12, om_f, allTold', dutiesTold, factsA, factsP, factsR, AV.facts, RW.facts, inK, and_true, Q.holds', E.i, E.s, E.n, D.nat, E.den, BO.den, UO.den, TO.den, D.toInt_int, D.toList_list, D.ints_ofInts, i64min, i64max, u8min, u8max, u16min, u16max, u32min, u32max, u64min, u64max, i32min, i32max, Om.sub, selI, ints_app, ints_cut, ints_upd, ints_rep, ints_splice, len_ints]
  first | done | omega | trivial

def c_nil_in_t0 : List (Q × Bool) := [((.fit .i64 (.var 10)), true),
  ((.le (.var 10) (.int 500)), false)]
set_option maxRecDepth 100000 in
theorem c_nil_in_y0 : yesOf Try.prog (knownV (tellA c_nil_in_t0) tab specs overs) 6000 60 9 [.nilslice, .sslice 1 (.int 0) (.var 10) (.var 11) false] ((globSt g0).newO (.eseq ⟨.u8, .var 10, .var 12⟩)) = true := by kernel_rfl
def c_nil_in_t1 : List (Q × Bool) := [((.fit .i64 (.var 10)), true),
  ((.le (.var 10) (.int 500)), true),
  ((.le (.int 0) (.var 10)), true),
  ((.le (.bi .add (.int 0) (.var 10)) (.var 10)), true),
  ((.le (.var 10) (.int 1000)), true),
  ((.le (.bi .mul (.var 10) (.int 2)) (.int 281474976710656)), true),
  ((.le (.var 10) (.int 1000000)), true),
  ((.eq (.fn 2 (.bi .pair (.var 12) (.bi .pair (.int 0) (.bi .pair (.bi .add (.int 0) (.var 10)) (.int 0))))) (.bi (.iop .add .u32) (.fn 8 (.bi .pair (.int 0) (.bi .pair (.var 10) (.bi .pair (.int 0) (.int 0))))) (.fn 2 (.bi .pair (.var 12) (.bi .pair (.int 0) (.bi .pair (.bi .add (.int 0) (.var 10)) (.int 0))))))), true)]
set_option maxRecDepth 100000 in
theorem c_nil_in_y1 : yesOf Try.prog (knownV (tellA c_nil_in_t1) tab specs overs) 6000 60 9 [.nilslice, .sslice 1 (.int 0) (.var 10) (.var 11) false] ((globSt g0).newO (.eseq ⟨.u8, .var 10, .var 12⟩)) = true := by kernel_rfl
theorem c_nil_in_walk {W : World} {v1 : Value} {b1 off1 len1 cap1 : Nat} {zs1 : List Int} (h1 : InSlice W .u8 v1 b1 off1 len1 cap1 zs1) (hG : GlobsR (om 0 0 [] len1 cap1 zs1) W g0) : Calls Try.prog 9 #[.slice none 0 0, v1] W fun e w' => e = .returned (.bool true) ∧ Below W.heap.size W w' := by
  have r0 := Rel.globs (om 0 0 [] len1 cap1 zs1) W g0 hG
  obtain ⟨le1, r1, x1⟩ := h1.open r0 (l := 10) (c := 11) (x := 12) rfl rfl rfl
  have pos1 := h1.pos
  have lec1 := h1.le
  have max1 := h1.max
  have zl1 := h1.len
  have rng1 := h1.rng
  have hargs : VRs _ [.nilslice, .sslice 1 (.int 0) (.var 10) (.var 11) false] [.slice none 0 0, v1] := VRs_cons vr_nil (VRs_cons x1 (VRs_nil))
  by_cases h : 500 < len1
  · refine calls_of_yesV sound tab_ok specs_ok overs_ok c_nil_in_y0 rfl (tellA_ok (allTold'_iff.1 ?_)) r1 hargs
    simp only [c_nil_in_t0, om_0, om_1, om_2, om_10, om_11, om_12, om_f, allTold', dutiesTold, factsA, factsP, factsR, AV.facts, RW.facts, inK, and_true, Q.holds', E.i, E.s, E.n, D.nat, E.den, BO.den, UO.den, TO.den, D.toInt_int, D.toList_list, D.ints_ofInts, i64min, i64max, u8min, u8max, u16min, u16max, u32min, u32max, u64min, u64max, i32min, i32max, Om.sub, selI, ints_app, ints_cut, ints_upd, ints_rep, ints_splice, len_ints]
    omega
  · refine calls_of_yesV sound tab_ok specs_ok overs_ok c_nil_in_y1 rfl (tellA_ok (allTold'_iff.1 ?_)) r1 hargs
    simp only [c_nil_in_t1, om_0, om_1, om_2, om_10, om_11, om_12, om_f, F2, F8, Int.zero_add, allTold', dutiesTold, factsA, factsP, factsR, AV.facts, RW.facts, inK, and_true, Q.holds', E.i, E.s, E.n, D.nat, E.den, BO.den, UO.den, TO.den, D.toInt_int, D.toList_list, D.ints_ofInts, i64min, i64max, u8min, u8max, u16min, u16max, u32min, u32max, u64min, u64max, i32min, i32max, Om.sub, selI, ints_app, ints_cut, ints_upd, ints_rep, ints_splice, len_ints]
    have r := sum_in (prt zs1 0 len1) 0 (by omega)
    first | omega | (simp only [add32, trip0]; omega)

def c_hol_nil_t0 : List (Q × Bool) := [((.le (.bi .add (.int 0) (.int 0)) (.int 0)), true),
  ((.eq (.fn 2 (.bi .pair (.lits []) (.bi .pair (.int 0) (.bi .pair (.bi .add (.int 0) (.int 0)) (.int 0))))) (.int 0)), true)]
set_option maxRecDepth 100000 in
theorem c_hol_nil_y0 : yesOf Try.prog (knownV (tellA c_hol_nil_t0) tab specs overs) 6000 60 9 [.hollow, .nilslice] (globSt g0) = true := by kernel_rfl
theorem c_hol_nil_walk {W : World} (a0 : Addr) (c0 : Nat) (hG : GlobsR (om 0 0 [] 0 0 []) W g0) : Calls Try.prog 9 #[.slice (some a0) 0 c0, .slice none 0 0] W fun e w' => e = .returned (.bool true) ∧ Below W.heap.size W w' := by
  have r0 := Rel.globs (om 0 0 [] 0 0 []) W g0 hG
  have hargs : VRs (Env.none (om 0 0 [] 0 0 [])) [.hollow, .nilslice] [.slice (some a0) 0 c0, .slice none 0 0] := VRs_cons (vr_hollow a0 c0) (VRs_cons vr_nil (VRs_nil))
  refine calls_of_yesV sound tab_ok specs_ok overs_ok c_hol_nil_y0 rfl (tellA_ok (allTold'_iff.1 ?_)) r0 hargs
  simp only [c_hol_nil_t0, om_0, om_1, om_2, om_10, om_11, om_12, om_f, allTold', dutiesTold, factsA, factsP, factsR, AV.facts, RW.facts, inK, and_true, Q.holds', E.i, E.s, E.n, D.nat, E.den, BO.den, UO.den, TO.den, D.toInt_int, D.toList_list, D.ints_ofInts, i64min, i64max, u8min, u8max, u16min, u16max, u32min, u32max, u64min, u64max, i32min, i32max, Om.sub, selI, ints_app, ints_cut, ints_upd, ints_rep, ints_splice, len_ints]
  first | done | omega | trivial

def c_hol_hol_t0 : List (Q × Bool) := [((.le (.bi .add (.int 0) (.int 0)) (.int 0)), true),
  ((.eq (.fn 2 (.bi .pair (.lits []) (.bi .pair (.int 0) (.bi .pair (.bi .add (.int 0) (.int 0)) (.int 0))))) (.int 0)), true)]
set_option maxRecDepth 100000 in
theorem c_hol_hol_y0 : yesOf Try.prog (knownV (tellA c_hol_hol_t0) tab specs overs) 6000 60 9 [.hollow, .hollow] (globSt g0) = true := by kernel_rfl
theorem c_hol_hol_walk {W : World} (a0 : Addr) (c0 : Nat) (a1 : Addr) (c1 : Nat) (hG : GlobsR (om 0 0 [] 0 0 []) W g0) : Calls Try.prog 9 #[.slice (some a0) 0 c0, .slice (some a1) 0 c1] W fun e w' => e = .returned (.bool true) ∧ Below W.heap.size W w' := by
  have r0 := Rel.globs (om 0 0 [] 0 0 []) W g0 hG
  have hargs : VRs (Env.none (om 0 0 [] 0 0 [])) [.hollow, .hollow] [.slice (some a0) 0 c0, .slice (some a1) 0 c1] := VRs_cons (vr_hollow a0 c0) (VRs_cons (vr_hollow a1 c1) (VRs_nil))
  refine calls_of_yesV sound tab_ok specs_ok overs_ok c_hol_hol_y0 rfl (tellA_ok (allTold'_iff.1 ?_)) r0 hargs
  simp only [c_hol_hol_t0, om_0, om_1, om_2, om_10, om_11, om_12, om_f, allTold', dutiesTold, factsA, factsP, factsR, AV.facts, RW.facts, inK, and_true, Q.holds', E.i, E.s, E.n, D.nat, E.den, BO.den, UO.den, TO.den, D.toInt_int, D.toList_list, D.ints_ofInts, i64min, i64max, u8min, u8max, u16min, u16max, u32min, u32max, u64min, u64max, i32min, i32max, Om.sub, selI, ints_app, ints_cut, ints_upd, ints_rep, ints_splice, len_ints]
  first | done | omega | trivial

def c_hol_in_t0 : List (Q × Bool) := [((.fit .i64 (.var 10)), true),
  ((.le (.var 10) (.int 500)), false)]
set_option maxRecDepth 100000 in
theorem c_hol_in_y0 : yesOf Try.prog (knownV (tellA c_hol_in_t0) tab specs overs) 6000 60 9 [.hollow, .sslice 1 (.int 0) (.var 10) (.var 11) false] ((globSt g0).newO (.eseq ⟨.u8, .var 10, .var 12⟩)) = true := by kernel_rfl
def c_hol_in_t1 : List (Q × Bool) := [((.fit .i64 (.var 10)), true),
  ((.le (.var 10) (.int 500)), true),
  ((.le (.int 0) (.var 10)), true),
  ((.le (.bi .add (.int 0) (.var 10)) (.var 10)), true),
  ((.le (.var 10) (.int 1000)), true),
  ((.le (.bi .mul (.var 10) (.int 2)) (.int 281474976710656)), true),
  ((.le (.var 10) (.int 1000000)), true),
  ((.eq (.fn 2 (.bi .pair (.var 12) (.bi .pair (.int 0) (.bi .pair (.bi .add (.int 0) (.var 10)) (.int 0))))) (.bi (.iop .add .u32) (.fn 8 (.bi .pair (.int 0) (.bi .pair (.var 10) (.bi .pair (.int 0) (.int 0))))) (.fn 2 (.bi .pair (.var 12) (.bi .pair (.int 0) (.bi .pair (.bi .add (.int 0) (.var 10)) (.int 0))))))), true)]
set_option maxRecDepth 100000 in
theorem c_hol_in_y1 : yesOf Try.prog (knownV (tellA c_hol_in_t1) tab specs overs) 6000 60 9 [.hollow, .sslice 1 (.int 0) (.var 10) (.var 11) false] ((globSt g0).newO (.eseq ⟨.u8, .var 10, .var 12⟩)) = true := by kernel_rfl
theorem c_hol_in_walk {W : World} (a0 : Addr) (c0 : Nat) {v1 : Value} {b1 off1 len1 cap1 : Nat} {zs1 : List Int} (h1 : InSlice W .u8 v1 b1 off1 len1 cap1 zs1) (hG : GlobsR (om 0 0 [] len1 cap1 zs1) W g0) : Calls Try.prog 9 #[.slice (some a0) 0 c0, v1] W fun e w' => e = .returned (.bool true) ∧ Below W.heap.size W w' := by
  have r0 := Rel.globs (om 0 0 [] len1 cap1 zs1) W g0 hG
  obtain ⟨le1, r1, x1⟩ := h1.open r0 (l := 10) (c := 11) (x := 12) rfl rfl rfl
  have pos1 := h1.pos
  have lec1 := h1.le
  have max1 := h1.max
  have zl1 := h1.len
  have rng1 := h1.rng
  have hargs : VRs _ [.hollow, .sslice 1 (.int 0) (.var 10) (.var 11) false] [.slice (some a0) 0 c0, v1] := VRs_cons (vr_hollow a0 c0) (VRs_cons x1 (VRs_nil))
  by_cases h : 500 < len1
  · refine calls_of_yesV sound tab_ok specs_ok overs_ok c_hol_in_y0 rfl (tellA_ok (allTold'_iff.1 ?_)) r1 hargs
    simp only [c_hol_in_t0, om_0, om_1, om_2, om_10, om_11, om_12, om_f, allTold', dutiesTold, factsA, factsP, factsR, AV.facts, RW.facts, inK, and_true, Q.holds', E.i, E.s, E.n, D.nat, E.den, BO.den, UO.den, TO.den, D.toInt_int, D.toList_list, D.ints_ofInts, i64min, i64max, u8min, u8max, u16min, u16max, u32min, u32max, u64min, u64max, i32min, i32max, Om.sub, selI, ints_app, ints_cut, ints_upd, ints_rep, ints_splice, len_ints]
    omega
  · refine calls_of_yesV sound tab_ok specs_ok overs_ok c_hol_in_y1 rfl (tellA_ok (allTold'_iff.1 ?_)) r1 hargs
    simp only [c_hol_in_t1, om_0, om_1, om_2, om_10, om_11, om_12, om_f, F2, F8, Int.zero_add, allTold', dutiesTold, factsA, factsP, factsR, AV.facts, RW.facts, inK, and_true, Q.holds', E.i, E.s, E.n, D.nat, E.den, BO.den, UO.den, TO.den, D.toInt_int, D.toList_list, D.ints_ofInts, i64min, i64max, u8min, u8max, u16min, u16max, u32min, u32max, u64min, u64max, i32min, i32max, Om.sub, selI, ints_app, ints_cut, ints_upd, ints_rep, ints_splice, len_ints]
    have r := sum_in (prt zs1 0 len1) 0 (by omega)
    first | omega | (simp only [add32, trip0]; omega)

def c_in_nil_t0 : List (Q × Bool) := [((.fit .i64 (.var 0)), true),
  ((.le (.var 0) (.int 500)), false)]
set_option maxRecDepth 100000 in
theorem c_in_nil_y0 : yesOf Try.prog (knownV (tellA c_in_nil_t0) tab specs overs) 6000 60 9 [.sslice 1 (.int 0) (.var 0) (.var 1) false, .nilslice] ((globSt g0).newO (.eseq ⟨.u8, .var 0, .var 2⟩)) = true := by kernel_rfl
def c_in_nil_t1 : List (Q × Bool) := [((.fit .i64 (.var 0)), true),
  ((.le (.var 0) (.int 500)), true),
  ((.le (.bi .add (.int 0) (.var 0)) (.var 0)), true),
  ((.le (.var 0) (.int 1000000)), true),
  ((.le (.bi .mul (.var 0) (.int 2)) (.int 281474976710656)), true),
  ((.eq (.fn 2 (.bi .pair (.var 2) (.bi .pair (.int 0) (.bi .pair (.bi .add (.int 0) (.var 0)) (.int 0))))) (.bi (.iop .add .u32) (.fn 2 (.bi .pair (.var 2) (.bi .pair (.int 0) (.bi .pair (.bi .add (.int 0) (.var 0)) (.int 0))))) (.int 0))), true)]
set_option maxRecDepth 100000 in
theorem c_in_nil_y1 : yesOf Try.prog (knownV (tellA c_in_nil_t1) tab specs overs) 6000 60 9 [.sslice 1 (.int 0) (.var 0) (.var 1) false, .nilslice] ((globSt g0).newO (.eseq ⟨.u8, .var 0, .var 2⟩)) = true := by kernel_rfl
theorem c_in_nil_walk {W : World} {v0 : Value} {b0 off0 len0 cap0 : Nat} {zs0 : List Int} (h0 : InSlice W .u8 v0 b0 off0 len0 cap0 zs0) (hG : GlobsR (om len0 cap0 zs0 0 0 []) W g0) : Calls Try.prog 9 #[v0, .slice none 0 0] W fun e w' => e = .returned (.bool true) ∧ Below W.heap.size W w' := by
  have r0 := Rel.globs (om len0 cap0 zs0 0 0 []) W g0 hG
  obtain ⟨le0, r1, x0⟩ := h0.open r0 (l := 0) (c := 1) (x := 2) rfl rfl rfl
  have pos0 := h0.pos
  have lec0 := h0.le
  have max0 := h0.max
  have zl0 := h0.len
  have rng0 := h0.rng
  have hargs : VRs _ [.sslice 1 (.int 0) (.var 0) (.var 1) false, .nilslice] [v0, .slice none 0 0] := VRs_cons x0 (VRs_cons vr_nil (VRs_nil))
  by_cases h : 500 < len0
  · refine calls_of_yesV sound tab_ok specs_ok overs_ok c_in_nil_y0 rfl (tellA_ok (allTold'_iff.1 ?_)) r1 hargs
    simp only [c_in_nil_t0, om_0, om_1, om_2, om_10, om_11, om_12, om_f, allTold', dutiesTold, factsA, factsP, factsR, AV.facts, RW.facts, inK, and_true, Q.holds', E.i, E.s, E.n, D.nat, E.den, BO.den, UO.den, TO.den, D.toInt_int, D.toList_list, D.ints_ofInts, i64min, i64max, u8min, u8max, u16min, u16max, u32min, u32max, u64min, u64max, i32min, i32max, Om.sub, selI, ints_app, ints_cut, ints_upd, ints_rep, ints_splice, len_ints]
    omega
  · refine calls_of_yesV sound tab_ok specs_ok overs_ok c_in_nil_y1 rfl (tellA_ok (allTold'_iff.1 ?_)) r1 hargs
    simp only [c_in_nil_t1, om_0, om_1, om_2, om_10, om_11, om_12, om_f, F2, F8, Int.zero_add, allTold', dutiesTold, factsA, factsP, factsR, AV.facts, RW.facts, inK, and_true, Q.holds', E.i, E.s, E.n, D.nat, E.den, BO.den, UO.den, TO.den, D.toInt_int, D.toList_list, D.ints_ofInts, i64min, i64max, u8min, u8max, u16min, u16max, u32min, u32max, u64min, u64max, i32min, i32max, Om.sub, selI, ints_app, ints_cut, ints_upd, ints_rep, ints_splice, len_ints]
    have r := sum_in (prt zs0 0 len0) 0 (by omega)
    first | omega | (simp only [add32, trip0]; omega)

def c_in_hol_t0 : List (Q × Bool) := [((.fit .i64 (.var 0)), true),
  ((.le (.var 0) (.int 500)), false)]
set_option maxRecDepth 100000 in
theorem c_in_hol_y0 : yesOf Try.prog (knownV (tellA c_in_hol_t0) tab specs overs) 6000 60 9 [.sslice 1 (.int 0) (.var 0) (.var 1) false, .hollow] ((globSt g0).newO (.eseq ⟨.u8, .var 0, .var 2⟩)) = true := by kernel_rfl
def c_in_hol_t1 : List (Q × Bool) := [((.fit .i64 (.var 0)), true),
  ((.le (.var 0) (.int 500)), true),
  ((.le (.bi .add (.int 0) (.var 0)) (.var 0)), true),
  ((.le (.var 0) (.int 1000000)), true),
  ((.le (.bi .mul (.var 0) (.int 2)) (.int 281474976710656)), true),
  ((.eq (.fn 2 (.bi .pair (.var 2) (.bi .pair (.int 0) (.bi .pair (.bi .add (.int 0) (.var 0)) (.int 0))))) (.bi (.iop .add .u32) (.fn 2 (.bi .pair (.var 2) (.bi .pair (.int 0) (.bi .pair (.bi .add (.int 0) (.var 0)) (.int 0))))) (.int 0))), true)]
set_option maxRecDepth 100000 in
theorem c_in_hol_y1 : yesOf Try.prog (knownV (tellA c_in_hol_t1) tab specs overs) 6000 60 9 [.sslice 1 (.int 0) (.var 0) (.var 1) false, .hollow] ((globSt g0).newO (.eseq ⟨.u8, .var 0, .var 2⟩)) = true := by kernel_rfl
theorem c_in_hol_walk {W : World} {v0 : Value} {b0 off0 len0 cap0 : Nat} {zs0 : List Int} (h0 : InSlice W .u8 v0 b0 off0 len0 cap0 zs0) (a1 : Addr) (c1 : Nat) (hG : GlobsR (om len0 cap0 zs0 0 0 []) W g0) : Calls Try.prog 9 #[v0, .slice (some a1) 0 c1] W fun e w' => e = .returned (.bool true) ∧ Below W.heap.size W w' := by
  have r0 := Rel.globs (om len0 cap0 zs0 0 0 []) W g0 hG
  obtain ⟨le0, r1, x0⟩ := h0.open r0 (l := 0) (c := 1) (x := 2) rfl rfl rfl
  have pos0 := h0.pos
  have lec0 := h0.le
  have max0 := h0.max
  have zl0 := h0.len
  have rng0 := h0.rng
  have hargs : VRs _ [.sslice 1 (.int 0) (.var 0) (.var 1) false, .hollow] [v0, .slice (some a1) 0 c1] := VRs_cons x0 (VRs_cons (vr_hollow a1 c1) (VRs_nil))
  by_cases h : 500 < len0
  · refine calls_of_yesV sound tab_ok specs_ok overs_ok c_in_hol_y0 rfl (tellA_ok (allTold'_iff.1 ?_)) r1 hargs
    simp only [c_in_hol_t0, om_0, om_1, om_2, om_10, om_11, om_12, om_f, allTold', dutiesTold, factsA, factsP, factsR, AV.facts, RW.facts, inK, and_true, Q.holds', E.i, E.s, E.n, D.nat, E.den, BO.den, UO.den, TO.den, D.toInt_int, D.toList_list, D.ints_ofInts, i64min, i64max, u8min, u8max, u16min, u16max, u32min, u32max, u64min, u64max, i32min, i32max, Om.sub, selI, ints_app, ints_cut, ints_upd, ints_rep, ints_splice, len_ints]
    omega
  · refine calls_of_yesV sound tab_ok specs_ok overs_ok c_in_hol_y1 rfl (tellA_ok (allTold'_iff.1 ?_)) r1 hargs
    simp only [c_in_hol_t1, om_0, om_1, om_2, om_10, om_11, om_12, om_f, F2, F8, Int.zero_add, allTold', dutiesTold, factsA, factsP, factsR, AV.facts, RW.facts, inK, and_true, Q.holds', E.i, E.s, E.n, D.nat, E.den, BO.den, UO.den, TO.den, D.toInt_int, D.toList_list, D.ints_ofInts, i64min, i64max, u8min, u8max, u16min, u16max, u32min, u32max, u64min, u64max, i32min, i32max, Om.sub, selI, ints_app, ints_cut, ints_upd, ints_rep, ints_splice, len_ints]
    have r := sum_in (prt zs0 0 len0) 0 (by omega)
    first | omega | (simp only [add32, trip0]; omega)

def c_in_in_t0 : List (Q × Bool) := [((.fit .i64 (.var 0)), true),
  ((.le (.var 0) (.int 500)), false)]
set_option maxRecDepth 100000 in
theorem c_in_in_y0 : yesOf Try.prog (knownV (tellA c_in_in_t0) tab specs overs) 6000 60 9 [.sslice 1 (.int 0) (.var 0) (.var 1) false, .sslice 3 (.int 0) (.var 10) (.var 11) false] (((globSt g0).newO (.eseq ⟨.u8, .var 0, .var 2⟩)).newO (.eseq ⟨.u8, .var 10, .var 12⟩)) = true := by kernel_rfl
def c_in_in_t1 : List (Q × Bool) := [((.fit .i64 (.var 0)), true),
  ((.le (.var 0) (.int 500)), true),
  ((.fit .i64 (.var 10)), true),
  ((.le (.var 10) (.int 500)), false)]
set_option maxRecDepth 100000 in
theorem c_in_in_y1 : yesOf Try.prog (knownV (tellA c_in_in_t1) tab specs overs) 6000 60 9 [.sslice 1 (.int 0) (.var 0) (.var 1) false, .sslice 3 (.int 0) (.var 10) (.var 11) false] (((globSt g0).newO (.eseq ⟨.u8, .var 0, .var 2⟩)).newO (.eseq ⟨.u8, .var 10, .var 12⟩)) = true := by kernel_rfl
def c_in_in_t2 : List (Q × Bool) := [((.fit .i64 (.var 0)), true),
  ((.le (.var 0) (.int 500)), true),
  ((.fit .i64 (.var 10)), true),
  ((.le (.var 10) (.int 500)), true),
  ((.le (.bi .add (.int 0) (.var 0)) (.var 0)), true),
  ((.le (.var 0) (.int 1000000)), true),
  ((.le (.int 0) (.var 10)), true),
  ((.le (.bi .add (.int 0) (.var 10)) (.var 10)), true),
  ((.le (.var 10) (.int 1000)), true),
  ((.le (.bi .mul (.var 0) (.int 2)) (.int 281474976710656)), true),
  ((.le (.bi .mul (.bi .add (.var 0) (.var 10)) (.int 2)) (.int 281474976710656)), true),
  ((.le (.bi .add (.int 0) (.bi .add (.var 0) (.var 10))) (.bi .add (.var 0) (.var 10))), true),
  ((.le (.bi .add (.var 0) (.var 10)) (.int 1000000)), true),
  ((.le (.var 10) (.int 1000000)), true),
  ((.eq (.fn 2 (.bi .pair (.bi .app (.var 2) (.var 12)) (.bi .pair (.int 0) (.bi .pair (.bi .add (.int 0) (.bi .add (.var 0) (.var 10))) (.int 0))))) (.bi (.iop .add .u32) (.fn 8 (.bi .pair (.int 0) (.bi .pair (.var 10) (.bi .pair (.fn 2 (.bi .pair (.var 2) (.bi .pair (.int 0) (.bi .pair (.bi .add (.int 0) (.var 0)) (.int 0))))) (.int 0))))) (.fn 2 (.bi .pair (.var 12) (.bi .pair (.int 0) (.bi .pair (.bi .add (.int 0) (.var 10)) (.int 0))))))), true)]
set_option maxRecDepth 100000 in
theorem c_in_in_y2 : yesOf Try.prog (knownV (tellA c_in_in_t2) tab specs overs) 6000 60 9 [.sslice 1 (.int 0) (.var 0) (.var 1) false, .sslice 3 (.int 0) (.var 10) (.var 11) false] (((globSt g0).newO (.eseq ⟨.u8, .var 0, .var 2⟩)).newO (.eseq ⟨.u8, .var 10, .var 12⟩)) = true := by kernel_rfl
theorem c_in_in_walk {W : World} {v0 : Value} {b0 off0 len0 cap0 : Nat} {zs0 : List Int} (h0 : InSlice W .u8 v0 b0 off0 len0 cap0 zs0) {v1 : Value} {b1 off1 len1 cap1 : Nat} {zs1 : List Int} (h1 : InSlice W .u8 v1 b1 off1 len1 cap1 zs1) (hG : GlobsR (om len0 cap0 zs0 len1 cap1 zs1) W g0) : Calls Try.prog 9 #[v0, v1] W fun e w' => e = .returned (.bool true) ∧ Below W.heap.size W w' := by
  have r0 := Rel.globs (om len0 cap0 zs0 len1 cap1 zs1) W g0 hG
  obtain ⟨le0, r1, x0⟩ := h0.open r0 (l := 0) (c := 1) (x := 2) rfl rfl rfl
  have pos0 := h0.pos
  have lec0 := h0.le
  have max0 := h0.max
  have zl0 := h0.len
  have rng0 := h0.rng
  obtain ⟨le1, r2, x1⟩ := h1.open r1 (l := 10) (c := 11) (x := 12) rfl rfl rfl
  replace x0 := VR.mono le1 _ _ x0
  have pos1 := h1.pos
  have lec1 := h1.le
  have max1 := h1.max
  have zl1 := h1.len
  have rng1 := h1.rng
  have hargs : VRs _ [.sslice 1 (.int 0) (.var 0) (.var 1) false, .sslice 3 (.int 0) (.var 10) (.var 11) false] [v0, v1] := VRs_cons x0 (VRs_cons x1 (VRs_nil))
  by_cases h : 500 < len0
  · refine calls_of_yesV sound tab_ok specs_ok overs_ok c_in_in_y0 rfl (tellA_ok (allTold'_iff.1 ?_)) r2 hargs
    simp only [c_in_in_t0, om_0, om_1, om_2, om_10, om_11, om_12, om_f, allTold', dutiesTold, factsA, factsP, factsR, AV.facts, RW.facts, inK, and_true, Q.holds', E.i, E.s, E.n, D.nat, E.den, BO.den, UO.den, TO.den, D.toInt_int, D.toList_list, D.ints_ofInts, i64min, i64max, u8min, u8max, u16min, u16max, u32min, u32max, u64min, u64max, i32min, i32max, Om.sub, selI, ints_app, ints_cut, ints_upd, ints_rep, ints_splice, len_ints]
    omega
  · by_cases h' : 500 < len1
    · refine calls_of_yesV sound tab_ok specs_ok overs_ok c_in_in_y1 rfl (tellA_ok (allTold'_iff.1 ?_)) r2 hargs
      simp only [c_in_in_t1, om_0, om_1, om_2, om_10, om_11, om_12, om_f, allTold', dutiesTold, factsA, factsP, factsR, AV.facts, RW.facts, inK, and_true, Q.holds', E.i, E.s, E.n, D.nat, E.den, BO.den, UO.den, TO.den, D.toInt_int, D.toList_list, D.ints_ofInts, i64min, i64max, u8min, u8max, u16min, u16max, u32min, u32max, u64min, u64max, i32min, i32max, Om.sub, selI, ints_app, ints_cut, ints_upd, ints_rep, ints_splice, len_ints]
      omega
    · refine calls_of_yesV sound tab_ok specs_ok overs_ok c_in_in_y2 rfl (tellA_ok (allTold'_iff.1 ?_)) r2 hargs
      simp only [c_in_in_t2, om_0, om_1, om_2, om_10, om_11, om_12, om_f, F2, F8, Int.zero_add, allTold', dutiesTold, factsA, factsP, factsR, AV.facts, RW.facts, inK, and_true, Q.holds', E.i, E.s, E.n, D.nat, E.den, BO.den, UO.den, TO.den, D.toInt_int, D.toList_list, D.ints_ofInts, i64min, i64max, u8min, u8max, u16min, u16max, u32min, u32max, u64min, u64max, i32min, i32max, Om.sub, selI, ints_app, ints_cut, ints_upd, ints_rep, ints_splice, len_ints]
      have p0 : prt zs0 0 len0 = zs0 := prt_all (by omega)
      have p1 : prt zs1 0 len1 = zs1 := prt_all (by omega)
      have pp : prt (zs0 ++ zs1) 0 ((len0 : Int) + len1) = zs0 ++ zs1 := prt_all (by simp; omega)
      have e := sum_trip zs1 (sumN 0 zs0)
      have r := sum_in (zs0 ++ zs1) 0 (by omega)
      rw [← sum_app] at e
      have l1 : ((len1 : Int) - 0).toNat = zs1.length := by omega
      simp only [p0, p1, pp, add32, l1]
      omega

theorem underS22 : Try.prog.underlying 22 = some (.slice 5) := by kernel_rfl
theorem underE5 : Try.prog.underlying 5 = some (.int .u8) := by kernel_rfl
theorem cellsE5 : Try.prog.cellsOf 5 = 1 := by kernel_rfl

set_option maxRecDepth 100000 in
theorem lifted (os : Os) (started : os.Started) (H : Type) (enc : TypeId × Value → H) :
    ReturnsInHanded {} Try.checked os 9 .any (Rows.rollJoinsSpec.pre6 enc Try.prog Try.f9 Rows.rollJoinsRow.domain false) (Rows.rollJoinsSpec.post enc Try.prog Try.f9 false true false false) := by
  refine returnsInHanded_of_change (C := Try.checked) own started (by kernel_rfl) Try.func9
    (ChangeSpec.witness6 (enc := enc) (C := Try.checked) false ⟨#[], #[.slice none 0 0, .slice none 0 0], []⟩ 8 (by kernel_rfl) (by kernel_rfl) (by kernel_rfl) (by kernel_rfl)) ?_
  intro W base args ds gs before hval0 hW hcnd _
  have hval : ∀ (j : Nat) t v, Try.f9.params[j]? = some t → args[j]? = some v → Value.okWide Try.prog W .any base t v := hval0
  have hW' := hW
  have hlt := hW.lt
  obtain ⟨p, q, hA0, hV, rfl, hfz, hnd⟩ := hW
  have hA : DataW.TrodAll enc Try.prog W 0 (fun _ => true) true Try.f9.params.toList args.toList ds p := hA0
  have hAll := hA
  rw [Try.params9] at hA hval hAll
  obtain ⟨rfl, rfl⟩ := trodVars_none hV
  obtain ⟨v0, v1, d0, d1, p0, p1, rfl, rfl, rfl, h0, h1⟩ := trodAll_two hA
  have s0 := in_slice (k := .u8) underS22 underE5 cellsE5 (hval 0 22 _ rfl rfl) h0
  have s1 := in_slice (k := .u8) underS22 underE5 cellsE5 (hval 1 22 _ rfl rfl) h1
  clear hA0 hval0
  have hcall : Calls Try.prog 9 #[v0, v1] W fun e w' => e = .returned (.bool true) ∧ Below W.heap.size W w' := by
    rcases s0 with rfl | ⟨a0, c0, rfl⟩ | ⟨_, _, _, _, _, s0⟩
    · rcases s1 with rfl | ⟨a1, c1, rfl⟩ | ⟨_, _, _, _, _, s1⟩
      · exact c_nil_nil_walk  (globs0 _ W)
      · exact c_nil_hol_walk a1 c1 (globs0 _ W)
      · exact c_nil_in_walk s1 (globs0 _ W)
    · rcases s1 with rfl | ⟨a1, c1, rfl⟩ | ⟨_, _, _, _, _, s1⟩
      · exact c_hol_nil_walk a0 c0 (globs0 _ W)
      · exact c_hol_hol_walk a0 c0 a1 c1 (globs0 _ W)
      · exact c_hol_in_walk a0 c0 s1 (globs0 _ W)
    · rcases s1 with rfl | ⟨a1, c1, rfl⟩ | ⟨_, _, _, _, _, s1⟩
      · exact c_in_nil_walk s0 (globs0 _ W)
      · exact c_in_hol_walk s0 a1 c1 (globs0 _ W)
      · exact c_in_in_walk s0 s1 (globs0 _ W)
  refine hcall.mono fun e W' ⟨he, hg⟩ => ?_
  subst he
  exact ⟨_, rfl, _, [], _, [], _, [], hW', trodAll_cons_mk (shut_bool Try.underlying4 _) trodAll_mk0, trodAll_stays laid hg _ _ _ _ hAll (fun x hx => hlt x (by simpa using hx)) (by kernel_rfl), rfl, hg.frame _, fun h => by cases h⟩

theorem over : Rows.rollJoinsRow.holds Try.pinned (OpenSpec.ofChange Rows.rollJoinsSpec) :=
  OpenClaim.holds_of_wide 9 Try.f9 rfl rfl rfl rfl rfl rfl rfl ⟨rfl, rfl, rfl, rfl, rfl⟩ rfl rfl rfl rfl rfl (by kernel_rfl) Try.func9 (by kernel_rfl)
    (of_decide_eq_true (by kernel_rfl)) (by unfold Func.isWrapper; first | (rw [if_pos (by decide +kernel)]; kernel_rfl) | (rw [if_neg (by decide +kernel)]; exact ⟨rfl, rfl⟩))
    (fun os started H enc _ => lifted os started H enc)

/-- The statement. -/
theorem proved : Rows.RollJoinsSaid :=
  over
#print axioms proved
end Go.Proofs.Ytfmnbdnapmpahaa.rollJoins
