/-
 The law DiskFlips of the layer disk holds of the code: for all inputs the call returns true, and the arguments read as they did. No condition.
-/
import Derived.Test.YtjafojckaomnlaaCo
import Derived.Test.YtjafojckaomnlaaSycp
import Derived.Test.YtjafojckaomnlaaFa
import Derived.WalkKit
import Derived.ProofKit
import Derived.OpenShut
set_option linter.unusedSimpArgs false
set_option linter.unusedVariables false
namespace Go.Proofs.Ytjafojckaomnlaa.diskFlips
open Go.ChangeShapes Go.WideShapes Go.ChangeAt Go.RowKit Go.Ev Go.Proofs.Ytjafojckaomnlaa.Co Go.Proofs.Ytjafojckaomnlaa.Fa

def om (len0 cap0 : Nat) (zs0 : List Int) (len1 cap1 : Nat) (zs1 : List Int) (n2 : Int) : Om := ⟨fun _ => .bool false, fun i => if i = 0 then .int len0 else if i = 1 then .int cap0 else if i = 2 then D.ofInts zs0 else if i = 10 then .int len1 else if i = 11 then .int cap1 else if i = 12 then D.ofInts zs1 else if i = 20 then .int n2 else .int 0, F⟩
theorem om_0 (len0 cap0 : Nat) (zs0 : List Int) (len1 cap1 : Nat) (zs1 : List Int) (n2 : Int) : (om len0 cap0 zs0 len1 cap1 zs1 n2).d 0 = .int len0 := rfl
theorem om_1 (len0 cap0 : Nat) (zs0 : List Int) (len1 cap1 : Nat) (zs1 : List Int) (n2 : Int) : (om len0 cap0 zs0 len1 cap1 zs1 n2).d 1 = .int cap0 := rfl
theorem om_2 (len0 cap0 : Nat) (zs0 : List Int) (len1 cap1 : Nat) (zs1 : List Int) (n2 : Int) : (om len0 cap0 zs0 len1 cap1 zs1 n2).d 2 = D.ofInts zs0 := rfl
theorem om_10 (len0 cap0 : Nat) (zs0 : List Int) (len1 cap1 : Nat) (zs1 : List Int) (n2 : Int) : (om len0 cap0 zs0 len1 cap1 zs1 n2).d 10 = .int len1 := rfl
theorem om_11 (len0 cap0 : Nat) (zs0 : List Int) (len1 cap1 : Nat) (zs1 : List Int) (n2 : Int) : (om len0 cap0 zs0 len1 cap1 zs1 n2).d 11 = .int cap1 := rfl
theorem om_12 (len0 cap0 : Nat) (zs0 : List Int) (len1 cap1 : Nat) (zs1 : List Int) (n2 : Int) : (om len0 cap0 zs0 len1 cap1 zs1 n2).d 12 = D.ofInts zs1 := rfl
theorem om_20 (len0 cap0 : Nat) (zs0 : List Int) (len1 cap1 : Nat) (zs1 : List Int) (n2 : Int) : (om len0 cap0 zs0 len1 cap1 zs1 n2).d 20 = .int n2 := rfl
theorem om_f (len0 cap0 : Nat) (zs0 : List Int) (len1 cap1 : Nat) (zs1 : List Int) (n2 : Int) : (om len0 cap0 zs0 len1 cap1 zs1 n2).f = F := rfl

theorem xor_xor {v m : Int} (h : 0 ≤ v ∧ v ≤ 255) : iopI .xor .u8 (iopI .xor .u8 v m) m = v := by
 have w : ∀ b : BitVec 8, IntKind.u8.wrap (b.toNat : Int) = b.toNat := fun b => wrap_fit ⟨by simp [IntKind.min, IntKind.signed], by have := b.isLt; simp [IntKind.max, IntKind.signed, IntKind.bits]; omega⟩
 have e : ∀ x y : Int, iopI .xor .u8 x y = ((BitVec.ofInt 8 x ^^^ BitVec.ofInt 8 y).toNat : Int) := fun x y => w _
 rw [e, e, BitVec.ofInt_natCast, BitVec.ofNat_toNat, BitVec.setWidth_eq, BitVec.xor_assoc, BitVec.xor_self, BitVec.xor_zero, BitVec.toNat_ofInt]
 omega
theorem ap1 (l : List D) (zs : List Int) : (D.list (List.drop (Int.toNat 0) (List.take (Int.toNat 0) l) ++ (D.ofInts zs).toList)).ints = zs := by
 simp [D.ints, D.ofInts, D.toList, Function.comp_def]
theorem ap2 (l : List D) (zs : List Int) (i : Nat) (v : Int) : (D.list (List.drop (Int.toNat 0) (List.take (Int.toNat 0) l) ++ (D.ofInts zs).toList.set i (D.int v))).ints = zs.set i v := by
 have : (D.ofInts zs).toList.set i (D.int v) = (D.ofInts (zs.set i v)).toList := by simp [D.ofInts, D.toList, List.map_set]
 rw [this, ap1]
theorem back {zs : List Int} (h : ∀ c ∈ zs, inK .u8 c) {i : Nat} (hi : i < zs.length) (m : Int) : zs.set i (iopI .xor .u8 (iopI .xor .u8 (zs[i]?.getD 0) m) m) = zs := by
 have e : zs[i]?.getD 0 = zs[i] := by rw [List.getElem?_eq_getElem hi]; rfl
 have hv := h _ (List.getElem_mem hi)
 simp only [inK, u8min, u8max] at hv
 rw [e, xor_xor hv, List.set_getElem_self]

def c_emp_emp_t0 : List (Q × Bool) := []
set_option maxRecDepth 100000 in
theorem c_emp_emp_y0 : yesOf Try.prog (knownV (tellA c_emp_emp_t0) tab specs overs) 20000 100 5 [.empty, .empty, .sint .i64 (.var 20)] (globSt g0) = true := by kernel_rfl
set_option maxRecDepth 100000 in
set_option maxHeartbeats 6000000 in
theorem c_emp_emp_walk {W : World} {v0 : Value} (hv0 : ∀ e : Env, VR e .empty v0) {v1 : Value} (hv1 : ∀ e : Env, VR e .empty v1) {n2 : Int} (hn2 : inK .i64 n2) (hG : GlobsR (om 0 0 [] 0 0 [] n2) W g0) : Calls Try.prog 5 #[v0, v1, .int .i64 n2] W fun e w' => e = .returned (.bool true) ∧ Below W.heap.size W w' := by
 have r0 := Rel.globs (om 0 0 [] 0 0 [] n2) W g0 hG
 have hargs : VRs (Env.none (om 0 0 [] 0 0 [] n2) W) [.empty, .empty, .sint .i64 (.var 20)] [v0, v1, .int .i64 n2] := VRs_cons (hv0 _) (VRs_cons (hv1 _) (VRs_cons (vr_sint (i := 20) hn2 (by rw [r0.opq]; rfl)) (VRs_nil)))
 simp only [inK, i64min, i64max, u8min, u8max, u32min, u32max, u64min, u64max] at hn2
 refine calls_of_yesV sound tab_ok specs_ok overs_ok c_emp_emp_y0 rfl (tellA_ok (allTold'_iff.1 ?_)) r0 hargs
 simp only [c_emp_emp_t0, om_0, om_1, om_2, om_10, om_11, om_12, om_20, om_f, tl]
 first | done | omega | trivial

abbrev as0 : Q × Bool := ((.fit .i64 (.var 10)), true)
abbrev as1 : Q × Bool := ((.le (.var 10) (.int 500)), false)
def c_emp_in_t0 : List (Q × Bool) := [as0, as1]
set_option maxRecDepth 100000 in
theorem c_emp_in_y0 : yesOf Try.prog (knownV (tellA c_emp_in_t0) tab specs overs) 20000 100 5 [.empty, .sslice 1 (.int 0) (.var 10) (.var 11) false, .sint .i64 (.var 20)] ((globSt g0).newO (.eseq ⟨.u8, .var 10, .var 12⟩)) = true := by kernel_rfl
abbrev as2 : Q × Bool := ((.le (.var 10) (.int 500)), true)
def c_emp_in_t1 : List (Q × Bool) := [as0, as2]
set_option maxRecDepth 100000 in
theorem c_emp_in_y1 : yesOf Try.prog (knownV (tellA c_emp_in_t1) tab specs overs) 20000 100 5 [.empty, .sslice 1 (.int 0) (.var 10) (.var 11) false, .sint .i64 (.var 20)] ((globSt g0).newO (.eseq ⟨.u8, .var 10, .var 12⟩)) = true := by kernel_rfl
set_option maxRecDepth 100000 in
set_option maxHeartbeats 6000000 in
theorem c_emp_in_walk {W : World} {v0 : Value} (hv0 : ∀ e : Env, VR e .empty v0) {v1 : Value} {b1 off1 len1 cap1 : Nat} {zs1 : List Int} (h1 : InSlice W .u8 v1 b1 off1 len1 cap1 zs1) {n2 : Int} (hn2 : inK .i64 n2) (hG : GlobsR (om 0 0 [] len1 cap1 zs1 n2) W g0) : Calls Try.prog 5 #[v0, v1, .int .i64 n2] W fun e w' => e = .returned (.bool true) ∧ Below W.heap.size W w' := by
 have r0 := Rel.globs (om 0 0 [] len1 cap1 zs1 n2) W g0 hG
 obtain ⟨le1, r1, x1⟩ := h1.open r0 (l := 10) (c := 11) (x := 12) rfl rfl rfl
 have pos1 := h1.pos
 have lec1 := h1.le
 have max1 := h1.max
 have zl1 := h1.len
 have rng1 := h1.rng
 have hargs : VRs _ [.empty, .sslice 1 (.int 0) (.var 10) (.var 11) false, .sint .i64 (.var 20)] [v0, v1, .int .i64 n2] := VRs_cons (hv0 _) (VRs_cons (x1) (VRs_cons (vr_sint (i := 20) hn2 (by rw [r1.opq]; rfl)) (VRs_nil)))
 simp only [inK, i64min, i64max, u8min, u8max, u32min, u32max, u64min, u64max] at hn2
 by_cases h : 500 < len1
 ·refine calls_of_yesV sound tab_ok specs_ok overs_ok c_emp_in_y0 rfl (tellA_ok (allTold'_iff.1 ?_)) r1 hargs
  simp only [c_emp_in_t0, om_0, om_1, om_2, om_10, om_11, om_12, om_20, om_f, tl]
  omega
 ·refine calls_of_yesV sound tab_ok specs_ok overs_ok c_emp_in_y1 rfl (tellA_ok (allTold'_iff.1 ?_)) r1 hargs
  simp only [c_emp_in_t1, om_0, om_1, om_2, om_10, om_11, om_12, om_20, om_f, tl]
  omega

abbrev as3 : Q × Bool := ((.fit .i64 (.var 0)), true)
abbrev as4 : Q × Bool := ((.le (.var 0) (.int 500)), false)
def c_in_emp_t0 : List (Q × Bool) := [as3, as4]
set_option maxRecDepth 100000 in
theorem c_in_emp_y0 : yesOf Try.prog (knownV (tellA c_in_emp_t0) tab specs overs) 20000 100 5 [.sslice 1 (.int 0) (.var 0) (.var 1) false, .empty, .sint .i64 (.var 20)] ((globSt g0).newO (.eseq ⟨.u8, .var 0, .var 2⟩)) = true := by kernel_rfl
abbrev as5 : Q × Bool := ((.le (.var 0) (.int 500)), true)
abbrev as6 : Q × Bool := ((.eq (.var 0) (.int 0)), false)
abbrev as7 : Q × Bool := ((.le (.int 1) (.var 1)), true)
abbrev as8 : Q × Bool := ((.le (.var 0) (.int 2000)), true)
abbrev as9 : Q × Bool := ((.le (.bi .mul (.var 0) (.int 2)) (.int 281474976710656)), true)
abbrev as10 : Q × Bool := ((.le (.int 0) (.var 0)), true)
abbrev as11 : Q × Bool := ((.fit .i64 (.bi .sub (.int 2000) (.var 0))), true)
abbrev as12 : Q × Bool := ((.le (.int 0) (.bi .sub (.int 2000) (.var 0))), true)
abbrev as13 : Q × Bool := ((.fit .i64 (.bi .mul (.var 0) (.int 8))), true)
abbrev as14 : Q × Bool := ((.le (.int 1) (.bi .mul (.var 0) (.int 8))), true)
abbrev as15 : Q × Bool := ((.le (.int 0) (.bi (.iop .quo .i64) (.fn 7 (.bi .pair (.var 20) (.bi .pair (.bi .mul (.var 0) (.int 8)) (.int 0)))) (.int 8))), true)
abbrev as16 : Q × Bool := ((.le (.var 0) (.bi (.iop .quo .i64) (.fn 7 (.bi .pair (.var 20) (.bi .pair (.bi .mul (.var 0) (.int 8)) (.int 0)))) (.int 8))), false)
abbrev as17 : Q × Bool := ((.le (.int 0) (.bi (.iop .rem .i64) (.fn 7 (.bi .pair (.var 20) (.bi .pair (.bi .mul (.var 0) (.int 8)) (.int 0)))) (.int 8))), true)
abbrev as18 : Q × Bool := ((.le (.int 0) (.fn 7 (.bi .pair (.var 20) (.bi .pair (.bi .mul (.var 0) (.int 8)) (.int 0))))), true)
abbrev as19 : Q × Bool := ((.le (.var 0) (.int 0)), false)
abbrev as20 : Q × Bool := ((.same (.bi .app (.tr .cut (.bi .rep (.var 0) (.int 0)) (.int 0) (.int 0)) (.tr .upd (.var 2) (.bi (.iop .quo .i64) (.fn 7 (.bi .pair (.var 20) (.bi .pair (.bi .mul (.var 0) (.int 8)) (.int 0)))) (.int 8)) (.bi (.iop .xor .u8) (.bi .sel (.var 2) (.bi (.iop .quo .i64) (.fn 7 (.bi .pair (.var 20) (.bi .pair (.bi .mul (.var 0) (.int 8)) (.int 0)))) (.int 8))) (.bi (.iop .shl .u8) (.int 1) (.bi (.iop .rem .i64) (.fn 7 (.bi .pair (.var 20) (.bi .pair (.bi .mul (.var 0) (.int 8)) (.int 0)))) (.int 8)))))) (.tr .upd (.var 2) (.bi (.iop .quo .i64) (.fn 7 (.bi .pair (.var 20) (.bi .pair (.bi .mul (.var 0) (.int 8)) (.int 0)))) (.int 8)) (.bi (.iop .xor .u8) (.bi .sel (.var 2) (.bi (.iop .quo .i64) (.fn 7 (.bi .pair (.var 20) (.bi .pair (.bi .mul (.var 0) (.int 8)) (.int 0)))) (.int 8))) (.bi (.iop .shl .u8) (.int 1) (.bi (.iop .rem .i64) (.fn 7 (.bi .pair (.var 20) (.bi .pair (.bi .mul (.var 0) (.int 8)) (.int 0)))) (.int 8)))))), true)
abbrev as21 : Q × Bool := ((.same (.bi .app (.tr .cut (.bi .rep (.var 0) (.int 0)) (.int 0) (.int 0)) (.tr .upd (.var 2) (.bi (.iop .quo .i64) (.fn 7 (.bi .pair (.var 20) (.bi .pair (.bi .mul (.var 0) (.int 8)) (.int 0)))) (.int 8)) (.bi (.iop .xor .u8) (.bi (.iop .xor .u8) (.bi .sel (.var 2) (.bi (.iop .quo .i64) (.fn 7 (.bi .pair (.var 20) (.bi .pair (.bi .mul (.var 0) (.int 8)) (.int 0)))) (.int 8))) (.bi (.iop .shl .u8) (.int 1) (.bi (.iop .rem .i64) (.fn 7 (.bi .pair (.var 20) (.bi .pair (.bi .mul (.var 0) (.int 8)) (.int 0)))) (.int 8)))) (.bi (.iop .shl .u8) (.int 1) (.bi (.iop .rem .i64) (.fn 7 (.bi .pair (.var 20) (.bi .pair (.bi .mul (.var 0) (.int 8)) (.int 0)))) (.int 8)))))) (.var 2)), true)
abbrev as22 : Q × Bool := ((.le (.int 0) (.bi .mul (.var 0) (.int 8))), true)
abbrev as23 : Q × Bool := ((.le (.var 0) (.bi (.iop .quo .i64) (.bi .mul (.var 0) (.int 8)) (.int 8))), true)
def c_in_emp_t1 : List (Q × Bool) := [as3, as5, as6, as7, as8, as9, as10, as11, as12, as13, as14, as15, as16, as17, as18, as19, as20, as21, as22, as23]
set_option maxRecDepth 100000 in
theorem c_in_emp_y1 : yesOf Try.prog (knownV (tellA c_in_emp_t1) tab specs overs) 20000 100 5 [.sslice 1 (.int 0) (.var 0) (.var 1) false, .empty, .sint .i64 (.var 20)] ((globSt g0).newO (.eseq ⟨.u8, .var 0, .var 2⟩)) = true := by kernel_rfl
set_option maxRecDepth 100000 in
set_option maxHeartbeats 6000000 in
theorem c_in_emp_walk {W : World} {v0 : Value} {b0 off0 len0 cap0 : Nat} {zs0 : List Int} (h0 : InSlice W .u8 v0 b0 off0 len0 cap0 zs0) {v1 : Value} (hv1 : ∀ e : Env, VR e .empty v1) {n2 : Int} (hn2 : inK .i64 n2) (hG : GlobsR (om len0 cap0 zs0 0 0 [] n2) W g0) : Calls Try.prog 5 #[v0, v1, .int .i64 n2] W fun e w' => e = .returned (.bool true) ∧ Below W.heap.size W w' := by
 have r0 := Rel.globs (om len0 cap0 zs0 0 0 [] n2) W g0 hG
 obtain ⟨le0, r1, x0⟩ := h0.open r0 (l := 0) (c := 1) (x := 2) rfl rfl rfl
 have pos0 := h0.pos
 have lec0 := h0.le
 have max0 := h0.max
 have zl0 := h0.len
 have rng0 := h0.rng
 have hargs : VRs _ [.sslice 1 (.int 0) (.var 0) (.var 1) false, .empty, .sint .i64 (.var 20)] [v0, v1, .int .i64 n2] := VRs_cons (x0) (VRs_cons (hv1 _) (VRs_cons (vr_sint (i := 20) hn2 (by rw [r1.opq]; rfl)) (VRs_nil)))
 simp only [inK, i64min, i64max, u8min, u8max, u32min, u32max, u64min, u64max] at hn2
 by_cases h : 500 < len0
 ·refine calls_of_yesV sound tab_ok specs_ok overs_ok c_in_emp_y0 rfl (tellA_ok (allTold'_iff.1 ?_)) r1 hargs
  simp only [c_in_emp_t0, om_0, om_1, om_2, om_10, om_11, om_12, om_20, om_f, tl]
  omega
 ·have hb := emod_in (x := n2) (n := (len0 : Int) * 8) (by omega)
  refine calls_of_yesV sound tab_ok specs_ok overs_ok c_in_emp_y1 rfl (tellA_ok (allTold'_iff.1 ?_)) r1 hargs
  simp only [c_in_emp_t1, om_0, om_1, om_2, om_10, om_11, om_12, om_20, om_f, F7, tl]
  have q3 : iopI .quo .i64 ((len0 : Int) * 8) 8 = len0 := by rw [quo_ediv (by omega) (by omega) (by omega)]; omega
  generalize n2 % ((len0 : Int) * 8) = b at hb ⊢
  rw [quo_ediv (x := b) (y := 8) hb.1 (by omega) (by omega), rem_emod (x := b) (y := 8) .i64 hb.1]
  simp only [q3, and_true, true_and]
  and_intros <;> first | omega | exact ap1 _ _ | exact ap2 _ _ _ _ | (rw [ap2]; exact back rng0 (by omega) _)

def c_in_in_t0 : List (Q × Bool) := [as3, as4]
set_option maxRecDepth 100000 in
theorem c_in_in_y0 : yesOf Try.prog (knownV (tellA c_in_in_t0) tab specs overs) 20000 100 5 [.sslice 1 (.int 0) (.var 0) (.var 1) false, .sslice 3 (.int 0) (.var 10) (.var 11) false, .sint .i64 (.var 20)] (((globSt g0).newO (.eseq ⟨.u8, .var 0, .var 2⟩)).newO (.eseq ⟨.u8, .var 10, .var 12⟩)) = true := by kernel_rfl
def c_in_in_t1 : List (Q × Bool) := [as3, as5, as0, as1]
set_option maxRecDepth 100000 in
theorem c_in_in_y1 : yesOf Try.prog (knownV (tellA c_in_in_t1) tab specs overs) 20000 100 5 [.sslice 1 (.int 0) (.var 0) (.var 1) false, .sslice 3 (.int 0) (.var 10) (.var 11) false, .sint .i64 (.var 20)] (((globSt g0).newO (.eseq ⟨.u8, .var 0, .var 2⟩)).newO (.eseq ⟨.u8, .var 10, .var 12⟩)) = true := by kernel_rfl
abbrev as24 : Q × Bool := ((.le (.int 1) (.var 11)), true)
abbrev as25 : Q × Bool := ((.le (.var 10) (.bi .sub (.int 2000) (.var 0))), true)
abbrev as26 : Q × Bool := ((.eq (.var 10) (.int 0)), false)
abbrev as27 : Q × Bool := ((.le (.bi .mul (.var 10) (.int 2)) (.int 281474976710656)), true)
abbrev as28 : Q × Bool := ((.le (.int 0) (.var 10)), true)
abbrev as29 : Q × Bool := ((.le (.var 10) (.int 0)), false)
abbrev as30 : Q × Bool := ((.same (.bi .app (.tr .cut (.bi .rep (.var 10) (.int 0)) (.int 0) (.int 0)) (.var 12)) (.var 12)), true)
def c_in_in_t2 : List (Q × Bool) := [as3, as5, as0, as2, as6, as7, as8, as9, as10, as24, as11, as25, as26, as27, as28, as13, as14, as15, as16, as17, as18, as19, as20, as29, as30, as21, as22, as23]
set_option maxRecDepth 100000 in
theorem c_in_in_y2 : yesOf Try.prog (knownV (tellA c_in_in_t2) tab specs overs) 20000 100 5 [.sslice 1 (.int 0) (.var 0) (.var 1) false, .sslice 3 (.int 0) (.var 10) (.var 11) false, .sint .i64 (.var 20)] (((globSt g0).newO (.eseq ⟨.u8, .var 0, .var 2⟩)).newO (.eseq ⟨.u8, .var 10, .var 12⟩)) = true := by kernel_rfl
set_option maxRecDepth 100000 in
set_option maxHeartbeats 6000000 in
theorem c_in_in_walk {W : World} {v0 : Value} {b0 off0 len0 cap0 : Nat} {zs0 : List Int} (h0 : InSlice W .u8 v0 b0 off0 len0 cap0 zs0) {v1 : Value} {b1 off1 len1 cap1 : Nat} {zs1 : List Int} (h1 : InSlice W .u8 v1 b1 off1 len1 cap1 zs1) {n2 : Int} (hn2 : inK .i64 n2) (hG : GlobsR (om len0 cap0 zs0 len1 cap1 zs1 n2) W g0) : Calls Try.prog 5 #[v0, v1, .int .i64 n2] W fun e w' => e = .returned (.bool true) ∧ Below W.heap.size W w' := by
 have r0 := Rel.globs (om len0 cap0 zs0 len1 cap1 zs1 n2) W g0 hG
 obtain ⟨le0, r1, x0⟩ := h0.open r0 (l := 0) (c := 1) (x := 2) rfl rfl rfl
 have pos0 := h0.pos
 have lec0 := h0.le
 have max0 := h0.max
 have zl0 := h0.len
 have rng0 := h0.rng
 obtain ⟨le1, r2, x1⟩ := h1.open r1 (l := 10) (c := 11) (x := 12) rfl rfl rfl
 replace x0 := VR.mono le1 _ _ x0
 have pos1 := h1.pos
 have lec1 := h1.le
 have max1 := h1.max
 have zl1 := h1.len
 have rng1 := h1.rng
 have hargs : VRs _ [.sslice 1 (.int 0) (.var 0) (.var 1) false, .sslice 3 (.int 0) (.var 10) (.var 11) false, .sint .i64 (.var 20)] [v0, v1, .int .i64 n2] := VRs_cons (x0) (VRs_cons (x1) (VRs_cons (vr_sint (i := 20) hn2 (by rw [r2.opq]; rfl)) (VRs_nil)))
 simp only [inK, i64min, i64max, u8min, u8max, u32min, u32max, u64min, u64max] at hn2
 by_cases h : 500 < len0
 ·refine calls_of_yesV sound tab_ok specs_ok overs_ok c_in_in_y0 rfl (tellA_ok (allTold'_iff.1 ?_)) r2 hargs
  simp only [c_in_in_t0, om_0, om_1, om_2, om_10, om_11, om_12, om_20, om_f, tl]
  omega
 ·by_cases h1 : 500 < len1
  ·refine calls_of_yesV sound tab_ok specs_ok overs_ok c_in_in_y1 rfl (tellA_ok (allTold'_iff.1 ?_)) r2 hargs
   simp only [c_in_in_t1, om_0, om_1, om_2, om_10, om_11, om_12, om_20, om_f, tl]
   omega
  ·have hb := emod_in (x := n2) (n := (len0 : Int) * 8) (by omega)
   refine calls_of_yesV sound tab_ok specs_ok overs_ok c_in_in_y2 rfl (tellA_ok (allTold'_iff.1 ?_)) r2 hargs
   simp only [c_in_in_t2, om_0, om_1, om_2, om_10, om_11, om_12, om_20, om_f, F7, tl]
   have q3 : iopI .quo .i64 ((len0 : Int) * 8) 8 = len0 := by rw [quo_ediv (by omega) (by omega) (by omega)]; omega
   generalize n2 % ((len0 : Int) * 8) = b at hb ⊢
   rw [quo_ediv (x := b) (y := 8) hb.1 (by omega) (by omega), rem_emod (x := b) (y := 8) .i64 hb.1]
   simp only [q3, and_true, true_and]
   and_intros <;> first | omega | exact ap1 _ _ | exact ap2 _ _ _ _ | (rw [ap2]; exact back rng0 (by omega) _)

theorem underS24 : Try.prog.underlying 24 = some (.slice 5) := by kernel_rfl
theorem underE5 : Try.prog.underlying 5 = some (.int .u8) := by kernel_rfl
theorem cellsE5 : Try.prog.cellsOf 5 = 1 := by kernel_rfl
theorem underI3 : Try.prog.underlying 3 = some (.int .i64) := by kernel_rfl

set_option maxRecDepth 100000 in
theorem lifted (os : Os) (started : os.Started) (H : Type) (enc : TypeId × Value → H) :
  ReturnsInHanded {} Try.checked os 5 .any (Rows.diskFlipsSpec.pre6 enc Try.prog Try.f5 Rows.diskFlipsRow.domain false) (Rows.diskFlipsSpec.post enc Try.prog Try.f5 false true false false) := by
 refine returnsInHanded_of_change (C := Try.checked) own started (by kernel_rfl) Try.func5
  (ChangeSpec.witness6 (enc := enc) (C := Try.checked) false ⟨#[], #[.slice none 0 0, .slice none 0 0, .int .i64 0], []⟩ 8 (by kernel_rfl) (by kernel_rfl) (by kernel_rfl) (by kernel_rfl)) ?_
 intro W base args ds gs before hval0 hW hcnd _
 have hval : ∀ (j : Nat) t v, Try.f5.params[j]? = some t → args[j]? = some v → Value.okWide Try.prog W .any base t v := hval0
 have hW' := hW
 have hlt := hW.lt
 obtain ⟨p, q, hA0, hV, rfl, hfz, hnd⟩ := hW
 have hA : DataW.TrodAll enc Try.prog W 0 (fun _ => true) true Try.f5.params.toList args.toList ds p := hA0
 have hAll := hA
 rw [Try.params5] at hA hval hAll
 obtain ⟨rfl, rfl⟩ := trodVars_none hV
 obtain ⟨pv0, pv1, pv2, d0, d1, d2, p0, p1, p2, rfl, rfl, rfl, h0, h1, h2⟩ := trodAll_three hA
 have s0 := in_slice (k := .u8) underS24 underE5 cellsE5 (hval 0 24 _ rfl rfl) h0
 have s1 := in_slice (k := .u8) underS24 underE5 cellsE5 (hval 1 24 _ rfl rfl) h1
 obtain ⟨n2, rfl, rfl, rfl, wn2⟩ := open_int underI3 (hval 2 3 _ rfl rfl) h2
 have wn2 := wf_inK wn2
 clear hA0 hval0
 have hcall : Calls Try.prog 5 #[pv0, pv1, .int .i64 n2] W fun e w' => e = .returned (.bool true) ∧ Below W.heap.size W w' := by
  rcases s0 with rfl | ⟨a0, c0, rfl⟩ | ⟨_, _, _, _, _, s0⟩
  ·rcases s1 with rfl | ⟨a1, c1, rfl⟩ | ⟨_, _, _, _, _, s1⟩
   ·exact c_emp_emp_walk (fun _ => vr_emptyN) (fun _ => vr_emptyN) wn2 (globs0 _ W)
   ·exact c_emp_emp_walk (fun _ => vr_emptyN) (fun _ => vr_emptyH a1 c1) wn2 (globs0 _ W)
   ·exact c_emp_in_walk (fun _ => vr_emptyN) s1 wn2 (globs0 _ W)
  ·rcases s1 with rfl | ⟨a1, c1, rfl⟩ | ⟨_, _, _, _, _, s1⟩
   ·exact c_emp_emp_walk (fun _ => vr_emptyH a0 c0) (fun _ => vr_emptyN) wn2 (globs0 _ W)
   ·exact c_emp_emp_walk (fun _ => vr_emptyH a0 c0) (fun _ => vr_emptyH a1 c1) wn2 (globs0 _ W)
   ·exact c_emp_in_walk (fun _ => vr_emptyH a0 c0) s1 wn2 (globs0 _ W)
  ·rcases s1 with rfl | ⟨a1, c1, rfl⟩ | ⟨_, _, _, _, _, s1⟩
   ·exact c_in_emp_walk s0 (fun _ => vr_emptyN) wn2 (globs0 _ W)
   ·exact c_in_emp_walk s0 (fun _ => vr_emptyH a1 c1) wn2 (globs0 _ W)
   ·exact c_in_in_walk s0 s1 wn2 (globs0 _ W)
 refine hcall.mono fun e W' ⟨he, hg⟩ => ?_
 subst he
 exact ⟨_, rfl, _, [], _, [], _, [], hW', trodAll_cons_mk (shut_bool Try.underlying4 _) trodAll_mk0, trodAll_stays laid hg _ _ _ _ hAll (fun x hx => hlt x (by simpa using hx)) (by kernel_rfl), rfl, hg.frame _, fun h => by cases h⟩

theorem over : Rows.diskFlipsRow.holds Try.pinned (OpenSpec.ofChange Rows.diskFlipsSpec) :=
 OpenClaim.holds_of_wide 5 Try.f5 rfl rfl rfl rfl rfl rfl rfl ⟨rfl, rfl, rfl, rfl, rfl⟩ rfl rfl rfl rfl rfl (by kernel_rfl) Try.func5 (by kernel_rfl)
  (of_decide_eq_true (by kernel_rfl)) (by unfold Func.isWrapper; first | (rw [if_pos (by decide +kernel)]; kernel_rfl) | (rw [if_neg (by decide +kernel)]; exact ⟨rfl, rfl⟩))
  (fun os started H enc _ => lifted os started H enc)

theorem proved : Rows.DiskFlipsSaid :=
 over
#print axioms proved
end Go.Proofs.Ytjafojckaomnlaa.diskFlips
