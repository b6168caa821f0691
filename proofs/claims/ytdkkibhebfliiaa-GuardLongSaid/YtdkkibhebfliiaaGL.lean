/-
  The law GuardLong of the layer guard holds of the code: for all inputs the call returns true, and the arguments read as they did. No condition.
-/
import Derived.Test.YtdkkibhebfliiaaCo
import Derived.Test.YtdkkibhebfliiaaSylm
import Derived.Test.YtdkkibhebfliiaaGa
import Derived.Test.YtdkkibhebfliiaaGm
import Derived.Test.YtdkkibhebfliiaaGx
import Derived.WalkKit
import Derived.ProofKit
import Derived.OpenShut
set_option linter.unusedSimpArgs false
set_option linter.unusedVariables false
namespace Go.Proofs.Ytdkkibhebfliiaa.guardLong
open Go.ChangeShapes Go.WideShapes Go.ChangeAt Go.RowKit Go.Ev Go.Proofs.Ytdkkibhebfliiaa.Co Go.Proofs.Ytdkkibhebfliiaa.Ga Go.Proofs.Ytdkkibhebfliiaa.Gm Go.Proofs.Ytdkkibhebfliiaa.Gx

def om (len0 cap0 : Nat) (zs0 : List Int) (n1 : Int) (len2 cap2 : Nat) (zs2 : List Int) : Om := ⟨fun _ => .bool false, fun i => if i = 0 then .int len0 else if i = 1 then .int cap0 else if i = 2 then D.ofInts zs0 else if i = 10 then .int n1 else if i = 20 then .int len2 else if i = 21 then .int cap2 else if i = 22 then D.ofInts zs2 else .int 0, F⟩
theorem om_0 (len0 cap0 : Nat) (zs0 : List Int) (n1 : Int) (len2 cap2 : Nat) (zs2 : List Int) : (om len0 cap0 zs0 n1 len2 cap2 zs2).d 0 = .int len0 := rfl
theorem om_1 (len0 cap0 : Nat) (zs0 : List Int) (n1 : Int) (len2 cap2 : Nat) (zs2 : List Int) : (om len0 cap0 zs0 n1 len2 cap2 zs2).d 1 = .int cap0 := rfl
theorem om_2 (len0 cap0 : Nat) (zs0 : List Int) (n1 : Int) (len2 cap2 : Nat) (zs2 : List Int) : (om len0 cap0 zs0 n1 len2 cap2 zs2).d 2 = D.ofInts zs0 := rfl
theorem om_10 (len0 cap0 : Nat) (zs0 : List Int) (n1 : Int) (len2 cap2 : Nat) (zs2 : List Int) : (om len0 cap0 zs0 n1 len2 cap2 zs2).d 10 = .int n1 := rfl
theorem om_20 (len0 cap0 : Nat) (zs0 : List Int) (n1 : Int) (len2 cap2 : Nat) (zs2 : List Int) : (om len0 cap0 zs0 n1 len2 cap2 zs2).d 20 = .int len2 := rfl
theorem om_21 (len0 cap0 : Nat) (zs0 : List Int) (n1 : Int) (len2 cap2 : Nat) (zs2 : List Int) : (om len0 cap0 zs0 n1 len2 cap2 zs2).d 21 = .int cap2 := rfl
theorem om_22 (len0 cap0 : Nat) (zs0 : List Int) (n1 : Int) (len2 cap2 : Nat) (zs2 : List Int) : (om len0 cap0 zs0 n1 len2 cap2 zs2).d 22 = D.ofInts zs2 := rfl
theorem om_f (len0 cap0 : Nat) (zs0 : List Int) (n1 : Int) (len2 cap2 : Nat) (zs2 : List Int) : (om len0 cap0 zs0 n1 len2 cap2 zs2).f = F := rfl

theorem selApp (x y : D) (j : Nat) : (((x.toList ++ y.toList)[j]?).getD (.int 0)).toInt = ((x.ints ++ y.ints)[j]?).getD 0 := by
  have := selI (.list (x.toList ++ y.toList)) j
  simpa only [D.toList_list, ints_app] using this
theorem k3 : IntKind.u8.wrap (notI (moreI (notI 0) [0])) = 141 := by decide +kernel
theorem more_prt (P z : List Int) {n : Int} (h : n = P.length) : prt (putI P ++ z) 0 (n + 1) = P ++ [IntKind.u8.wrap (notI (moreI (notI 0) P))] := by
  subst h
  unfold prt putI le4 sumI
  rw [show ((P.length : Int) + 1).toNat = P.length + 1 by omega]
  simp [List.take_append, List.take_of_length_le]
theorem more_sel (P z : List Int) {n : Int} (h : n = P.length) : ((putI P ++ z)[(n + 1).toNat]?).getD 0 = IntKind.u8.wrap (iopI .shr .u32 (notI (moreI (notI 0) P)) 8) := by
  subst h
  unfold putI le4 sumI
  rw [show ((P.length : Int) + 1).toNat = P.length + 1 by omega]
  simp [List.getElem?_append_right]

def c_nil_nil_t0 : List (Q × Bool) := []
set_option maxRecDepth 100000 in
theorem c_nil_nil_y0 : yesOf Try.prog (knownV (tellA c_nil_nil_t0) tab0 specs0 overs0) 6000 60 8 [.nilslice, .sint .i64 (.var 10), .nilslice] (globSt g0) = true := by kernel_rfl
theorem c_nil_nil_walk {W : World} {n1 : Int} (hn1 : inK .i64 n1) (hG : GlobsR (om 0 0 [] n1 0 0 []) W g0) : Calls Try.prog 8 #[.slice none 0 0, .int .i64 n1, .slice none 0 0] W fun e w' => e = .returned (.bool true) ∧ Below W.heap.size W w' := by
  have r0 := Rel.globs (om 0 0 [] n1 0 0 []) W g0 hG
  have hargs : VRs (Env.none (om 0 0 [] n1 0 0 [])) [.nilslice, .sint .i64 (.var 10), .nilslice] [.slice none 0 0, .int .i64 n1, .slice none 0 0] := VRs_cons vr_nil (VRs_cons (vr_sint (i := 10) hn1 (by rw [r0.opq]; rfl)) (VRs_cons vr_nil (VRs_nil)))
  simp only [inK, i64min, i64max, u8min, u8max, u32min, u32max, u64min, u64max] at hn1
  refine calls_of_yesV sound tab0_ok specs0_ok overs0_ok c_nil_nil_y0 rfl (tellA_ok (allTold'_iff.1 ?_)) r0 hargs
  simp only [c_nil_nil_t0, om_0, om_1, om_2, om_10, om_20, om_21, om_22, om_f, allTold', dutiesTold, factsA, factsP, factsR, AV.facts, RW.facts, inK, and_true, Q.holds', E.i, E.s, E.n, D.nat, E.den, BO.den, UO.den, TO.den, D.toInt_int, D.toList_list, D.ints_ofInts, i64min, i64max, u8min, u8max, u16min, u16max, u32min, u32max, u64min, u64max, i32min, i32max, Om.sub, selI, ints_app, ints_cut, ints_upd, ints_rep, ints_splice, len_ints]
  first | done | omega | trivial

def c_nil_hol_t0 : List (Q × Bool) := []
set_option maxRecDepth 100000 in
theorem c_nil_hol_y0 : yesOf Try.prog (knownV (tellA c_nil_hol_t0) tab0 specs0 overs0) 6000 60 8 [.nilslice, .sint .i64 (.var 10), .hollow] (globSt g0) = true := by kernel_rfl
theorem c_nil_hol_walk {W : World} {n1 : Int} (hn1 : inK .i64 n1) (a2 : Addr) (c2 : Nat) (hG : GlobsR (om 0 0 [] n1 0 0 []) W g0) : Calls Try.prog 8 #[.slice none 0 0, .int .i64 n1, .slice (some a2) 0 c2] W fun e w' => e = .returned (.bool true) ∧ Below W.heap.size W w' := by
  have r0 := Rel.globs (om 0 0 [] n1 0 0 []) W g0 hG
  have hargs : VRs (Env.none (om 0 0 [] n1 0 0 [])) [.nilslice, .sint .i64 (.var 10), .hollow] [.slice none 0 0, .int .i64 n1, .slice (some a2) 0 c2] := VRs_cons vr_nil (VRs_cons (vr_sint (i := 10) hn1 (by rw [r0.opq]; rfl)) (VRs_cons (vr_hollow a2 c2) (VRs_nil)))
  simp only [inK, i64min, i64max, u8min, u8max, u32min, u32max, u64min, u64max] at hn1
  refine calls_of_yesV sound tab0_ok specs0_ok overs0_ok c_nil_hol_y0 rfl (tellA_ok (allTold'_iff.1 ?_)) r0 hargs
  simp only [c_nil_hol_t0, om_0, om_1, om_2, om_10, om_20, om_21, om_22, om_f, allTold', dutiesTold, factsA, factsP, factsR, AV.facts, RW.facts, inK, and_true, Q.holds', E.i, E.s, E.n, D.nat, E.den, BO.den, UO.den, TO.den, D.toInt_int, D.toList_list, D.ints_ofInts, i64min, i64max, u8min, u8max, u16min, u16max, u32min, u32max, u64min, u64max, i32min, i32max, Om.sub, selI, ints_app, ints_cut, ints_upd, ints_rep, ints_splice, len_ints]
  first | done | omega | trivial

def c_nil_in_t0 : List (Q × Bool) := [((.fit .i64 (.var 20)), true),
  ((.eq (.var 20) (.int 1)), false)]
set_option maxRecDepth 100000 in
theorem c_nil_in_y0 : yesOf Try.prog (knownV (tellA c_nil_in_t0) tabP specsP oversP) 6000 60 8 [.nilslice, .sint .i64 (.var 10), .sslice 1 (.int 0) (.var 20) (.var 21) false] ((globSt g0).newO (.eseq ⟨.u8, .var 20, .var 22⟩)) = true := by kernel_rfl
def c_nil_in_t1 : List (Q × Bool) := [((.fit .i64 (.var 20)), true),
  ((.eq (.var 20) (.int 1)), true),
  ((.eq (.fn 7 (.bi .pair (.var 10) (.bi .pair (.int 4) (.int 0)))) (.int 0)), true),
  ((.le (.bi .mul (.bi .add (.var 20) (.int 4)) (.int 2)) (.int 281474976710656)), true),
  ((.fit .i64 (.bi .add (.var 20) (.int 4))), true),
  ((.le (.int 0) (.var 20)), true),
  ((.le (.var 20) (.bi .add (.var 20) (.int 4))), true),
  ((.le (.bi .add (.int 0) (.var 20)) (.bi .add (.var 20) (.int 4))), true),
  ((.le (.var 20) (.int 1000000)), true),
  ((.eq (.un (.wrap .u8) (.fn 2 (.bi .pair (.int 0) (.bi .pair (.bi .app (.lits [0, 0, 0, 0]) (.var 22)) (.bi .pair (.int 0) (.bi .pair (.bi .add (.int 0) (.var 20)) (.int 0))))))) (.bi .sel (.bi .app (.lits [0, 0, 0, 0]) (.var 22)) (.var 20))), false),
  ((.le (.bi .add (.int 0) (.int 0)) (.int 4)), true),
  ((.eq (.un (.wrap .u8) (.fn 2 (.bi .pair (.int 0) (.bi .pair (.lits [0, 0, 0, 0]) (.bi .pair (.int 0) (.bi .pair (.bi .add (.int 0) (.int 0)) (.int 0))))))) (.int 0)), true),
  ((.eq (.un (.wrap .u8) (.bi (.iop .shr .u32) (.fn 2 (.bi .pair (.int 0) (.bi .pair (.lits [0, 0, 0, 0]) (.bi .pair (.int 0) (.bi .pair (.bi .add (.int 0) (.int 0)) (.int 0)))))) (.int 8))) (.int 0)), true),
  ((.eq (.un (.wrap .u8) (.bi (.iop .shr .u32) (.fn 2 (.bi .pair (.int 0) (.bi .pair (.lits [0, 0, 0, 0]) (.bi .pair (.int 0) (.bi .pair (.bi .add (.int 0) (.int 0)) (.int 0)))))) (.int 16))) (.int 0)), true),
  ((.eq (.un (.wrap .u8) (.bi (.iop .shr .u32) (.fn 2 (.bi .pair (.int 0) (.bi .pair (.lits [0, 0, 0, 0]) (.bi .pair (.int 0) (.bi .pair (.bi .add (.int 0) (.int 0)) (.int 0)))))) (.int 24))) (.int 0)), true)]
set_option maxRecDepth 100000 in
theorem c_nil_in_y1 : yesOf Try.prog (knownV (tellA c_nil_in_t1) tabP specsP oversP) 6000 60 8 [.nilslice, .sint .i64 (.var 10), .sslice 1 (.int 0) (.var 20) (.var 21) false] ((globSt g0).newO (.eseq ⟨.u8, .var 20, .var 22⟩)) = true := by kernel_rfl
def c_nil_in_t2 : List (Q × Bool) := [((.fit .i64 (.var 20)), true),
  ((.eq (.var 20) (.int 1)), true),
  ((.eq (.fn 7 (.bi .pair (.var 10) (.bi .pair (.int 4) (.int 0)))) (.int 0)), false),
  ((.eq (.fn 7 (.bi .pair (.var 10) (.bi .pair (.int 4) (.int 0)))) (.int 1)), true),
  ((.le (.bi .mul (.bi .add (.var 20) (.int 4)) (.int 2)) (.int 281474976710656)), true),
  ((.fit .i64 (.bi .add (.var 20) (.int 4))), true),
  ((.le (.int 0) (.var 20)), true),
  ((.le (.var 20) (.bi .add (.var 20) (.int 4))), true),
  ((.le (.bi .add (.int 0) (.var 20)) (.bi .add (.var 20) (.int 4))), true),
  ((.le (.var 20) (.int 1000000)), true),
  ((.eq (.un (.wrap .u8) (.fn 2 (.bi .pair (.int 0) (.bi .pair (.bi .app (.lits [0, 0, 0, 0]) (.var 22)) (.bi .pair (.int 0) (.bi .pair (.bi .add (.int 0) (.var 20)) (.int 0))))))) (.bi .sel (.bi .app (.lits [0, 0, 0, 0]) (.var 22)) (.var 20))), false),
  ((.le (.bi .add (.int 0) (.int 0)) (.int 4)), true),
  ((.eq (.un (.wrap .u8) (.fn 2 (.bi .pair (.int 0) (.bi .pair (.lits [0, 0, 0, 0]) (.bi .pair (.int 0) (.bi .pair (.bi .add (.int 0) (.int 0)) (.int 0))))))) (.int 0)), true),
  ((.eq (.un (.wrap .u8) (.bi (.iop .shr .u32) (.fn 2 (.bi .pair (.int 0) (.bi .pair (.lits [0, 0, 0, 0]) (.bi .pair (.int 0) (.bi .pair (.bi .add (.int 0) (.int 0)) (.int 0)))))) (.int 8))) (.int 0)), true),
  ((.eq (.un (.wrap .u8) (.bi (.iop .shr .u32) (.fn 2 (.bi .pair (.int 0) (.bi .pair (.lits [0, 0, 0, 0]) (.bi .pair (.int 0) (.bi .pair (.bi .add (.int 0) (.int 0)) (.int 0)))))) (.int 16))) (.int 0)), true),
  ((.eq (.un (.wrap .u8) (.bi (.iop .shr .u32) (.fn 2 (.bi .pair (.int 0) (.bi .pair (.lits [0, 0, 0, 0]) (.bi .pair (.int 0) (.bi .pair (.bi .add (.int 0) (.int 0)) (.int 0)))))) (.int 24))) (.int 0)), true)]
set_option maxRecDepth 100000 in
theorem c_nil_in_y2 : yesOf Try.prog (knownV (tellA c_nil_in_t2) tabP specsP oversP) 6000 60 8 [.nilslice, .sint .i64 (.var 10), .sslice 1 (.int 0) (.var 20) (.var 21) false] ((globSt g0).newO (.eseq ⟨.u8, .var 20, .var 22⟩)) = true := by kernel_rfl
def c_nil_in_t3 : List (Q × Bool) := [((.fit .i64 (.var 20)), true),
  ((.eq (.var 20) (.int 1)), true),
  ((.eq (.fn 7 (.bi .pair (.var 10) (.bi .pair (.int 4) (.int 0)))) (.int 0)), false),
  ((.eq (.fn 7 (.bi .pair (.var 10) (.bi .pair (.int 4) (.int 0)))) (.int 1)), false),
  ((.eq (.fn 7 (.bi .pair (.var 10) (.bi .pair (.int 4) (.int 0)))) (.int 2)), true),
  ((.le (.bi .mul (.bi .add (.var 20) (.int 4)) (.int 2)) (.int 281474976710656)), true),
  ((.fit .i64 (.bi .add (.var 20) (.int 4))), true),
  ((.le (.int 0) (.var 20)), true),
  ((.le (.var 20) (.bi .add (.var 20) (.int 4))), true),
  ((.le (.bi .add (.int 0) (.var 20)) (.bi .add (.var 20) (.int 4))), true),
  ((.le (.var 20) (.int 1000000)), true),
  ((.eq (.un (.wrap .u8) (.fn 2 (.bi .pair (.int 0) (.bi .pair (.bi .app (.lits [0, 0, 0, 0]) (.var 22)) (.bi .pair (.int 0) (.bi .pair (.bi .add (.int 0) (.var 20)) (.int 0))))))) (.bi .sel (.bi .app (.lits [0, 0, 0, 0]) (.var 22)) (.var 20))), false),
  ((.le (.bi .add (.int 0) (.int 0)) (.int 4)), true),
  ((.eq (.un (.wrap .u8) (.fn 2 (.bi .pair (.int 0) (.bi .pair (.lits [0, 0, 0, 0]) (.bi .pair (.int 0) (.bi .pair (.bi .add (.int 0) (.int 0)) (.int 0))))))) (.int 0)), true),
  ((.eq (.un (.wrap .u8) (.bi (.iop .shr .u32) (.fn 2 (.bi .pair (.int 0) (.bi .pair (.lits [0, 0, 0, 0]) (.bi .pair (.int 0) (.bi .pair (.bi .add (.int 0) (.int 0)) (.int 0)))))) (.int 8))) (.int 0)), true),
  ((.eq (.un (.wrap .u8) (.bi (.iop .shr .u32) (.fn 2 (.bi .pair (.int 0) (.bi .pair (.lits [0, 0, 0, 0]) (.bi .pair (.int 0) (.bi .pair (.bi .add (.int 0) (.int 0)) (.int 0)))))) (.int 16))) (.int 0)), true),
  ((.eq (.un (.wrap .u8) (.bi (.iop .shr .u32) (.fn 2 (.bi .pair (.int 0) (.bi .pair (.lits [0, 0, 0, 0]) (.bi .pair (.int 0) (.bi .pair (.bi .add (.int 0) (.int 0)) (.int 0)))))) (.int 24))) (.int 0)), true)]
set_option maxRecDepth 100000 in
theorem c_nil_in_y3 : yesOf Try.prog (knownV (tellA c_nil_in_t3) tabP specsP oversP) 6000 60 8 [.nilslice, .sint .i64 (.var 10), .sslice 1 (.int 0) (.var 20) (.var 21) false] ((globSt g0).newO (.eseq ⟨.u8, .var 20, .var 22⟩)) = true := by kernel_rfl
def c_nil_in_t4 : List (Q × Bool) := [((.fit .i64 (.var 20)), true),
  ((.eq (.var 20) (.int 1)), true),
  ((.eq (.fn 7 (.bi .pair (.var 10) (.bi .pair (.int 4) (.int 0)))) (.int 0)), false),
  ((.eq (.fn 7 (.bi .pair (.var 10) (.bi .pair (.int 4) (.int 0)))) (.int 1)), false),
  ((.eq (.fn 7 (.bi .pair (.var 10) (.bi .pair (.int 4) (.int 0)))) (.int 2)), false),
  ((.eq (.fn 7 (.bi .pair (.var 10) (.bi .pair (.int 4) (.int 0)))) (.int 3)), true),
  ((.le (.bi .mul (.bi .add (.var 20) (.int 4)) (.int 2)) (.int 281474976710656)), true),
  ((.fit .i64 (.bi .add (.var 20) (.int 4))), true),
  ((.le (.int 0) (.var 20)), true),
  ((.le (.var 20) (.bi .add (.var 20) (.int 4))), true),
  ((.le (.bi .add (.int 0) (.var 20)) (.bi .add (.var 20) (.int 4))), true),
  ((.le (.var 20) (.int 1000000)), true),
  ((.eq (.un (.wrap .u8) (.fn 2 (.bi .pair (.int 0) (.bi .pair (.bi .app (.lits [0, 0, 0, 0]) (.var 22)) (.bi .pair (.int 0) (.bi .pair (.bi .add (.int 0) (.var 20)) (.int 0))))))) (.bi .sel (.bi .app (.lits [0, 0, 0, 0]) (.var 22)) (.var 20))), false),
  ((.le (.bi .add (.int 0) (.int 0)) (.int 4)), true),
  ((.eq (.un (.wrap .u8) (.fn 2 (.bi .pair (.int 0) (.bi .pair (.lits [0, 0, 0, 0]) (.bi .pair (.int 0) (.bi .pair (.bi .add (.int 0) (.int 0)) (.int 0))))))) (.int 0)), true),
  ((.eq (.un (.wrap .u8) (.bi (.iop .shr .u32) (.fn 2 (.bi .pair (.int 0) (.bi .pair (.lits [0, 0, 0, 0]) (.bi .pair (.int 0) (.bi .pair (.bi .add (.int 0) (.int 0)) (.int 0)))))) (.int 8))) (.int 0)), true),
  ((.eq (.un (.wrap .u8) (.bi (.iop .shr .u32) (.fn 2 (.bi .pair (.int 0) (.bi .pair (.lits [0, 0, 0, 0]) (.bi .pair (.int 0) (.bi .pair (.bi .add (.int 0) (.int 0)) (.int 0)))))) (.int 16))) (.int 0)), true),
  ((.eq (.un (.wrap .u8) (.bi (.iop .shr .u32) (.fn 2 (.bi .pair (.int 0) (.bi .pair (.lits [0, 0, 0, 0]) (.bi .pair (.int 0) (.bi .pair (.bi .add (.int 0) (.int 0)) (.int 0)))))) (.int 24))) (.int 0)), true)]
set_option maxRecDepth 100000 in
theorem c_nil_in_y4 : yesOf Try.prog (knownV (tellA c_nil_in_t4) tabP specsP oversP) 6000 60 8 [.nilslice, .sint .i64 (.var 10), .sslice 1 (.int 0) (.var 20) (.var 21) false] ((globSt g0).newO (.eseq ⟨.u8, .var 20, .var 22⟩)) = true := by kernel_rfl
theorem c_nil_in_walk {W : World} {n1 : Int} (hn1 : inK .i64 n1) {v2 : Value} {b2 off2 len2 cap2 : Nat} {zs2 : List Int} (h2 : InSlice W .u8 v2 b2 off2 len2 cap2 zs2) (hG : GlobsR (om 0 0 [] n1 len2 cap2 zs2) W g0) : Calls Try.prog 8 #[.slice none 0 0, .int .i64 n1, v2] W fun e w' => e = .returned (.bool true) ∧ Below W.heap.size W w' := by
  have r0 := Rel.globs (om 0 0 [] n1 len2 cap2 zs2) W g0 hG
  obtain ⟨le2, r1, x2⟩ := h2.open r0 (l := 20) (c := 21) (x := 22) rfl rfl rfl
  have pos2 := h2.pos
  have lec2 := h2.le
  have max2 := h2.max
  have zl2 := h2.len
  have rng2 := h2.rng
  have hargs : VRs _ [.nilslice, .sint .i64 (.var 10), .sslice 1 (.int 0) (.var 20) (.var 21) false] [.slice none 0 0, .int .i64 n1, v2] := VRs_cons vr_nil (VRs_cons (vr_sint (i := 10) hn1 (by rw [r1.opq]; rfl)) (VRs_cons x2 (VRs_nil)))
  simp only [inK, i64min, i64max, u8min, u8max, u32min, u32max, u64min, u64max] at hn1
  by_cases h : len2 = 1
  · have hk : n1 % 4 = 0 ∨ n1 % 4 = 1 ∨ n1 % 4 = 2 ∨ n1 % 4 = 3 := by omega
    have k1 : prt ([0, 0, 0, 0] ++ zs2) 0 (len2 : Int) = [0] := by rw [h]; rfl
    have k2 : (([0, 0, 0, 0] ++ zs2)[Int.toNat (len2 : Int)]?).getD 0 = 0 := by rw [h]; rfl
    rcases hk with hk | hk | hk | hk
    · refine calls_of_yesV sound tabP_ok specsP_ok oversP_ok c_nil_in_y1 rfl (tellA_ok (allTold'_iff.1 ?_)) r1 hargs
      simp only [c_nil_in_t1, om_0, om_1, om_2, om_10, om_20, om_21, om_22, om_f, F2, F7, Int.zero_add, selApp, allTold', dutiesTold, factsA, factsP, factsR, AV.facts, RW.facts, inK, and_true, Q.holds', E.i, E.s, E.n, D.nat, E.den, BO.den, UO.den, TO.den, D.toInt_int, D.toList_list, D.ints_ofInts, i64min, i64max, u8min, u8max, u16min, u16max, u32min, u32max, u64min, u64max, i32min, i32max, Om.sub, selI, ints_app, ints_cut, ints_upd, ints_rep, ints_splice, len_ints]
      simp only [k1, k2, k3, hk, prt0, more_nil, not0, wrap0, shr0.1, shr0.2.1, shr0.2.2, and_true, true_and, ne_eq]
      omega
    · refine calls_of_yesV sound tabP_ok specsP_ok oversP_ok c_nil_in_y2 rfl (tellA_ok (allTold'_iff.1 ?_)) r1 hargs
      simp only [c_nil_in_t2, om_0, om_1, om_2, om_10, om_20, om_21, om_22, om_f, F2, F7, Int.zero_add, selApp, allTold', dutiesTold, factsA, factsP, factsR, AV.facts, RW.facts, inK, and_true, Q.holds', E.i, E.s, E.n, D.nat, E.den, BO.den, UO.den, TO.den, D.toInt_int, D.toList_list, D.ints_ofInts, i64min, i64max, u8min, u8max, u16min, u16max, u32min, u32max, u64min, u64max, i32min, i32max, Om.sub, selI, ints_app, ints_cut, ints_upd, ints_rep, ints_splice, len_ints]
      simp only [k1, k2, k3, hk, prt0, more_nil, not0, wrap0, shr0.1, shr0.2.1, shr0.2.2, and_true, true_and, ne_eq]
      omega
    · refine calls_of_yesV sound tabP_ok specsP_ok oversP_ok c_nil_in_y3 rfl (tellA_ok (allTold'_iff.1 ?_)) r1 hargs
      simp only [c_nil_in_t3, om_0, om_1, om_2, om_10, om_20, om_21, om_22, om_f, F2, F7, Int.zero_add, selApp, allTold', dutiesTold, factsA, factsP, factsR, AV.facts, RW.facts, inK, and_true, Q.holds', E.i, E.s, E.n, D.nat, E.den, BO.den, UO.den, TO.den, D.toInt_int, D.toList_list, D.ints_ofInts, i64min, i64max, u8min, u8max, u16min, u16max, u32min, u32max, u64min, u64max, i32min, i32max, Om.sub, selI, ints_app, ints_cut, ints_upd, ints_rep, ints_splice, len_ints]
      simp only [k1, k2, k3, hk, prt0, more_nil, not0, wrap0, shr0.1, shr0.2.1, shr0.2.2, and_true, true_and, ne_eq]
      omega
    · refine calls_of_yesV sound tabP_ok specsP_ok oversP_ok c_nil_in_y4 rfl (tellA_ok (allTold'_iff.1 ?_)) r1 hargs
      simp only [c_nil_in_t4, om_0, om_1, om_2, om_10, om_20, om_21, om_22, om_f, F2, F7, Int.zero_add, selApp, allTold', dutiesTold, factsA, factsP, factsR, AV.facts, RW.facts, inK, and_true, Q.holds', E.i, E.s, E.n, D.nat, E.den, BO.den, UO.den, TO.den, D.toInt_int, D.toList_list, D.ints_ofInts, i64min, i64max, u8min, u8max, u16min, u16max, u32min, u32max, u64min, u64max, i32min, i32max, Om.sub, selI, ints_app, ints_cut, ints_upd, ints_rep, ints_splice, len_ints]
      simp only [k1, k2, k3, hk, prt0, more_nil, not0, wrap0, shr0.1, shr0.2.1, shr0.2.2, and_true, true_and, ne_eq]
      omega
  · refine calls_of_yesV sound tabP_ok specsP_ok oversP_ok c_nil_in_y0 rfl (tellA_ok (allTold'_iff.1 ?_)) r1 hargs
    simp only [c_nil_in_t0, om_0, om_1, om_2, om_10, om_20, om_21, om_22, om_f, allTold', dutiesTold, factsA, factsP, factsR, AV.facts, RW.facts, inK, and_true, Q.holds', E.i, E.s, E.n, D.nat, E.den, BO.den, UO.den, TO.den, D.toInt_int, D.toList_list, D.ints_ofInts, i64min, i64max, u8min, u8max, u16min, u16max, u32min, u32max, u64min, u64max, i32min, i32max, Om.sub, selI, ints_app, ints_cut, ints_upd, ints_rep, ints_splice, len_ints]
    omega

def c_hol_nil_t0 : List (Q × Bool) := []
set_option maxRecDepth 100000 in
theorem c_hol_nil_y0 : yesOf Try.prog (knownV (tellA c_hol_nil_t0) tab0 specs0 overs0) 6000 60 8 [.hollow, .sint .i64 (.var 10), .nilslice] (globSt g0) = true := by kernel_rfl
theorem c_hol_nil_walk {W : World} (a0 : Addr) (c0 : Nat) {n1 : Int} (hn1 : inK .i64 n1) (hG : GlobsR (om 0 0 [] n1 0 0 []) W g0) : Calls Try.prog 8 #[.slice (some a0) 0 c0, .int .i64 n1, .slice none 0 0] W fun e w' => e = .returned (.bool true) ∧ Below W.heap.size W w' := by
  have r0 := Rel.globs (om 0 0 [] n1 0 0 []) W g0 hG
  have hargs : VRs (Env.none (om 0 0 [] n1 0 0 [])) [.hollow, .sint .i64 (.var 10), .nilslice] [.slice (some a0) 0 c0, .int .i64 n1, .slice none 0 0] := VRs_cons (vr_hollow a0 c0) (VRs_cons (vr_sint (i := 10) hn1 (by rw [r0.opq]; rfl)) (VRs_cons vr_nil (VRs_nil)))
  simp only [inK, i64min, i64max, u8min, u8max, u32min, u32max, u64min, u64max] at hn1
  refine calls_of_yesV sound tab0_ok specs0_ok overs0_ok c_hol_nil_y0 rfl (tellA_ok (allTold'_iff.1 ?_)) r0 hargs
  simp only [c_hol_nil_t0, om_0, om_1, om_2, om_10, om_20, om_21, om_22, om_f, allTold', dutiesTold, factsA, factsP, factsR, AV.facts, RW.facts, inK, and_true, Q.holds', E.i, E.s, E.n, D.nat, E.den, BO.den, UO.den, TO.den, D.toInt_int, D.toList_list, D.ints_ofInts, i64min, i64max, u8min, u8max, u16min, u16max, u32min, u32max, u64min, u64max, i32min, i32max, Om.sub, selI, ints_app, ints_cut, ints_upd, ints_rep, ints_splice, len_ints]
  first | done | omega | trivial

def c_hol_hol_t0 : List (Q × Bool) := []
set_option maxRecDepth 100000 in
theorem c_hol_hol_y0 : yesOf Try.prog (knownV (tellA c_hol_hol_t0) tab0 specs0 overs0) 6000 60 8 [.hollow, .sint .i64 (.var 10), .hollow] (globSt g0) = true := by kernel_rfl
theorem c_hol_hol_walk {W : World} (a0 : Addr) (c0 : Nat) {n1 : Int} (hn1 : inK .i64 n1) (a2 : Addr) (c2 : Nat) (hG : GlobsR (om 0 0 [] n1 0 0 []) W g0) : Calls Try.prog 8 #[.slice (some a0) 0 c0, .int .i64 n1, .slice (some a2) 0 c2] W fun e w' => e = .returned (.bool true) ∧ Below W.heap.size W w' := by
  have r0 := Rel.globs (om 0 0 [] n1 0 0 []) W g0 hG
  have hargs : VRs (Env.none (om 0 0 [] n1 0 0 [])) [.hollow, .sint .i64 (.var 10), .hollow] [.slice (some a0) 0 c0, .int .i64 n1, .slice (some a2) 0 c2] := VRs_cons (vr_hollow a0 c0) (VRs_cons (vr_sint (i := 10) hn1 (by rw [r0.opq]; rfl)) (VRs_cons (vr_hollow a2 c2) (VRs_nil)))
  simp only [inK, i64min, i64max, u8min, u8max, u32min, u32max, u64min, u64max] at hn1
  refine calls_of_yesV sound tab0_ok specs0_ok overs0_ok c_hol_hol_y0 rfl (tellA_ok (allTold'_iff.1 ?_)) r0 hargs
  simp only [c_hol_hol_t0, om_0, om_1, om_2, om_10, om_20, om_21, om_22, om_f, allTold', dutiesTold, factsA, factsP, factsR, AV.facts, RW.facts, inK, and_true, Q.holds', E.i, E.s, E.n, D.nat, E.den, BO.den, UO.den, TO.den, D.toInt_int, D.toList_list, D.ints_ofInts, i64min, i64max, u8min, u8max, u16min, u16max, u32min, u32max, u64min, u64max, i32min, i32max, Om.sub, selI, ints_app, ints_cut, ints_upd, ints_rep, ints_splice, len_ints]
  first | done | omega | trivial

def c_hol_in_t0 : List (Q × Bool) := [((.fit .i64 (.var 20)), true),
  ((.eq (.var 20) (.int 1)), false)]
set_option maxRecDepth 100000 in
theorem c_hol_in_y0 : yesOf Try.prog (knownV (tellA c_hol_in_t0) tabP specsP oversP) 6000 60 8 [.hollow, .sint .i64 (.var 10), .sslice 1 (.int 0) (.var 20) (.var 21) false] ((globSt g0).newO (.eseq ⟨.u8, .var 20, .var 22⟩)) = true := by kernel_rfl
def c_hol_in_t1 : List (Q × Bool) := [((.fit .i64 (.var 20)), true),
  ((.eq (.var 20) (.int 1)), true),
  ((.eq (.fn 7 (.bi .pair (.var 10) (.bi .pair (.int 4) (.int 0)))) (.int 0)), true),
  ((.le (.bi .mul (.bi .add (.var 20) (.int 4)) (.int 2)) (.int 281474976710656)), true),
  ((.fit .i64 (.bi .add (.var 20) (.int 4))), true),
  ((.le (.int 0) (.var 20)), true),
  ((.le (.var 20) (.bi .add (.var 20) (.int 4))), true),
  ((.le (.bi .add (.int 0) (.var 20)) (.bi .add (.var 20) (.int 4))), true),
  ((.le (.var 20) (.int 1000000)), true),
  ((.eq (.un (.wrap .u8) (.fn 2 (.bi .pair (.int 0) (.bi .pair (.bi .app (.lits [0, 0, 0, 0]) (.var 22)) (.bi .pair (.int 0) (.bi .pair (.bi .add (.int 0) (.var 20)) (.int 0))))))) (.bi .sel (.bi .app (.lits [0, 0, 0, 0]) (.var 22)) (.var 20))), false),
  ((.le (.bi .add (.int 0) (.int 0)) (.int 4)), true),
  ((.eq (.un (.wrap .u8) (.fn 2 (.bi .pair (.int 0) (.bi .pair (.lits [0, 0, 0, 0]) (.bi .pair (.int 0) (.bi .pair (.bi .add (.int 0) (.int 0)) (.int 0))))))) (.int 0)), true),
  ((.eq (.un (.wrap .u8) (.bi (.iop .shr .u32) (.fn 2 (.bi .pair (.int 0) (.bi .pair (.lits [0, 0, 0, 0]) (.bi .pair (.int 0) (.bi .pair (.bi .add (.int 0) (.int 0)) (.int 0)))))) (.int 8))) (.int 0)), true),
  ((.eq (.un (.wrap .u8) (.bi (.iop .shr .u32) (.fn 2 (.bi .pair (.int 0) (.bi .pair (.lits [0, 0, 0, 0]) (.bi .pair (.int 0) (.bi .pair (.bi .add (.int 0) (.int 0)) (.int 0)))))) (.int 16))) (.int 0)), true),
  ((.eq (.un (.wrap .u8) (.bi (.iop .shr .u32) (.fn 2 (.bi .pair (.int 0) (.bi .pair (.lits [0, 0, 0, 0]) (.bi .pair (.int 0) (.bi .pair (.bi .add (.int 0) (.int 0)) (.int 0)))))) (.int 24))) (.int 0)), true)]
set_option maxRecDepth 100000 in
theorem c_hol_in_y1 : yesOf Try.prog (knownV (tellA c_hol_in_t1) tabP specsP oversP) 6000 60 8 [.hollow, .sint .i64 (.var 10), .sslice 1 (.int 0) (.var 20) (.var 21) false] ((globSt g0).newO (.eseq ⟨.u8, .var 20, .var 22⟩)) = true := by kernel_rfl
def c_hol_in_t2 : List (Q × Bool) := [((.fit .i64 (.var 20)), true),
  ((.eq (.var 20) (.int 1)), true),
  ((.eq (.fn 7 (.bi .pair (.var 10) (.bi .pair (.int 4) (.int 0)))) (.int 0)), false),
  ((.eq (.fn 7 (.bi .pair (.var 10) (.bi .pair (.int 4) (.int 0)))) (.int 1)), true),
  ((.le (.bi .mul (.bi .add (.var 20) (.int 4)) (.int 2)) (.int 281474976710656)), true),
  ((.fit .i64 (.bi .add (.var 20) (.int 4))), true),
  ((.le (.int 0) (.var 20)), true),
  ((.le (.var 20) (.bi .add (.var 20) (.int 4))), true),
  ((.le (.bi .add (.int 0) (.var 20)) (.bi .add (.var 20) (.int 4))), true),
  ((.le (.var 20) (.int 1000000)), true),
  ((.eq (.un (.wrap .u8) (.fn 2 (.bi .pair (.int 0) (.bi .pair (.bi .app (.lits [0, 0, 0, 0]) (.var 22)) (.bi .pair (.int 0) (.bi .pair (.bi .add (.int 0) (.var 20)) (.int 0))))))) (.bi .sel (.bi .app (.lits [0, 0, 0, 0]) (.var 22)) (.var 20))), false),
  ((.le (.bi .add (.int 0) (.int 0)) (.int 4)), true),
  ((.eq (.un (.wrap .u8) (.fn 2 (.bi .pair (.int 0) (.bi .pair (.lits [0, 0, 0, 0]) (.bi .pair (.int 0) (.bi .pair (.bi .add (.int 0) (.int 0)) (.int 0))))))) (.int 0)), true),
  ((.eq (.un (.wrap .u8) (.bi (.iop .shr .u32) (.fn 2 (.bi .pair (.int 0) (.bi .pair (.lits [0, 0, 0, 0]) (.bi .pair (.int 0) (.bi .pair (.bi .add (.int 0) (.int 0)) (.int 0)))))) (.int 8))) (.int 0)), true),
  ((.eq (.un (.wrap .u8) (.bi (.iop .shr .u32) (.fn 2 (.bi .pair (.int 0) (.bi .pair (.lits [0, 0, 0, 0]) (.bi .pair (.int 0) (.bi .pair (.bi .add (.int 0) (.int 0)) (.int 0)))))) (.int 16))) (.int 0)), true),
  ((.eq (.un (.wrap .u8) (.bi (.iop .shr .u32) (.fn 2 (.bi .pair (.int 0) (.bi .pair (.lits [0, 0, 0, 0]) (.bi .pair (.int 0) (.bi .pair (.bi .add (.int 0) (.int 0)) (.int 0)))))) (.int 24))) (.int 0)), true)]
set_option maxRecDepth 100000 in
theorem c_hol_in_y2 : yesOf Try.prog (knownV (tellA c_hol_in_t2) tabP specsP oversP) 6000 60 8 [.hollow, .sint .i64 (.var 10), .sslice 1 (.int 0) (.var 20) (.var 21) false] ((globSt g0).newO (.eseq ⟨.u8, .var 20, .var 22⟩)) = true := by kernel_rfl
def c_hol_in_t3 : List (Q × Bool) := [((.fit .i64 (.var 20)), true),
  ((.eq (.var 20) (.int 1)), true),
  ((.eq (.fn 7 (.bi .pair (.var 10) (.bi .pair (.int 4) (.int 0)))) (.int 0)), false),
  ((.eq (.fn 7 (.bi .pair (.var 10) (.bi .pair (.int 4) (.int 0)))) (.int 1)), false),
  ((.eq (.fn 7 (.bi .pair (.var 10) (.bi .pair (.int 4) (.int 0)))) (.int 2)), true),
  ((.le (.bi .mul (.bi .add (.var 20) (.int 4)) (.int 2)) (.int 281474976710656)), true),
  ((.fit .i64 (.bi .add (.var 20) (.int 4))), true),
  ((.le (.int 0) (.var 20)), true),
  ((.le (.var 20) (.bi .add (.var 20) (.int 4))), true),
  ((.le (.bi .add (.int 0) (.var 20)) (.bi .add (.var 20) (.int 4))), true),
  ((.le (.var 20) (.int 1000000)), true),
  ((.eq (.un (.wrap .u8) (.fn 2 (.bi .pair (.int 0) (.bi .pair (.bi .app (.lits [0, 0, 0, 0]) (.var 22)) (.bi .pair (.int 0) (.bi .pair (.bi .add (.int 0) (.var 20)) (.int 0))))))) (.bi .sel (.bi .app (.lits [0, 0, 0, 0]) (.var 22)) (.var 20))), false),
  ((.le (.bi .add (.int 0) (.int 0)) (.int 4)), true),
  ((.eq (.un (.wrap .u8) (.fn 2 (.bi .pair (.int 0) (.bi .pair (.lits [0, 0, 0, 0]) (.bi .pair (.int 0) (.bi .pair (.bi .add (.int 0) (.int 0)) (.int 0))))))) (.int 0)), true),
  ((.eq (.un (.wrap .u8) (.bi (.iop .shr .u32) (.fn 2 (.bi .pair (.int 0) (.bi .pair (.lits [0, 0, 0, 0]) (.bi .pair (.int 0) (.bi .pair (.bi .add (.int 0) (.int 0)) (.int 0)))))) (.int 8))) (.int 0)), true),
  ((.eq (.un (.wrap .u8) (.bi (.iop .shr .u32) (.fn 2 (.bi .pair (.int 0) (.bi .pair (.lits [0, 0, 0, 0]) (.bi .pair (.int 0) (.bi .pair (.bi .add (.int 0) (.int 0)) (.int 0)))))) (.int 16))) (.int 0)), true),
  ((.eq (.un (.wrap .u8) (.bi (.iop .shr .u32) (.fn 2 (.bi .pair (.int 0) (.bi .pair (.lits [0, 0, 0, 0]) (.bi .pair (.int 0) (.bi .pair (.bi .add (.int 0) (.int 0)) (.int 0)))))) (.int 24))) (.int 0)), true)]
set_option maxRecDepth 100000 in
theorem c_hol_in_y3 : yesOf Try.prog (knownV (tellA c_hol_in_t3) tabP specsP oversP) 6000 60 8 [.hollow, .sint .i64 (.var 10), .sslice 1 (.int 0) (.var 20) (.var 21) false] ((globSt g0).newO (.eseq ⟨.u8, .var 20, .var 22⟩)) = true := by kernel_rfl
def c_hol_in_t4 : List (Q × Bool) := [((.fit .i64 (.var 20)), true),
  ((.eq (.var 20) (.int 1)), true),
  ((.eq (.fn 7 (.bi .pair (.var 10) (.bi .pair (.int 4) (.int 0)))) (.int 0)), false),
  ((.eq (.fn 7 (.bi .pair (.var 10) (.bi .pair (.int 4) (.int 0)))) (.int 1)), false),
  ((.eq (.fn 7 (.bi .pair (.var 10) (.bi .pair (.int 4) (.int 0)))) (.int 2)), false),
  ((.eq (.fn 7 (.bi .pair (.var 10) (.bi .pair (.int 4) (.int 0)))) (.int 3)), true),
  ((.le (.bi .mul (.bi .add (.var 20) (.int 4)) (.int 2)) (.int 281474976710656)), true),
  ((.fit .i64 (.bi .add (.var 20) (.int 4))), true),
  ((.le (.int 0) (.var 20)), true),
  ((.le (.var 20) (.bi .add (.var 20) (.int 4))), true),
  ((.le (.bi .add (.int 0) (.var 20)) (.bi .add (.var 20) (.int 4))), true),
  ((.le (.var 20) (.int 1000000)), true),
  ((.eq (.un (.wrap .u8) (.fn 2 (.bi .pair (.int 0) (.bi .pair (.bi .app (.lits [0, 0, 0, 0]) (.var 22)) (.bi .pair (.int 0) (.bi .pair (.bi .add (.int 0) (.var 20)) (.int 0))))))) (.bi .sel (.bi .app (.lits [0, 0, 0, 0]) (.var 22)) (.var 20))), false),
  ((.le (.bi .add (.int 0) (.int 0)) (.int 4)), true),
  ((.eq (.un (.wrap .u8) (.fn 2 (.bi .pair (.int 0) (.bi .pair (.lits [0, 0, 0, 0]) (.bi .pair (.int 0) (.bi .pair (.bi .add (.int 0) (.int 0)) (.int 0))))))) (.int 0)), true),
  ((.eq (.un (.wrap .u8) (.bi (.iop .shr .u32) (.fn 2 (.bi .pair (.int 0) (.bi .pair (.lits [0, 0, 0, 0]) (.bi .pair (.int 0) (.bi .pair (.bi .add (.int 0) (.int 0)) (.int 0)))))) (.int 8))) (.int 0)), true),
  ((.eq (.un (.wrap .u8) (.bi (.iop .shr .u32) (.fn 2 (.bi .pair (.int 0) (.bi .pair (.lits [0, 0, 0, 0]) (.bi .pair (.int 0) (.bi .pair (.bi .add (.int 0) (.int 0)) (.int 0)))))) (.int 16))) (.int 0)), true),
  ((.eq (.un (.wrap .u8) (.bi (.iop .shr .u32) (.fn 2 (.bi .pair (.int 0) (.bi .pair (.lits [0, 0, 0, 0]) (.bi .pair (.int 0) (.bi .pair (.bi .add (.int 0) (.int 0)) (.int 0)))))) (.int 24))) (.int 0)), true)]
set_option maxRecDepth 100000 in
theorem c_hol_in_y4 : yesOf Try.prog (knownV (tellA c_hol_in_t4) tabP specsP oversP) 6000 60 8 [.hollow, .sint .i64 (.var 10), .sslice 1 (.int 0) (.var 20) (.var 21) false] ((globSt g0).newO (.eseq ⟨.u8, .var 20, .var 22⟩)) = true := by kernel_rfl
theorem c_hol_in_walk {W : World} (a0 : Addr) (c0 : Nat) {n1 : Int} (hn1 : inK .i64 n1) {v2 : Value} {b2 off2 len2 cap2 : Nat} {zs2 : List Int} (h2 : InSlice W .u8 v2 b2 off2 len2 cap2 zs2) (hG : GlobsR (om 0 0 [] n1 len2 cap2 zs2) W g0) : Calls Try.prog 8 #[.slice (some a0) 0 c0, .int .i64 n1, v2] W fun e w' => e = .returned (.bool true) ∧ Below W.heap.size W w' := by
  have r0 := Rel.globs (om 0 0 [] n1 len2 cap2 zs2) W g0 hG
  obtain ⟨le2, r1, x2⟩ := h2.open r0 (l := 20) (c := 21) (x := 22) rfl rfl rfl
  have pos2 := h2.pos
  have lec2 := h2.le
  have max2 := h2.max
  have zl2 := h2.len
  have rng2 := h2.rng
  have hargs : VRs _ [.hollow, .sint .i64 (.var 10), .sslice 1 (.int 0) (.var 20) (.var 21) false] [.slice (some a0) 0 c0, .int .i64 n1, v2] := VRs_cons (vr_hollow a0 c0) (VRs_cons (vr_sint (i := 10) hn1 (by rw [r1.opq]; rfl)) (VRs_cons x2 (VRs_nil)))
  simp only [inK, i64min, i64max, u8min, u8max, u32min, u32max, u64min, u64max] at hn1
  by_cases h : len2 = 1
  · have hk : n1 % 4 = 0 ∨ n1 % 4 = 1 ∨ n1 % 4 = 2 ∨ n1 % 4 = 3 := by omega
    have k1 : prt ([0, 0, 0, 0] ++ zs2) 0 (len2 : Int) = [0] := by rw [h]; rfl
    have k2 : (([0, 0, 0, 0] ++ zs2)[Int.toNat (len2 : Int)]?).getD 0 = 0 := by rw [h]; rfl
    rcases hk with hk | hk | hk | hk
    · refine calls_of_yesV sound tabP_ok specsP_ok oversP_ok c_hol_in_y1 rfl (tellA_ok (allTold'_iff.1 ?_)) r1 hargs
      simp only [c_hol_in_t1, om_0, om_1, om_2, om_10, om_20, om_21, om_22, om_f, F2, F7, Int.zero_add, selApp, allTold', dutiesTold, factsA, factsP, factsR, AV.facts, RW.facts, inK, and_true, Q.holds', E.i, E.s, E.n, D.nat, E.den, BO.den, UO.den, TO.den, D.toInt_int, D.toList_list, D.ints_ofInts, i64min, i64max, u8min, u8max, u16min, u16max, u32min, u32max, u64min, u64max, i32min, i32max, Om.sub, selI, ints_app, ints_cut, ints_upd, ints_rep, ints_splice, len_ints]
      simp only [k1, k2, k3, hk, prt0, more_nil, not0, wrap0, shr0.1, shr0.2.1, shr0.2.2, and_true, true_and, ne_eq]
      omega
    · refine calls_of_yesV sound tabP_ok specsP_ok oversP_ok c_hol_in_y2 rfl (tellA_ok (allTold'_iff.1 ?_)) r1 hargs
      simp only [c_hol_in_t2, om_0, om_1, om_2, om_10, om_20, om_21, om_22, om_f, F2, F7, Int.zero_add, selApp, allTold', dutiesTold, factsA, factsP, factsR, AV.facts, RW.facts, inK, and_true, Q.holds', E.i, E.s, E.n, D.nat, E.den, BO.den, UO.den, TO.den, D.toInt_int, D.toList_list, D.ints_ofInts, i64min, i64max, u8min, u8max, u16min, u16max, u32min, u32max, u64min, u64max, i32min, i32max, Om.sub, selI, ints_app, ints_cut, ints_upd, ints_rep, ints_splice, len_ints]
      simp only [k1, k2, k3, hk, prt0, more_nil, not0, wrap0, shr0.1, shr0.2.1, shr0.2.2, and_true, true_and, ne_eq]
      omega
    · refine calls_of_yesV sound tabP_ok specsP_ok oversP_ok c_hol_in_y3 rfl (tellA_ok (allTold'_iff.1 ?_)) r1 hargs
      simp only [c_hol_in_t3, om_0, om_1, om_2, om_10, om_20, om_21, om_22, om_f, F2, F7, Int.zero_add, selApp, allTold', dutiesTold, factsA, factsP, factsR, AV.facts, RW.facts, inK, and_true, Q.holds', E.i, E.s, E.n, D.nat, E.den, BO.den, UO.den, TO.den, D.toInt_int, D.toList_list, D.ints_ofInts, i64min, i64max, u8min, u8max, u16min, u16max, u32min, u32max, u64min, u64max, i32min, i32max, Om.sub, selI, ints_app, ints_cut, ints_upd, ints_rep, ints_splice, len_ints]
      simp only [k1, k2, k3, hk, prt0, more_nil, not0, wrap0, shr0.1, shr0.2.1, shr0.2.2, and_true, true_and, ne_eq]
      omega
    · refine calls_of_yesV sound tabP_ok specsP_ok oversP_ok c_hol_in_y4 rfl (tellA_ok (allTold'_iff.1 ?_)) r1 hargs
      simp only [c_hol_in_t4, om_0, om_1, om_2, om_10, om_20, om_21, om_22, om_f, F2, F7, Int.zero_add, selApp, allTold', dutiesTold, factsA, factsP, factsR, AV.facts, RW.facts, inK, and_true, Q.holds', E.i, E.s, E.n, D.nat, E.den, BO.den, UO.den, TO.den, D.toInt_int, D.toList_list, D.ints_ofInts, i64min, i64max, u8min, u8max, u16min, u16max, u32min, u32max, u64min, u64max, i32min, i32max, Om.sub, selI, ints_app, ints_cut, ints_upd, ints_rep, ints_splice, len_ints]
      simp only [k1, k2, k3, hk, prt0, more_nil, not0, wrap0, shr0.1, shr0.2.1, shr0.2.2, and_true, true_and, ne_eq]
      omega
  · refine calls_of_yesV sound tabP_ok specsP_ok oversP_ok c_hol_in_y0 rfl (tellA_ok (allTold'_iff.1 ?_)) r1 hargs
    simp only [c_hol_in_t0, om_0, om_1, om_2, om_10, om_20, om_21, om_22, om_f, allTold', dutiesTold, factsA, factsP, factsR, AV.facts, RW.facts, inK, and_true, Q.holds', E.i, E.s, E.n, D.nat, E.den, BO.den, UO.den, TO.den, D.toInt_int, D.toList_list, D.ints_ofInts, i64min, i64max, u8min, u8max, u16min, u16max, u32min, u32max, u64min, u64max, i32min, i32max, Om.sub, selI, ints_app, ints_cut, ints_upd, ints_rep, ints_splice, len_ints]
    omega

def c_in_nil_t0 : List (Q × Bool) := [((.fit .i64 (.var 0)), true),
  ((.le (.var 0) (.int 1000)), false)]
set_option maxRecDepth 100000 in
theorem c_in_nil_y0 : yesOf Try.prog (knownV (tellA c_in_nil_t0) tabM specsM oversM) 6000 60 8 [.sslice 1 (.int 0) (.var 0) (.var 1) false, .sint .i64 (.var 10), .nilslice] ((globSt g0).newO (.eseq ⟨.u8, .var 0, .var 2⟩)) = true := by kernel_rfl
def c_in_nil_t1 : List (Q × Bool) := [((.fit .i64 (.var 0)), true),
  ((.le (.var 0) (.int 1000)), true)]
set_option maxRecDepth 100000 in
theorem c_in_nil_y1 : yesOf Try.prog (knownV (tellA c_in_nil_t1) tabM specsM oversM) 6000 60 8 [.sslice 1 (.int 0) (.var 0) (.var 1) false, .sint .i64 (.var 10), .nilslice] ((globSt g0).newO (.eseq ⟨.u8, .var 0, .var 2⟩)) = true := by kernel_rfl
theorem c_in_nil_walk {W : World} {v0 : Value} {b0 off0 len0 cap0 : Nat} {zs0 : List Int} (h0 : InSlice W .u8 v0 b0 off0 len0 cap0 zs0) {n1 : Int} (hn1 : inK .i64 n1) (hG : GlobsR (om len0 cap0 zs0 n1 0 0 []) W g0) : Calls Try.prog 8 #[v0, .int .i64 n1, .slice none 0 0] W fun e w' => e = .returned (.bool true) ∧ Below W.heap.size W w' := by
  have r0 := Rel.globs (om len0 cap0 zs0 n1 0 0 []) W g0 hG
  obtain ⟨le0, r1, x0⟩ := h0.open r0 (l := 0) (c := 1) (x := 2) rfl rfl rfl
  have pos0 := h0.pos
  have lec0 := h0.le
  have max0 := h0.max
  have zl0 := h0.len
  have rng0 := h0.rng
  have hargs : VRs _ [.sslice 1 (.int 0) (.var 0) (.var 1) false, .sint .i64 (.var 10), .nilslice] [v0, .int .i64 n1, .slice none 0 0] := VRs_cons x0 (VRs_cons (vr_sint (i := 10) hn1 (by rw [r1.opq]; rfl)) (VRs_cons vr_nil (VRs_nil)))
  simp only [inK, i64min, i64max, u8min, u8max, u32min, u32max, u64min, u64max] at hn1
  by_cases h : 1000 < len0
  · refine calls_of_yesV sound tabM_ok specsM_ok oversM_ok c_in_nil_y0 rfl (tellA_ok (allTold'_iff.1 ?_)) r1 hargs
    simp only [c_in_nil_t0, om_0, om_1, om_2, om_10, om_20, om_21, om_22, om_f, allTold', dutiesTold, factsA, factsP, factsR, AV.facts, RW.facts, inK, and_true, Q.holds', E.i, E.s, E.n, D.nat, E.den, BO.den, UO.den, TO.den, D.toInt_int, D.toList_list, D.ints_ofInts, i64min, i64max, u8min, u8max, u16min, u16max, u32min, u32max, u64min, u64max, i32min, i32max, Om.sub, selI, ints_app, ints_cut, ints_upd, ints_rep, ints_splice, len_ints]
    omega
  · refine calls_of_yesV sound tabM_ok specsM_ok oversM_ok c_in_nil_y1 rfl (tellA_ok (allTold'_iff.1 ?_)) r1 hargs
    simp only [c_in_nil_t1, om_0, om_1, om_2, om_10, om_20, om_21, om_22, om_f, allTold', dutiesTold, factsA, factsP, factsR, AV.facts, RW.facts, inK, and_true, Q.holds', E.i, E.s, E.n, D.nat, E.den, BO.den, UO.den, TO.den, D.toInt_int, D.toList_list, D.ints_ofInts, i64min, i64max, u8min, u8max, u16min, u16max, u32min, u32max, u64min, u64max, i32min, i32max, Om.sub, selI, ints_app, ints_cut, ints_upd, ints_rep, ints_splice, len_ints]
    omega

def c_in_hol_t0 : List (Q × Bool) := [((.fit .i64 (.var 0)), true),
  ((.le (.var 0) (.int 1000)), false)]
set_option maxRecDepth 100000 in
theorem c_in_hol_y0 : yesOf Try.prog (knownV (tellA c_in_hol_t0) tabM specsM oversM) 6000 60 8 [.sslice 1 (.int 0) (.var 0) (.var 1) false, .sint .i64 (.var 10), .hollow] ((globSt g0).newO (.eseq ⟨.u8, .var 0, .var 2⟩)) = true := by kernel_rfl
def c_in_hol_t1 : List (Q × Bool) := [((.fit .i64 (.var 0)), true),
  ((.le (.var 0) (.int 1000)), true)]
set_option maxRecDepth 100000 in
theorem c_in_hol_y1 : yesOf Try.prog (knownV (tellA c_in_hol_t1) tabM specsM oversM) 6000 60 8 [.sslice 1 (.int 0) (.var 0) (.var 1) false, .sint .i64 (.var 10), .hollow] ((globSt g0).newO (.eseq ⟨.u8, .var 0, .var 2⟩)) = true := by kernel_rfl
theorem c_in_hol_walk {W : World} {v0 : Value} {b0 off0 len0 cap0 : Nat} {zs0 : List Int} (h0 : InSlice W .u8 v0 b0 off0 len0 cap0 zs0) {n1 : Int} (hn1 : inK .i64 n1) (a2 : Addr) (c2 : Nat) (hG : GlobsR (om len0 cap0 zs0 n1 0 0 []) W g0) : Calls Try.prog 8 #[v0, .int .i64 n1, .slice (some a2) 0 c2] W fun e w' => e = .returned (.bool true) ∧ Below W.heap.size W w' := by
  have r0 := Rel.globs (om len0 cap0 zs0 n1 0 0 []) W g0 hG
  obtain ⟨le0, r1, x0⟩ := h0.open r0 (l := 0) (c := 1) (x := 2) rfl rfl rfl
  have pos0 := h0.pos
  have lec0 := h0.le
  have max0 := h0.max
  have zl0 := h0.len
  have rng0 := h0.rng
  have hargs : VRs _ [.sslice 1 (.int 0) (.var 0) (.var 1) false, .sint .i64 (.var 10), .hollow] [v0, .int .i64 n1, .slice (some a2) 0 c2] := VRs_cons x0 (VRs_cons (vr_sint (i := 10) hn1 (by rw [r1.opq]; rfl)) (VRs_cons (vr_hollow a2 c2) (VRs_nil)))
  simp only [inK, i64min, i64max, u8min, u8max, u32min, u32max, u64min, u64max] at hn1
  by_cases h : 1000 < len0
  · refine calls_of_yesV sound tabM_ok specsM_ok oversM_ok c_in_hol_y0 rfl (tellA_ok (allTold'_iff.1 ?_)) r1 hargs
    simp only [c_in_hol_t0, om_0, om_1, om_2, om_10, om_20, om_21, om_22, om_f, allTold', dutiesTold, factsA, factsP, factsR, AV.facts, RW.facts, inK, and_true, Q.holds', E.i, E.s, E.n, D.nat, E.den, BO.den, UO.den, TO.den, D.toInt_int, D.toList_list, D.ints_ofInts, i64min, i64max, u8min, u8max, u16min, u16max, u32min, u32max, u64min, u64max, i32min, i32max, Om.sub, selI, ints_app, ints_cut, ints_upd, ints_rep, ints_splice, len_ints]
    omega
  · refine calls_of_yesV sound tabM_ok specsM_ok oversM_ok c_in_hol_y1 rfl (tellA_ok (allTold'_iff.1 ?_)) r1 hargs
    simp only [c_in_hol_t1, om_0, om_1, om_2, om_10, om_20, om_21, om_22, om_f, allTold', dutiesTold, factsA, factsP, factsR, AV.facts, RW.facts, inK, and_true, Q.holds', E.i, E.s, E.n, D.nat, E.den, BO.den, UO.den, TO.den, D.toInt_int, D.toList_list, D.ints_ofInts, i64min, i64max, u8min, u8max, u16min, u16max, u32min, u32max, u64min, u64max, i32min, i32max, Om.sub, selI, ints_app, ints_cut, ints_upd, ints_rep, ints_splice, len_ints]
    omega

def c_in_in_t0 : List (Q × Bool) := [((.fit .i64 (.var 0)), true),
  ((.le (.var 0) (.int 1000)), false)]
set_option maxRecDepth 100000 in
theorem c_in_in_y0 : yesOf Try.prog (knownV (tellA c_in_in_t0) tabM specsM oversM) 6000 60 8 [.sslice 1 (.int 0) (.var 0) (.var 1) false, .sint .i64 (.var 10), .sslice 3 (.int 0) (.var 20) (.var 21) false] (((globSt g0).newO (.eseq ⟨.u8, .var 0, .var 2⟩)).newO (.eseq ⟨.u8, .var 20, .var 22⟩)) = true := by kernel_rfl
def c_in_in_t1 : List (Q × Bool) := [((.fit .i64 (.var 0)), true),
  ((.le (.var 0) (.int 1000)), true),
  ((.fit .i64 (.var 20)), true),
  ((.eq (.var 20) (.int 1)), false)]
set_option maxRecDepth 100000 in
theorem c_in_in_y1 : yesOf Try.prog (knownV (tellA c_in_in_t1) tabM specsM oversM) 6000 60 8 [.sslice 1 (.int 0) (.var 0) (.var 1) false, .sint .i64 (.var 10), .sslice 3 (.int 0) (.var 20) (.var 21) false] (((globSt g0).newO (.eseq ⟨.u8, .var 0, .var 2⟩)).newO (.eseq ⟨.u8, .var 20, .var 22⟩)) = true := by kernel_rfl
def c_in_in_t2 : List (Q × Bool) := [((.fit .i64 (.var 0)), true),
  ((.le (.var 0) (.int 1000)), true),
  ((.fit .i64 (.var 20)), true),
  ((.eq (.var 20) (.int 1)), true),
  ((.le (.bi .add (.int 0) (.var 0)) (.var 0)), true),
  ((.le (.var 0) (.int 1000000)), true),
  ((.fit .i64 (.bi .add (.var 0) (.int 4))), true),
  ((.le (.int 0) (.fn 7 (.bi .pair (.var 10) (.bi .pair (.int 4) (.int 0))))), true),
  ((.le (.fn 7 (.bi .pair (.var 10) (.bi .pair (.int 4) (.int 0)))) (.bi .add (.var 0) (.int 4))), true),
  ((.fit .i64 (.fn 7 (.bi .pair (.var 10) (.bi .pair (.int 4) (.int 0))))), true),
  ((.fit .i64 (.bi .add (.fn 7 (.bi .pair (.var 10) (.bi .pair (.int 4) (.int 0)))) (.int (-4)))), true),
  ((.le (.int 0) (.bi .add (.fn 7 (.bi .pair (.var 10) (.bi .pair (.int 4) (.int 0)))) (.int (-4)))), false),
  ((.le (.bi .mul (.bi .add (.var 0) (.int 4)) (.int 2)) (.int 281474976710656)), true),
  ((.le (.bi .mul (.bi .add (.bi .add (.var 0) (.int 4)) (.var 20)) (.int 2)) (.int 281474976710656)), true),
  ((.fit .i64 (.bi .add (.bi .add (.var 0) (.int 4)) (.var 20))), true),
  ((.fit .i64 (.bi .add (.bi .add (.bi .add (.var 0) (.int 4)) (.var 20)) (.int (-4)))), true),
  ((.le (.int 0) (.bi .add (.bi .add (.bi .add (.var 0) (.int 4)) (.var 20)) (.int (-4)))), true),
  ((.le (.bi .add (.bi .add (.bi .add (.var 0) (.int 4)) (.var 20)) (.int (-4))) (.bi .add (.bi .add (.var 0) (.int 4)) (.var 20))), true),
  ((.le (.int 4) (.bi .sub (.bi .add (.bi .add (.var 0) (.int 4)) (.var 20)) (.bi .add (.bi .add (.bi .add (.var 0) (.int 4)) (.var 20)) (.int (-4))))), true),
  ((.le (.bi .add (.int 0) (.bi .add (.bi .add (.bi .add (.var 0) (.int 4)) (.var 20)) (.int (-4)))) (.bi .add (.bi .add (.var 0) (.int 4)) (.var 20))), true),
  ((.le (.bi .add (.bi .add (.bi .add (.var 0) (.int 4)) (.var 20)) (.int (-4))) (.int 1000000)), true),
  ((.eq (.un (.wrap .u8) (.fn 2 (.bi .pair (.int 0) (.bi .pair (.bi .app (.fn 8 (.bi .pair (.var 2) (.bi .pair (.int 0) (.bi .pair (.bi .add (.int 0) (.var 0)) (.int 0))))) (.var 22)) (.bi .pair (.int 0) (.bi .pair (.bi .add (.int 0) (.bi .add (.bi .add (.bi .add (.var 0) (.int 4)) (.var 20)) (.int (-4)))) (.int 0))))))) (.bi .sel (.bi .app (.fn 8 (.bi .pair (.var 2) (.bi .pair (.int 0) (.bi .pair (.bi .add (.int 0) (.var 0)) (.int 0))))) (.var 22)) (.bi .add (.bi .add (.bi .add (.var 0) (.int 4)) (.var 20)) (.int (-4))))), false),
  ((.le (.int 0) (.var 0)), true),
  ((.le (.var 0) (.bi .add (.var 0) (.int 4))), true),
  ((.le (.bi .add (.int 0) (.var 0)) (.bi .add (.var 0) (.int 4))), true),
  ((.eq (.un (.wrap .u8) (.fn 2 (.bi .pair (.int 0) (.bi .pair (.fn 8 (.bi .pair (.var 2) (.bi .pair (.int 0) (.bi .pair (.bi .add (.int 0) (.var 0)) (.int 0))))) (.bi .pair (.int 0) (.bi .pair (.bi .add (.int 0) (.var 0)) (.int 0))))))) (.bi .sel (.fn 8 (.bi .pair (.var 2) (.bi .pair (.int 0) (.bi .pair (.bi .add (.int 0) (.var 0)) (.int 0))))) (.var 0))), true),
  ((.eq (.un (.wrap .u8) (.bi (.iop .shr .u32) (.fn 2 (.bi .pair (.int 0) (.bi .pair (.fn 8 (.bi .pair (.var 2) (.bi .pair (.int 0) (.bi .pair (.bi .add (.int 0) (.var 0)) (.int 0))))) (.bi .pair (.int 0) (.bi .pair (.bi .add (.int 0) (.var 0)) (.int 0)))))) (.int 8))) (.bi .sel (.fn 8 (.bi .pair (.var 2) (.bi .pair (.int 0) (.bi .pair (.bi .add (.int 0) (.var 0)) (.int 0))))) (.bi .add (.var 0) (.int 1)))), true),
  ((.eq (.un (.wrap .u8) (.bi (.iop .shr .u32) (.fn 2 (.bi .pair (.int 0) (.bi .pair (.fn 8 (.bi .pair (.var 2) (.bi .pair (.int 0) (.bi .pair (.bi .add (.int 0) (.var 0)) (.int 0))))) (.bi .pair (.int 0) (.bi .pair (.bi .add (.int 0) (.var 0)) (.int 0)))))) (.int 16))) (.bi .sel (.fn 8 (.bi .pair (.var 2) (.bi .pair (.int 0) (.bi .pair (.bi .add (.int 0) (.var 0)) (.int 0))))) (.bi .add (.var 0) (.int 2)))), true),
  ((.eq (.un (.wrap .u8) (.bi (.iop .shr .u32) (.fn 2 (.bi .pair (.int 0) (.bi .pair (.fn 8 (.bi .pair (.var 2) (.bi .pair (.int 0) (.bi .pair (.bi .add (.int 0) (.var 0)) (.int 0))))) (.bi .pair (.int 0) (.bi .pair (.bi .add (.int 0) (.var 0)) (.int 0)))))) (.int 24))) (.bi .sel (.fn 8 (.bi .pair (.var 2) (.bi .pair (.int 0) (.bi .pair (.bi .add (.int 0) (.var 0)) (.int 0))))) (.bi .add (.var 0) (.int 3)))), true),
  ((.le (.bi .mul (.var 0) (.int 2)) (.int 281474976710656)), true)]
set_option maxRecDepth 100000 in
theorem c_in_in_y2 : yesOf Try.prog (knownV (tellA c_in_in_t2) tabM specsM oversM) 6000 60 8 [.sslice 1 (.int 0) (.var 0) (.var 1) false, .sint .i64 (.var 10), .sslice 3 (.int 0) (.var 20) (.var 21) false] (((globSt g0).newO (.eseq ⟨.u8, .var 0, .var 2⟩)).newO (.eseq ⟨.u8, .var 20, .var 22⟩)) = true := by kernel_rfl
theorem c_in_in_walk {W : World} {v0 : Value} {b0 off0 len0 cap0 : Nat} {zs0 : List Int} (h0 : InSlice W .u8 v0 b0 off0 len0 cap0 zs0) {n1 : Int} (hn1 : inK .i64 n1) {v2 : Value} {b2 off2 len2 cap2 : Nat} {zs2 : List Int} (h2 : InSlice W .u8 v2 b2 off2 len2 cap2 zs2) (hG : GlobsR (om len0 cap0 zs0 n1 len2 cap2 zs2) W g0) : Calls Try.prog 8 #[v0, .int .i64 n1, v2] W fun e w' => e = .returned (.bool true) ∧ Below W.heap.size W w' := by
  have r0 := Rel.globs (om len0 cap0 zs0 n1 len2 cap2 zs2) W g0 hG
  obtain ⟨le0, r1, x0⟩ := h0.open r0 (l := 0) (c := 1) (x := 2) rfl rfl rfl
  have pos0 := h0.pos
  have lec0 := h0.le
  have max0 := h0.max
  have zl0 := h0.len
  have rng0 := h0.rng
  obtain ⟨le2, r2, x2⟩ := h2.open r1 (l := 20) (c := 21) (x := 22) rfl rfl rfl
  replace x0 := VR.mono le2 _ _ x0
  have pos2 := h2.pos
  have lec2 := h2.le
  have max2 := h2.max
  have zl2 := h2.len
  have rng2 := h2.rng
  have hargs : VRs _ [.sslice 1 (.int 0) (.var 0) (.var 1) false, .sint .i64 (.var 10), .sslice 3 (.int 0) (.var 20) (.var 21) false] [v0, .int .i64 n1, v2] := VRs_cons x0 (VRs_cons (vr_sint (i := 10) hn1 (by rw [r2.opq]; rfl)) (VRs_cons x2 (VRs_nil)))
  simp only [inK, i64min, i64max, u8min, u8max, u32min, u32max, u64min, u64max] at hn1
  by_cases h : 1000 < len0
  · refine calls_of_yesV sound tabM_ok specsM_ok oversM_ok c_in_in_y0 rfl (tellA_ok (allTold'_iff.1 ?_)) r2 hargs
    simp only [c_in_in_t0, om_0, om_1, om_2, om_10, om_20, om_21, om_22, om_f, allTold', dutiesTold, factsA, factsP, factsR, AV.facts, RW.facts, inK, and_true, Q.holds', E.i, E.s, E.n, D.nat, E.den, BO.den, UO.den, TO.den, D.toInt_int, D.toList_list, D.ints_ofInts, i64min, i64max, u8min, u8max, u16min, u16max, u32min, u32max, u64min, u64max, i32min, i32max, Om.sub, selI, ints_app, ints_cut, ints_upd, ints_rep, ints_splice, len_ints]
    omega
  · by_cases h2 : len2 = 1
    · have p0 : prt zs0 0 len0 = zs0 := prt_all (by omega)
      have pw : prt (putI zs0) 0 len0 = zs0 := prt_put (by omega)
      have sp := sel_put (P := zs0) (n := len0) (by omega)
      have ha := emod_in (x := n1) (n := 4) (by omega)
      have t1 : (len0 : Int) + 4 + (len2 : Int) + -4 = len0 + 1 := by omega
      have q1 := more_prt zs0 zs2 (n := len0) (by omega)
      have q2 := more_sel zs0 zs2 (n := len0) (by omega)
      have k4 := more1 (n := moreI (notI 0) zs0) (more_in _ _ (not_in 0))
      have k5 : moreI (notI 0) (zs0 ++ [IntKind.u8.wrap (notI (moreI (notI 0) zs0))]) = stepI (moreI (notI 0) zs0) (IntKind.u8.wrap (notI (moreI (notI 0) zs0))) := by rw [more_app]; rfl
      refine calls_of_yesV sound tabM_ok specsM_ok oversM_ok c_in_in_y2 rfl (tellA_ok (allTold'_iff.1 ?_)) r2 hargs
      simp only [c_in_in_t2, om_0, om_1, om_2, om_10, om_20, om_21, om_22, om_f, F2, F7, F8, Int.zero_add, selApp, allTold', dutiesTold, factsA, factsP, factsR, AV.facts, RW.facts, inK, and_true, Q.holds', E.i, E.s, E.n, D.nat, E.den, BO.den, UO.den, TO.den, D.toInt_int, D.toList_list, D.ints_ofInts, i64min, i64max, u8min, u8max, u16min, u16max, u32min, u32max, u64min, u64max, i32min, i32max, Om.sub, selI, ints_app, ints_cut, ints_upd, ints_rep, ints_splice, len_ints]
      simp only [p0, pw, t1, q1, q2, k5, sp.1, sp.2.1, sp.2.2.1, sp.2.2.2, and_true, true_and]
      omega
    · refine calls_of_yesV sound tabM_ok specsM_ok oversM_ok c_in_in_y1 rfl (tellA_ok (allTold'_iff.1 ?_)) r2 hargs
      simp only [c_in_in_t1, om_0, om_1, om_2, om_10, om_20, om_21, om_22, om_f, allTold', dutiesTold, factsA, factsP, factsR, AV.facts, RW.facts, inK, and_true, Q.holds', E.i, E.s, E.n, D.nat, E.den, BO.den, UO.den, TO.den, D.toInt_int, D.toList_list, D.ints_ofInts, i64min, i64max, u8min, u8max, u16min, u16max, u32min, u32max, u64min, u64max, i32min, i32max, Om.sub, selI, ints_app, ints_cut, ints_upd, ints_rep, ints_splice, len_ints]
      omega

theorem underS22 : Try.prog.underlying 22 = some (.slice 5) := by kernel_rfl
theorem underE5 : Try.prog.underlying 5 = some (.int .u8) := by kernel_rfl
theorem cellsE5 : Try.prog.cellsOf 5 = 1 := by kernel_rfl
theorem underI3 : Try.prog.underlying 3 = some (.int .i64) := by kernel_rfl

set_option maxRecDepth 100000 in
theorem lifted (os : Os) (started : os.Started) (H : Type) (enc : TypeId × Value → H) :
    ReturnsInHanded {} Try.checked os 8 .any (Rows.guardLongSpec.pre6 enc Try.prog Try.f8 Rows.guardLongRow.domain false) (Rows.guardLongSpec.post enc Try.prog Try.f8 false true false false) := by
  refine returnsInHanded_of_change (C := Try.checked) own started (by kernel_rfl) Try.func8
    (ChangeSpec.witness6 (enc := enc) (C := Try.checked) false ⟨#[], #[.slice none 0 0, .int .i64 0, .slice none 0 0], []⟩ 8 (by kernel_rfl) (by kernel_rfl) (by kernel_rfl) (by kernel_rfl)) ?_
  intro W base args ds gs before hval0 hW hcnd _
  have hval : ∀ (j : Nat) t v, Try.f8.params[j]? = some t → args[j]? = some v → Value.okWide Try.prog W .any base t v := hval0
  have hW' := hW
  have hlt := hW.lt
  obtain ⟨p, q, hA0, hV, rfl, hfz, hnd⟩ := hW
  have hA : DataW.TrodAll enc Try.prog W 0 (fun _ => true) true Try.f8.params.toList args.toList ds p := hA0
  have hAll := hA
  rw [Try.params8] at hA hval hAll
  obtain ⟨rfl, rfl⟩ := trodVars_none hV
  obtain ⟨v0, v1, v2, d0, d1, d2, p0, p1, p2, rfl, rfl, rfl, h0, h1, h2⟩ := trodAll_three hA
  have s0 := in_slice (k := .u8) underS22 underE5 cellsE5 (hval 0 22 _ rfl rfl) h0
  obtain ⟨n1, rfl, rfl, rfl, wn1⟩ := open_int underI3 (hval 1 3 _ rfl rfl) h1
  have wn1 := wf_inK wn1
  have s2 := in_slice (k := .u8) underS22 underE5 cellsE5 (hval 2 22 _ rfl rfl) h2
  clear hA0 hval0
  have hcall : Calls Try.prog 8 #[v0, .int .i64 n1, v2] W fun e w' => e = .returned (.bool true) ∧ Below W.heap.size W w' := by
    rcases s0 with rfl | ⟨a0, c0, rfl⟩ | ⟨_, _, _, _, _, s0⟩
    · rcases s2 with rfl | ⟨a2, c2, rfl⟩ | ⟨_, _, _, _, _, s2⟩
      · exact c_nil_nil_walk wn1 (globs0 _ W)
      · exact c_nil_hol_walk wn1 a2 c2 (globs0 _ W)
      · exact c_nil_in_walk wn1 s2 (globs0 _ W)
    · rcases s2 with rfl | ⟨a2, c2, rfl⟩ | ⟨_, _, _, _, _, s2⟩
      · exact c_hol_nil_walk a0 c0 wn1 (globs0 _ W)
      · exact c_hol_hol_walk a0 c0 wn1 a2 c2 (globs0 _ W)
      · exact c_hol_in_walk a0 c0 wn1 s2 (globs0 _ W)
    · rcases s2 with rfl | ⟨a2, c2, rfl⟩ | ⟨_, _, _, _, _, s2⟩
      · exact c_in_nil_walk s0 wn1 (globs0 _ W)
      · exact c_in_hol_walk s0 wn1 a2 c2 (globs0 _ W)
      · exact c_in_in_walk s0 wn1 s2 (globs0 _ W)
  refine hcall.mono fun e W' ⟨he, hg⟩ => ?_
  subst he
  exact ⟨_, rfl, _, [], _, [], _, [], hW', trodAll_cons_mk (shut_bool Try.underlying4 _) trodAll_mk0, trodAll_stays laid hg _ _ _ _ hAll (fun x hx => hlt x (by simpa using hx)) (by kernel_rfl), rfl, hg.frame _, fun h => by cases h⟩

theorem over : Rows.guardLongRow.holds Try.pinned (OpenSpec.ofChange Rows.guardLongSpec) :=
  OpenClaim.holds_of_wide 8 Try.f8 rfl rfl rfl rfl rfl rfl rfl ⟨rfl, rfl, rfl, rfl, rfl⟩ rfl rfl rfl rfl rfl (by kernel_rfl) Try.func8 (by kernel_rfl)
    (of_decide_eq_true (by kernel_rfl)) (by unfold Func.isWrapper; first | (rw [if_pos (by decide +kernel)]; kernel_rfl) | (rw [if_neg (by decide +kernel)]; exact ⟨rfl, rfl⟩))
    (fun os started H enc _ => lifted os started H enc)

/-- The statement. -/
theorem proved : Rows.GuardLongSaid :=
  over
#print axioms proved
end Go.Proofs.Ytdkkibhebfliiaa.guardLong
