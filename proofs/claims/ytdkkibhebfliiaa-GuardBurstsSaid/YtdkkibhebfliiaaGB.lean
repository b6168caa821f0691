/-
  The law GuardBursts of the layer guard holds of the code: for all inputs the call returns true, and the arguments read as they did. No condition.
-/
import Derived.Test.YtdkkibhebfliiaaCo
import Derived.Test.YtdkkibhebfliiaaSylm
import Derived.Test.YtdkkibhebfliiaaGa
import Derived.Test.YtdkkibhebfliiaaGm
import Derived.Test.YtdkkibhebfliiaaGx
import Derived.WalkKit
import Derived.ProofKit
import Derived.OpenShut
set_option linter.unusedSimpArgs false
set_option linter.unusedVariables false
namespace Go.Proofs.Ytdkkibhebfliiaa.guardBursts
open Go.ChangeShapes Go.WideShapes Go.ChangeAt Go.RowKit Go.Ev Go.Proofs.Ytdkkibhebfliiaa.Co Go.Proofs.Ytdkkibhebfliiaa.Ga Go.Proofs.Ytdkkibhebfliiaa.Gm Go.Proofs.Ytdkkibhebfliiaa.Gx

def om (len0 cap0 : Nat) (zs0 : List Int) (n1 : Int) (n2 : Int) : Om := ⟨fun _ => .bool false, fun i => if i = 0 then .int len0 else if i = 1 then .int cap0 else if i = 2 then D.ofInts zs0 else if i = 10 then .int n1 else if i = 20 then .int n2 else .int 0, F⟩
theorem om_0 (len0 cap0 : Nat) (zs0 : List Int) (n1 : Int) (n2 : Int) : (om len0 cap0 zs0 n1 n2).d 0 = .int len0 := rfl
theorem om_1 (len0 cap0 : Nat) (zs0 : List Int) (n1 : Int) (n2 : Int) : (om len0 cap0 zs0 n1 n2).d 1 = .int cap0 := rfl
theorem om_2 (len0 cap0 : Nat) (zs0 : List Int) (n1 : Int) (n2 : Int) : (om len0 cap0 zs0 n1 n2).d 2 = D.ofInts zs0 := rfl
theorem om_10 (len0 cap0 : Nat) (zs0 : List Int) (n1 : Int) (n2 : Int) : (om len0 cap0 zs0 n1 n2).d 10 = .int n1 := rfl
theorem om_20 (len0 cap0 : Nat) (zs0 : List Int) (n1 : Int) (n2 : Int) : (om len0 cap0 zs0 n1 n2).d 20 = .int n2 := rfl
theorem om_f (len0 cap0 : Nat) (zs0 : List Int) (n1 : Int) (n2 : Int) : (om len0 cap0 zs0 n1 n2).f = F := rfl

def c_nil_t0 : List (Q × Bool) := [((.le (.bi .add (.int 0) (.int 0)) (.int 4)), true),
  ((.eq (.un (.wrap .u8) (.fn 2 (.bi .pair (.int 0) (.bi .pair (.lits [0, 0, 0, 0]) (.bi .pair (.int 0) (.bi .pair (.bi .add (.int 0) (.int 0)) (.int 0))))))) (.int 0)), true),
  ((.eq (.un (.wrap .u8) (.bi (.iop .shr .u32) (.fn 2 (.bi .pair (.int 0) (.bi .pair (.lits [0, 0, 0, 0]) (.bi .pair (.int 0) (.bi .pair (.bi .add (.int 0) (.int 0)) (.int 0)))))) (.int 8))) (.int 0)), true),
  ((.eq (.un (.wrap .u8) (.bi (.iop .shr .u32) (.fn 2 (.bi .pair (.int 0) (.bi .pair (.lits [0, 0, 0, 0]) (.bi .pair (.int 0) (.bi .pair (.bi .add (.int 0) (.int 0)) (.int 0)))))) (.int 16))) (.int 0)), true),
  ((.eq (.un (.wrap .u8) (.bi (.iop .shr .u32) (.fn 2 (.bi .pair (.int 0) (.bi .pair (.lits [0, 0, 0, 0]) (.bi .pair (.int 0) (.bi .pair (.bi .add (.int 0) (.int 0)) (.int 0)))))) (.int 24))) (.int 0)), true),
  ((.eq (.var 20) (.int 0)), true)]
set_option maxRecDepth 100000 in
theorem c_nil_y0 : yesOf Try.prog (knownV (tellA c_nil_t0) tab specs overs) 6000 60 6 [.nilslice, .sint .i64 (.var 10), .sint .u32 (.var 20)] (globSt g0) = true := by kernel_rfl
def c_nil_t1 : List (Q × Bool) := [((.le (.bi .add (.int 0) (.int 0)) (.int 4)), true),
  ((.eq (.un (.wrap .u8) (.fn 2 (.bi .pair (.int 0) (.bi .pair (.lits [0, 0, 0, 0]) (.bi .pair (.int 0) (.bi .pair (.bi .add (.int 0) (.int 0)) (.int 0))))))) (.int 0)), true),
  ((.eq (.un (.wrap .u8) (.bi (.iop .shr .u32) (.fn 2 (.bi .pair (.int 0) (.bi .pair (.lits [0, 0, 0, 0]) (.bi .pair (.int 0) (.bi .pair (.bi .add (.int 0) (.int 0)) (.int 0)))))) (.int 8))) (.int 0)), true),
  ((.eq (.un (.wrap .u8) (.bi (.iop .shr .u32) (.fn 2 (.bi .pair (.int 0) (.bi .pair (.lits [0, 0, 0, 0]) (.bi .pair (.int 0) (.bi .pair (.bi .add (.int 0) (.int 0)) (.int 0)))))) (.int 16))) (.int 0)), true),
  ((.eq (.un (.wrap .u8) (.bi (.iop .shr .u32) (.fn 2 (.bi .pair (.int 0) (.bi .pair (.lits [0, 0, 0, 0]) (.bi .pair (.int 0) (.bi .pair (.bi .add (.int 0) (.int 0)) (.int 0)))))) (.int 24))) (.int 0)), true),
  ((.eq (.var 20) (.int 0)), false),
  ((.le (.bi .add (.int 0) (.int 32)) (.bi .mul (.int 8) (.int 4))), true),
  ((.eq (.un (.wrap .u8) (.fn 2 (.bi .pair (.int 0) (.bi .pair (.fn 10 (.bi .pair (.lits [0, 0, 0, 0]) (.bi .pair (.int 0) (.bi .pair (.var 20) (.bi .pair (.int 0) (.int 0)))))) (.bi .pair (.int 0) (.bi .pair (.bi .add (.int 0) (.int 0)) (.int 0))))))) (.bi .sel (.fn 10 (.bi .pair (.lits [0, 0, 0, 0]) (.bi .pair (.int 0) (.bi .pair (.var 20) (.bi .pair (.int 0) (.int 0)))))) (.int 0))), false)]
set_option maxRecDepth 100000 in
theorem c_nil_y1 : yesOf Try.prog (knownV (tellA c_nil_t1) tab specs overs) 6000 60 6 [.nilslice, .sint .i64 (.var 10), .sint .u32 (.var 20)] (globSt g0) = true := by kernel_rfl
def c_nil_t2 : List (Q × Bool) := [((.le (.bi .add (.int 0) (.int 0)) (.int 4)), true),
  ((.eq (.un (.wrap .u8) (.fn 2 (.bi .pair (.int 0) (.bi .pair (.lits [0, 0, 0, 0]) (.bi .pair (.int 0) (.bi .pair (.bi .add (.int 0) (.int 0)) (.int 0))))))) (.int 0)), true),
  ((.eq (.un (.wrap .u8) (.bi (.iop .shr .u32) (.fn 2 (.bi .pair (.int 0) (.bi .pair (.lits [0, 0, 0, 0]) (.bi .pair (.int 0) (.bi .pair (.bi .add (.int 0) (.int 0)) (.int 0)))))) (.int 8))) (.int 0)), true),
  ((.eq (.un (.wrap .u8) (.bi (.iop .shr .u32) (.fn 2 (.bi .pair (.int 0) (.bi .pair (.lits [0, 0, 0, 0]) (.bi .pair (.int 0) (.bi .pair (.bi .add (.int 0) (.int 0)) (.int 0)))))) (.int 16))) (.int 0)), true),
  ((.eq (.un (.wrap .u8) (.bi (.iop .shr .u32) (.fn 2 (.bi .pair (.int 0) (.bi .pair (.lits [0, 0, 0, 0]) (.bi .pair (.int 0) (.bi .pair (.bi .add (.int 0) (.int 0)) (.int 0)))))) (.int 24))) (.int 0)), true),
  ((.eq (.var 20) (.int 0)), false),
  ((.le (.bi .add (.int 0) (.int 32)) (.bi .mul (.int 8) (.int 4))), true),
  ((.eq (.un (.wrap .u8) (.fn 2 (.bi .pair (.int 0) (.bi .pair (.fn 10 (.bi .pair (.lits [0, 0, 0, 0]) (.bi .pair (.int 0) (.bi .pair (.var 20) (.bi .pair (.int 0) (.int 0)))))) (.bi .pair (.int 0) (.bi .pair (.bi .add (.int 0) (.int 0)) (.int 0))))))) (.bi .sel (.fn 10 (.bi .pair (.lits [0, 0, 0, 0]) (.bi .pair (.int 0) (.bi .pair (.var 20) (.bi .pair (.int 0) (.int 0)))))) (.int 0))), true),
  ((.eq (.un (.wrap .u8) (.bi (.iop .shr .u32) (.fn 2 (.bi .pair (.int 0) (.bi .pair (.fn 10 (.bi .pair (.lits [0, 0, 0, 0]) (.bi .pair (.int 0) (.bi .pair (.var 20) (.bi .pair (.int 0) (.int 0)))))) (.bi .pair (.int 0) (.bi .pair (.bi .add (.int 0) (.int 0)) (.int 0)))))) (.int 8))) (.bi .sel (.fn 10 (.bi .pair (.lits [0, 0, 0, 0]) (.bi .pair (.int 0) (.bi .pair (.var 20) (.bi .pair (.int 0) (.int 0)))))) (.int 1))), false)]
set_option maxRecDepth 100000 in
theorem c_nil_y2 : yesOf Try.prog (knownV (tellA c_nil_t2) tab specs overs) 6000 60 6 [.nilslice, .sint .i64 (.var 10), .sint .u32 (.var 20)] (globSt g0) = true := by kernel_rfl
def c_nil_t3 : List (Q × Bool) := [((.le (.bi .add (.int 0) (.int 0)) (.int 4)), true),
  ((.eq (.un (.wrap .u8) (.fn 2 (.bi .pair (.int 0) (.bi .pair (.lits [0, 0, 0, 0]) (.bi .pair (.int 0) (.bi .pair (.bi .add (.int 0) (.int 0)) (.int 0))))))) (.int 0)), true),
  ((.eq (.un (.wrap .u8) (.bi (.iop .shr .u32) (.fn 2 (.bi .pair (.int 0) (.bi .pair (.lits [0, 0, 0, 0]) (.bi .pair (.int 0) (.bi .pair (.bi .add (.int 0) (.int 0)) (.int 0)))))) (.int 8))) (.int 0)), true),
  ((.eq (.un (.wrap .u8) (.bi (.iop .shr .u32) (.fn 2 (.bi .pair (.int 0) (.bi .pair (.lits [0, 0, 0, 0]) (.bi .pair (.int 0) (.bi .pair (.bi .add (.int 0) (.int 0)) (.int 0)))))) (.int 16))) (.int 0)), true),
  ((.eq (.un (.wrap .u8) (.bi (.iop .shr .u32) (.fn 2 (.bi .pair (.int 0) (.bi .pair (.lits [0, 0, 0, 0]) (.bi .pair (.int 0) (.bi .pair (.bi .add (.int 0) (.int 0)) (.int 0)))))) (.int 24))) (.int 0)), true),
  ((.eq (.var 20) (.int 0)), false),
  ((.le (.bi .add (.int 0) (.int 32)) (.bi .mul (.int 8) (.int 4))), true),
  ((.eq (.un (.wrap .u8) (.fn 2 (.bi .pair (.int 0) (.bi .pair (.fn 10 (.bi .pair (.lits [0, 0, 0, 0]) (.bi .pair (.int 0) (.bi .pair (.var 20) (.bi .pair (.int 0) (.int 0)))))) (.bi .pair (.int 0) (.bi .pair (.bi .add (.int 0) (.int 0)) (.int 0))))))) (.bi .sel (.fn 10 (.bi .pair (.lits [0, 0, 0, 0]) (.bi .pair (.int 0) (.bi .pair (.var 20) (.bi .pair (.int 0) (.int 0)))))) (.int 0))), true),
  ((.eq (.un (.wrap .u8) (.bi (.iop .shr .u32) (.fn 2 (.bi .pair (.int 0) (.bi .pair (.fn 10 (.bi .pair (.lits [0, 0, 0, 0]) (.bi .pair (.int 0) (.bi .pair (.var 20) (.bi .pair (.int 0) (.int 0)))))) (.bi .pair (.int 0) (.bi .pair (.bi .add (.int 0) (.int 0)) (.int 0)))))) (.int 8))) (.bi .sel (.fn 10 (.bi .pair (.lits [0, 0, 0, 0]) (.bi .pair (.int 0) (.bi .pair (.var 20) (.bi .pair (.int 0) (.int 0)))))) (.int 1))), true),
  ((.eq (.un (.wrap .u8) (.bi (.iop .shr .u32) (.fn 2 (.bi .pair (.int 0) (.bi .pair (.fn 10 (.bi .pair (.lits [0, 0, 0, 0]) (.bi .pair (.int 0) (.bi .pair (.var 20) (.bi .pair (.int 0) (.int 0)))))) (.bi .pair (.int 0) (.bi .pair (.bi .add (.int 0) (.int 0)) (.int 0)))))) (.int 16))) (.bi .sel (.fn 10 (.bi .pair (.lits [0, 0, 0, 0]) (.bi .pair (.int 0) (.bi .pair (.var 20) (.bi .pair (.int 0) (.int 0)))))) (.int 2))), false)]
set_option maxRecDepth 100000 in
theorem c_nil_y3 : yesOf Try.prog (knownV (tellA c_nil_t3) tab specs overs) 6000 60 6 [.nilslice, .sint .i64 (.var 10), .sint .u32 (.var 20)] (globSt g0) = true := by kernel_rfl
def c_nil_t4 : List (Q × Bool) := [((.le (.bi .add (.int 0) (.int 0)) (.int 4)), true),
  ((.eq (.un (.wrap .u8) (.fn 2 (.bi .pair (.int 0) (.bi .pair (.lits [0, 0, 0, 0]) (.bi .pair (.int 0) (.bi .pair (.bi .add (.int 0) (.int 0)) (.int 0))))))) (.int 0)), true),
  ((.eq (.un (.wrap .u8) (.bi (.iop .shr .u32) (.fn 2 (.bi .pair (.int 0) (.bi .pair (.lits [0, 0, 0, 0]) (.bi .pair (.int 0) (.bi .pair (.bi .add (.int 0) (.int 0)) (.int 0)))))) (.int 8))) (.int 0)), true),
  ((.eq (.un (.wrap .u8) (.bi (.iop .shr .u32) (.fn 2 (.bi .pair (.int 0) (.bi .pair (.lits [0, 0, 0, 0]) (.bi .pair (.int 0) (.bi .pair (.bi .add (.int 0) (.int 0)) (.int 0)))))) (.int 16))) (.int 0)), true),
  ((.eq (.un (.wrap .u8) (.bi (.iop .shr .u32) (.fn 2 (.bi .pair (.int 0) (.bi .pair (.lits [0, 0, 0, 0]) (.bi .pair (.int 0) (.bi .pair (.bi .add (.int 0) (.int 0)) (.int 0)))))) (.int 24))) (.int 0)), true),
  ((.eq (.var 20) (.int 0)), false),
  ((.le (.bi .add (.int 0) (.int 32)) (.bi .mul (.int 8) (.int 4))), true),
  ((.eq (.un (.wrap .u8) (.fn 2 (.bi .pair (.int 0) (.bi .pair (.fn 10 (.bi .pair (.lits [0, 0, 0, 0]) (.bi .pair (.int 0) (.bi .pair (.var 20) (.bi .pair (.int 0) (.int 0)))))) (.bi .pair (.int 0) (.bi .pair (.bi .add (.int 0) (.int 0)) (.int 0))))))) (.bi .sel (.fn 10 (.bi .pair (.lits [0, 0, 0, 0]) (.bi .pair (.int 0) (.bi .pair (.var 20) (.bi .pair (.int 0) (.int 0)))))) (.int 0))), true),
  ((.eq (.un (.wrap .u8) (.bi (.iop .shr .u32) (.fn 2 (.bi .pair (.int 0) (.bi .pair (.fn 10 (.bi .pair (.lits [0, 0, 0, 0]) (.bi .pair (.int 0) (.bi .pair (.var 20) (.bi .pair (.int 0) (.int 0)))))) (.bi .pair (.int 0) (.bi .pair (.bi .add (.int 0) (.int 0)) (.int 0)))))) (.int 8))) (.bi .sel (.fn 10 (.bi .pair (.lits [0, 0, 0, 0]) (.bi .pair (.int 0) (.bi .pair (.var 20) (.bi .pair (.int 0) (.int 0)))))) (.int 1))), true),
  ((.eq (.un (.wrap .u8) (.bi (.iop .shr .u32) (.fn 2 (.bi .pair (.int 0) (.bi .pair (.fn 10 (.bi .pair (.lits [0, 0, 0, 0]) (.bi .pair (.int 0) (.bi .pair (.var 20) (.bi .pair (.int 0) (.int 0)))))) (.bi .pair (.int 0) (.bi .pair (.bi .add (.int 0) (.int 0)) (.int 0)))))) (.int 16))) (.bi .sel (.fn 10 (.bi .pair (.lits [0, 0, 0, 0]) (.bi .pair (.int 0) (.bi .pair (.var 20) (.bi .pair (.int 0) (.int 0)))))) (.int 2))), true),
  ((.eq (.un (.wrap .u8) (.bi (.iop .shr .u32) (.fn 2 (.bi .pair (.int 0) (.bi .pair (.fn 10 (.bi .pair (.lits [0, 0, 0, 0]) (.bi .pair (.int 0) (.bi .pair (.var 20) (.bi .pair (.int 0) (.int 0)))))) (.bi .pair (.int 0) (.bi .pair (.bi .add (.int 0) (.int 0)) (.int 0)))))) (.int 24))) (.bi .sel (.fn 10 (.bi .pair (.lits [0, 0, 0, 0]) (.bi .pair (.int 0) (.bi .pair (.var 20) (.bi .pair (.int 0) (.int 0)))))) (.int 3))), false)]
set_option maxRecDepth 100000 in
theorem c_nil_y4 : yesOf Try.prog (knownV (tellA c_nil_t4) tab specs overs) 6000 60 6 [.nilslice, .sint .i64 (.var 10), .sint .u32 (.var 20)] (globSt g0) = true := by kernel_rfl
theorem c_nil_walk {W : World} {n1 : Int} (hn1 : inK .i64 n1) {n2 : Int} (hn2 : inK .u32 n2) (hG : GlobsR (om 0 0 [] n1 n2) W g0) : Calls Try.prog 6 #[.slice none 0 0, .int .i64 n1, .int .u32 n2] W fun e w' => e = .returned (.bool true) ∧ Below W.heap.size W w' := by
  have r0 := Rel.globs (om 0 0 [] n1 n2) W g0 hG
  have hargs : VRs (Env.none (om 0 0 [] n1 n2)) [.nilslice, .sint .i64 (.var 10), .sint .u32 (.var 20)] [.slice none 0 0, .int .i64 n1, .int .u32 n2] := VRs_cons vr_nil (VRs_cons (vr_sint (i := 10) hn1 (by rw [r0.opq]; rfl)) (VRs_cons (vr_sint (i := 20) hn2 (by rw [r0.opq]; rfl)) (VRs_nil)))
  simp only [inK, i64min, i64max, u8min, u8max, u32min, u32max, u64min, u64max] at hn1
  simp only [inK, i64min, i64max, u8min, u8max, u32min, u32max, u64min, u64max] at hn2
  by_cases hm : n2 = 0
  · refine calls_of_yesV sound tab_ok specs_ok overs_ok c_nil_y0 rfl (tellA_ok (allTold'_iff.1 ?_)) r0 hargs
    simp only [c_nil_t0, om_0, om_1, om_2, om_10, om_20, om_f, F2, F10, Int.zero_add, allTold', dutiesTold, factsA, factsP, factsR, AV.facts, RW.facts, inK, and_true, Q.holds', E.i, E.s, E.n, D.nat, E.den, BO.den, UO.den, TO.den, D.toInt_int, D.toList_list, D.ints_ofInts, i64min, i64max, u8min, u8max, u16min, u16max, u32min, u32max, u64min, u64max, i32min, i32max, Om.sub, selI, ints_app, ints_cut, ints_upd, ints_rep, ints_splice, len_ints]
    simp only [prt0, more_nil, not0, wrap0, shr0.1, shr0.2.1, shr0.2.2, s32, and_true, true_and]
    omega
  · have hno := no4 (P := []) (X := flipI 0 n2 32 0 [0, 0, 0, 0]) (f := 0) (m := n2) (n := 0) (fun c hc => by cases hc) rfl (by simp) (by omega) (by omega) hn2 hm (by rw [put_nil])
    simp only [Int.zero_add] at hno
    by_cases c0 : IntKind.u8.wrap (notI (moreI (notI 0) (prt (flipI 0 n2 32 0 [0, 0, 0, 0]) 0 0))) = ((flipI 0 n2 32 0 [0, 0, 0, 0])[Int.toNat (0)]?).getD 0
    · by_cases c1 : IntKind.u8.wrap (iopI .shr .u32 (notI (moreI (notI 0) (prt (flipI 0 n2 32 0 [0, 0, 0, 0]) 0 0))) 8) = ((flipI 0 n2 32 0 [0, 0, 0, 0])[Int.toNat (1)]?).getD 0
      · by_cases c2 : IntKind.u8.wrap (iopI .shr .u32 (notI (moreI (notI 0) (prt (flipI 0 n2 32 0 [0, 0, 0, 0]) 0 0))) 16) = ((flipI 0 n2 32 0 [0, 0, 0, 0])[Int.toNat (2)]?).getD 0
        · by_cases c3 : IntKind.u8.wrap (iopI .shr .u32 (notI (moreI (notI 0) (prt (flipI 0 n2 32 0 [0, 0, 0, 0]) 0 0))) 24) = ((flipI 0 n2 32 0 [0, 0, 0, 0])[Int.toNat (3)]?).getD 0
          · exact (hno ⟨c0, c1, c2, c3⟩).elim
          · refine calls_of_yesV sound tab_ok specs_ok overs_ok c_nil_y4 rfl (tellA_ok (allTold'_iff.1 ?_)) r0 hargs
            simp only [c_nil_t4, om_0, om_1, om_2, om_10, om_20, om_f, F2, F10, Int.zero_add, allTold', dutiesTold, factsA, factsP, factsR, AV.facts, RW.facts, inK, and_true, Q.holds', E.i, E.s, E.n, D.nat, E.den, BO.den, UO.den, TO.den, D.toInt_int, D.toList_list, D.ints_ofInts, i64min, i64max, u8min, u8max, u16min, u16max, u32min, u32max, u64min, u64max, i32min, i32max, Om.sub, selI, ints_app, ints_cut, ints_upd, ints_rep, ints_splice, len_ints]
            simp only [prt0, more_nil, not0, wrap0, shr0.1, shr0.2.1, shr0.2.2, s32, and_true, true_and]
            omega
        · refine calls_of_yesV sound tab_ok specs_ok overs_ok c_nil_y3 rfl (tellA_ok (allTold'_iff.1 ?_)) r0 hargs
          simp only [c_nil_t3, om_0, om_1, om_2, om_10, om_20, om_f, F2, F10, Int.zero_add, allTold', dutiesTold, factsA, factsP, factsR, AV.facts, RW.facts, inK, and_true, Q.holds', E.i, E.s, E.n, D.nat, E.den, BO.den, UO.den, TO.den, D.toInt_int, D.toList_list, D.ints_ofInts, i64min, i64max, u8min, u8max, u16min, u16max, u32min, u32max, u64min, u64max, i32min, i32max, Om.sub, selI, ints_app, ints_cut, ints_upd, ints_rep, ints_splice, len_ints]
          simp only [prt0, more_nil, not0, wrap0, shr0.1, shr0.2.1, shr0.2.2, s32, and_true, true_and]
          omega
      · refine calls_of_yesV sound tab_ok specs_ok overs_ok c_nil_y2 rfl (tellA_ok (allTold'_iff.1 ?_)) r0 hargs
        simp only [c_nil_t2, om_0, om_1, om_2, om_10, om_20, om_f, F2, F10, Int.zero_add, allTold', dutiesTold, factsA, factsP, factsR, AV.facts, RW.facts, inK, and_true, Q.holds', E.i, E.s, E.n, D.nat, E.den, BO.den, UO.den, TO.den, D.toInt_int, D.toList_list, D.ints_ofInts, i64min, i64max, u8min, u8max, u16min, u16max, u32min, u32max, u64min, u64max, i32min, i32max, Om.sub, selI, ints_app, ints_cut, ints_upd, ints_rep, ints_splice, len_ints]
        simp only [prt0, more_nil, not0, wrap0, shr0.1, shr0.2.1, shr0.2.2, s32, and_true, true_and]
        omega
    · refine calls_of_yesV sound tab_ok specs_ok overs_ok c_nil_y1 rfl (tellA_ok (allTold'_iff.1 ?_)) r0 hargs
      simp only [c_nil_t1, om_0, om_1, om_2, om_10, om_20, om_f, F2, F10, Int.zero_add, allTold', dutiesTold, factsA, factsP, factsR, AV.facts, RW.facts, inK, and_true, Q.holds', E.i, E.s, E.n, D.nat, E.den, BO.den, UO.den, TO.den, D.toInt_int, D.toList_list, D.ints_ofInts, i64min, i64max, u8min, u8max, u16min, u16max, u32min, u32max, u64min, u64max, i32min, i32max, Om.sub, selI, ints_app, ints_cut, ints_upd, ints_rep, ints_splice, len_ints]
      simp only [prt0, more_nil, not0, wrap0, shr0.1, shr0.2.1, shr0.2.2, s32, and_true, true_and]
      omega

def c_hol_t0 : List (Q × Bool) := [((.le (.bi .add (.int 0) (.int 0)) (.int 4)), true),
  ((.eq (.un (.wrap .u8) (.fn 2 (.bi .pair (.int 0) (.bi .pair (.lits [0, 0, 0, 0]) (.bi .pair (.int 0) (.bi .pair (.bi .add (.int 0) (.int 0)) (.int 0))))))) (.int 0)), true),
  ((.eq (.un (.wrap .u8) (.bi (.iop .shr .u32) (.fn 2 (.bi .pair (.int 0) (.bi .pair (.lits [0, 0, 0, 0]) (.bi .pair (.int 0) (.bi .pair (.bi .add (.int 0) (.int 0)) (.int 0)))))) (.int 8))) (.int 0)), true),
  ((.eq (.un (.wrap .u8) (.bi (.iop .shr .u32) (.fn 2 (.bi .pair (.int 0) (.bi .pair (.lits [0, 0, 0, 0]) (.bi .pair (.int 0) (.bi .pair (.bi .add (.int 0) (.int 0)) (.int 0)))))) (.int 16))) (.int 0)), true),
  ((.eq (.un (.wrap .u8) (.bi (.iop .shr .u32) (.fn 2 (.bi .pair (.int 0) (.bi .pair (.lits [0, 0, 0, 0]) (.bi .pair (.int 0) (.bi .pair (.bi .add (.int 0) (.int 0)) (.int 0)))))) (.int 24))) (.int 0)), true),
  ((.eq (.var 20) (.int 0)), true)]
set_option maxRecDepth 100000 in
theorem c_hol_y0 : yesOf Try.prog (knownV (tellA c_hol_t0) tab specs overs) 6000 60 6 [.hollow, .sint .i64 (.var 10), .sint .u32 (.var 20)] (globSt g0) = true := by kernel_rfl
def c_hol_t1 : List (Q × Bool) := [((.le (.bi .add (.int 0) (.int 0)) (.int 4)), true),
  ((.eq (.un (.wrap .u8) (.fn 2 (.bi .pair (.int 0) (.bi .pair (.lits [0, 0, 0, 0]) (.bi .pair (.int 0) (.bi .pair (.bi .add (.int 0) (.int 0)) (.int 0))))))) (.int 0)), true),
  ((.eq (.un (.wrap .u8) (.bi (.iop .shr .u32) (.fn 2 (.bi .pair (.int 0) (.bi .pair (.lits [0, 0, 0, 0]) (.bi .pair (.int 0) (.bi .pair (.bi .add (.int 0) (.int 0)) (.int 0)))))) (.int 8))) (.int 0)), true),
  ((.eq (.un (.wrap .u8) (.bi (.iop .shr .u32) (.fn 2 (.bi .pair (.int 0) (.bi .pair (.lits [0, 0, 0, 0]) (.bi .pair (.int 0) (.bi .pair (.bi .add (.int 0) (.int 0)) (.int 0)))))) (.int 16))) (.int 0)), true),
  ((.eq (.un (.wrap .u8) (.bi (.iop .shr .u32) (.fn 2 (.bi .pair (.int 0) (.bi .pair (.lits [0, 0, 0, 0]) (.bi .pair (.int 0) (.bi .pair (.bi .add (.int 0) (.int 0)) (.int 0)))))) (.int 24))) (.int 0)), true),
  ((.eq (.var 20) (.int 0)), false),
  ((.le (.bi .add (.int 0) (.int 32)) (.bi .mul (.int 8) (.int 4))), true),
  ((.eq (.un (.wrap .u8) (.fn 2 (.bi .pair (.int 0) (.bi .pair (.fn 10 (.bi .pair (.lits [0, 0, 0, 0]) (.bi .pair (.int 0) (.bi .pair (.var 20) (.bi .pair (.int 0) (.int 0)))))) (.bi .pair (.int 0) (.bi .pair (.bi .add (.int 0) (.int 0)) (.int 0))))))) (.bi .sel (.fn 10 (.bi .pair (.lits [0, 0, 0, 0]) (.bi .pair (.int 0) (.bi .pair (.var 20) (.bi .pair (.int 0) (.int 0)))))) (.int 0))), false)]
set_option maxRecDepth 100000 in
theorem c_hol_y1 : yesOf Try.prog (knownV (tellA c_hol_t1) tab specs overs) 6000 60 6 [.hollow, .sint .i64 (.var 10), .sint .u32 (.var 20)] (globSt g0) = true := by kernel_rfl
def c_hol_t2 : List (Q × Bool) := [((.le (.bi .add (.int 0) (.int 0)) (.int 4)), true),
  ((.eq (.un (.wrap .u8) (.fn 2 (.bi .pair (.int 0) (.bi .pair (.lits [0, 0, 0, 0]) (.bi .pair (.int 0) (.bi .pair (.bi .add (.int 0) (.int 0)) (.int 0))))))) (.int 0)), true),
  ((.eq (.un (.wrap .u8) (.bi (.iop .shr .u32) (.fn 2 (.bi .pair (.int 0) (.bi .pair (.lits [0, 0, 0, 0]) (.bi .pair (.int 0) (.bi .pair (.bi .add (.int 0) (.int 0)) (.int 0)))))) (.int 8))) (.int 0)), true),
  ((.eq (.un (.wrap .u8) (.bi (.iop .shr .u32) (.fn 2 (.bi .pair (.int 0) (.bi .pair (.lits [0, 0, 0, 0]) (.bi .pair (.int 0) (.bi .pair (.bi .add (.int 0) (.int 0)) (.int 0)))))) (.int 16))) (.int 0)), true),
  ((.eq (.un (.wrap .u8) (.bi (.iop .shr .u32) (.fn 2 (.bi .pair (.int 0) (.bi .pair (.lits [0, 0, 0, 0]) (.bi .pair (.int 0) (.bi .pair (.bi .add (.int 0) (.int 0)) (.int 0)))))) (.int 24))) (.int 0)), true),
  ((.eq (.var 20) (.int 0)), false),
  ((.le (.bi .add (.int 0) (.int 32)) (.bi .mul (.int 8) (.int 4))), true),
  ((.eq (.un (.wrap .u8) (.fn 2 (.bi .pair (.int 0) (.bi .pair (.fn 10 (.bi .pair (.lits [0, 0, 0, 0]) (.bi .pair (.int 0) (.bi .pair (.var 20) (.bi .pair (.int 0) (.int 0)))))) (.bi .pair (.int 0) (.bi .pair (.bi .add (.int 0) (.int 0)) (.int 0))))))) (.bi .sel (.fn 10 (.bi .pair (.lits [0, 0, 0, 0]) (.bi .pair (.int 0) (.bi .pair (.var 20) (.bi .pair (.int 0) (.int 0)))))) (.int 0))), true),
  ((.eq (.un (.wrap .u8) (.bi (.iop .shr .u32) (.fn 2 (.bi .pair (.int 0) (.bi .pair (.fn 10 (.bi .pair (.lits [0, 0, 0, 0]) (.bi .pair (.int 0) (.bi .pair (.var 20) (.bi .pair (.int 0) (.int 0)))))) (.bi .pair (.int 0) (.bi .pair (.bi .add (.int 0) (.int 0)) (.int 0)))))) (.int 8))) (.bi .sel (.fn 10 (.bi .pair (.lits [0, 0, 0, 0]) (.bi .pair (.int 0) (.bi .pair (.var 20) (.bi .pair (.int 0) (.int 0)))))) (.int 1))), false)]
set_option maxRecDepth 100000 in
theorem c_hol_y2 : yesOf Try.prog (knownV (tellA c_hol_t2) tab specs overs) 6000 60 6 [.hollow, .sint .i64 (.var 10), .sint .u32 (.var 20)] (globSt g0) = true := by kernel_rfl
def c_hol_t3 : List (Q × Bool) := [((.le (.bi .add (.int 0) (.int 0)) (.int 4)), true),
  ((.eq (.un (.wrap .u8) (.fn 2 (.bi .pair (.int 0) (.bi .pair (.lits [0, 0, 0, 0]) (.bi .pair (.int 0) (.bi .pair (.bi .add (.int 0) (.int 0)) (.int 0))))))) (.int 0)), true),
  ((.eq (.un (.wrap .u8) (.bi (.iop .shr .u32) (.fn 2 (.bi .pair (.int 0) (.bi .pair (.lits [0, 0, 0, 0]) (.bi .pair (.int 0) (.bi .pair (.bi .add (.int 0) (.int 0)) (.int 0)))))) (.int 8))) (.int 0)), true),
  ((.eq (.un (.wrap .u8) (.bi (.iop .shr .u32) (.fn 2 (.bi .pair (.int 0) (.bi .pair (.lits [0, 0, 0, 0]) (.bi .pair (.int 0) (.bi .pair (.bi .add (.int 0) (.int 0)) (.int 0)))))) (.int 16))) (.int 0)), true),
  ((.eq (.un (.wrap .u8) (.bi (.iop .shr .u32) (.fn 2 (.bi .pair (.int 0) (.bi .pair (.lits [0, 0, 0, 0]) (.bi .pair (.int 0) (.bi .pair (.bi .add (.int 0) (.int 0)) (.int 0)))))) (.int 24))) (.int 0)), true),
  ((.eq (.var 20) (.int 0)), false),
  ((.le (.bi .add (.int 0) (.int 32)) (.bi .mul (.int 8) (.int 4))), true),
  ((.eq (.un (.wrap .u8) (.fn 2 (.bi .pair (.int 0) (.bi .pair (.fn 10 (.bi .pair (.lits [0, 0, 0, 0]) (.bi .pair (.int 0) (.bi .pair (.var 20) (.bi .pair (.int 0) (.int 0)))))) (.bi .pair (.int 0) (.bi .pair (.bi .add (.int 0) (.int 0)) (.int 0))))))) (.bi .sel (.fn 10 (.bi .pair (.lits [0, 0, 0, 0]) (.bi .pair (.int 0) (.bi .pair (.var 20) (.bi .pair (.int 0) (.int 0)))))) (.int 0))), true),
  ((.eq (.un (.wrap .u8) (.bi (.iop .shr .u32) (.fn 2 (.bi .pair (.int 0) (.bi .pair (.fn 10 (.bi .pair (.lits [0, 0, 0, 0]) (.bi .pair (.int 0) (.bi .pair (.var 20) (.bi .pair (.int 0) (.int 0)))))) (.bi .pair (.int 0) (.bi .pair (.bi .add (.int 0) (.int 0)) (.int 0)))))) (.int 8))) (.bi .sel (.fn 10 (.bi .pair (.lits [0, 0, 0, 0]) (.bi .pair (.int 0) (.bi .pair (.var 20) (.bi .pair (.int 0) (.int 0)))))) (.int 1))), true),
  ((.eq (.un (.wrap .u8) (.bi (.iop .shr .u32) (.fn 2 (.bi .pair (.int 0) (.bi .pair (.fn 10 (.bi .pair (.lits [0, 0, 0, 0]) (.bi .pair (.int 0) (.bi .pair (.var 20) (.bi .pair (.int 0) (.int 0)))))) (.bi .pair (.int 0) (.bi .pair (.bi .add (.int 0) (.int 0)) (.int 0)))))) (.int 16))) (.bi .sel (.fn 10 (.bi .pair (.lits [0, 0, 0, 0]) (.bi .pair (.int 0) (.bi .pair (.var 20) (.bi .pair (.int 0) (.int 0)))))) (.int 2))), false)]
set_option maxRecDepth 100000 in
theorem c_hol_y3 : yesOf Try.prog (knownV (tellA c_hol_t3) tab specs overs) 6000 60 6 [.hollow, .sint .i64 (.var 10), .sint .u32 (.var 20)] (globSt g0) = true := by kernel_rfl
def c_hol_t4 : List (Q × Bool) := [((.le (.bi .add (.int 0) (.int 0)) (.int 4)), true),
  ((.eq (.un (.wrap .u8) (.fn 2 (.bi .pair (.int 0) (.bi .pair (.lits [0, 0, 0, 0]) (.bi .pair (.int 0) (.bi .pair (.bi .add (.int 0) (.int 0)) (.int 0))))))) (.int 0)), true),
  ((.eq (.un (.wrap .u8) (.bi (.iop .shr .u32) (.fn 2 (.bi .pair (.int 0) (.bi .pair (.lits [0, 0, 0, 0]) (.bi .pair (.int 0) (.bi .pair (.bi .add (.int 0) (.int 0)) (.int 0)))))) (.int 8))) (.int 0)), true),
  ((.eq (.un (.wrap .u8) (.bi (.iop .shr .u32) (.fn 2 (.bi .pair (.int 0) (.bi .pair (.lits [0, 0, 0, 0]) (.bi .pair (.int 0) (.bi .pair (.bi .add (.int 0) (.int 0)) (.int 0)))))) (.int 16))) (.int 0)), true),
  ((.eq (.un (.wrap .u8) (.bi (.iop .shr .u32) (.fn 2 (.bi .pair (.int 0) (.bi .pair (.lits [0, 0, 0, 0]) (.bi .pair (.int 0) (.bi .pair (.bi .add (.int 0) (.int 0)) (.int 0)))))) (.int 24))) (.int 0)), true),
  ((.eq (.var 20) (.int 0)), false),
  ((.le (.bi .add (.int 0) (.int 32)) (.bi .mul (.int 8) (.int 4))), true),
  ((.eq (.un (.wrap .u8) (.fn 2 (.bi .pair (.int 0) (.bi .pair (.fn 10 (.bi .pair (.lits [0, 0, 0, 0]) (.bi .pair (.int 0) (.bi .pair (.var 20) (.bi .pair (.int 0) (.int 0)))))) (.bi .pair (.int 0) (.bi .pair (.bi .add (.int 0) (.int 0)) (.int 0))))))) (.bi .sel (.fn 10 (.bi .pair (.lits [0, 0, 0, 0]) (.bi .pair (.int 0) (.bi .pair (.var 20) (.bi .pair (.int 0) (.int 0)))))) (.int 0))), true),
  ((.eq (.un (.wrap .u8) (.bi (.iop .shr .u32) (.fn 2 (.bi .pair (.int 0) (.bi .pair (.fn 10 (.bi .pair (.lits [0, 0, 0, 0]) (.bi .pair (.int 0) (.bi .pair (.var 20) (.bi .pair (.int 0) (.int 0)))))) (.bi .pair (.int 0) (.bi .pair (.bi .add (.int 0) (.int 0)) (.int 0)))))) (.int 8))) (.bi .sel (.fn 10 (.bi .pair (.lits [0, 0, 0, 0]) (.bi .pair (.int 0) (.bi .pair (.var 20) (.bi .pair (.int 0) (.int 0)))))) (.int 1))), true),
  ((.eq (.un (.wrap .u8) (.bi (.iop .shr .u32) (.fn 2 (.bi .pair (.int 0) (.bi .pair (.fn 10 (.bi .pair (.lits [0, 0, 0, 0]) (.bi .pair (.int 0) (.bi .pair (.var 20) (.bi .pair (.int 0) (.int 0)))))) (.bi .pair (.int 0) (.bi .pair (.bi .add (.int 0) (.int 0)) (.int 0)))))) (.int 16))) (.bi .sel (.fn 10 (.bi .pair (.lits [0, 0, 0, 0]) (.bi .pair (.int 0) (.bi .pair (.var 20) (.bi .pair (.int 0) (.int 0)))))) (.int 2))), true),
  ((.eq (.un (.wrap .u8) (.bi (.iop .shr .u32) (.fn 2 (.bi .pair (.int 0) (.bi .pair (.fn 10 (.bi .pair (.lits [0, 0, 0, 0]) (.bi .pair (.int 0) (.bi .pair (.var 20) (.bi .pair (.int 0) (.int 0)))))) (.bi .pair (.int 0) (.bi .pair (.bi .add (.int 0) (.int 0)) (.int 0)))))) (.int 24))) (.bi .sel (.fn 10 (.bi .pair (.lits [0, 0, 0, 0]) (.bi .pair (.int 0) (.bi .pair (.var 20) (.bi .pair (.int 0) (.int 0)))))) (.int 3))), false)]
set_option maxRecDepth 100000 in
theorem c_hol_y4 : yesOf Try.prog (knownV (tellA c_hol_t4) tab specs overs) 6000 60 6 [.hollow, .sint .i64 (.var 10), .sint .u32 (.var 20)] (globSt g0) = true := by kernel_rfl
theorem c_hol_walk {W : World} (a0 : Addr) (c0 : Nat) {n1 : Int} (hn1 : inK .i64 n1) {n2 : Int} (hn2 : inK .u32 n2) (hG : GlobsR (om 0 0 [] n1 n2) W g0) : Calls Try.prog 6 #[.slice (some a0) 0 c0, .int .i64 n1, .int .u32 n2] W fun e w' => e = .returned (.bool true) ∧ Below W.heap.size W w' := by
  have r0 := Rel.globs (om 0 0 [] n1 n2) W g0 hG
  have hargs : VRs (Env.none (om 0 0 [] n1 n2)) [.hollow, .sint .i64 (.var 10), .sint .u32 (.var 20)] [.slice (some a0) 0 c0, .int .i64 n1, .int .u32 n2] := VRs_cons (vr_hollow a0 c0) (VRs_cons (vr_sint (i := 10) hn1 (by rw [r0.opq]; rfl)) (VRs_cons (vr_sint (i := 20) hn2 (by rw [r0.opq]; rfl)) (VRs_nil)))
  simp only [inK, i64min, i64max, u8min, u8max, u32min, u32max, u64min, u64max] at hn1
  simp only [inK, i64min, i64max, u8min, u8max, u32min, u32max, u64min, u64max] at hn2
  by_cases hm : n2 = 0
  · refine calls_of_yesV sound tab_ok specs_ok overs_ok c_hol_y0 rfl (tellA_ok (allTold'_iff.1 ?_)) r0 hargs
    simp only [c_hol_t0, om_0, om_1, om_2, om_10, om_20, om_f, F2, F10, Int.zero_add, allTold', dutiesTold, factsA, factsP, factsR, AV.facts, RW.facts, inK, and_true, Q.holds', E.i, E.s, E.n, D.nat, E.den, BO.den, UO.den, TO.den, D.toInt_int, D.toList_list, D.ints_ofInts, i64min, i64max, u8min, u8max, u16min, u16max, u32min, u32max, u64min, u64max, i32min, i32max, Om.sub, selI, ints_app, ints_cut, ints_upd, ints_rep, ints_splice, len_ints]
    simp only [prt0, more_nil, not0, wrap0, shr0.1, shr0.2.1, shr0.2.2, s32, and_true, true_and]
    omega
  · have hno := no4 (P := []) (X := flipI 0 n2 32 0 [0, 0, 0, 0]) (f := 0) (m := n2) (n := 0) (fun c hc => by cases hc) rfl (by simp) (by omega) (by omega) hn2 hm (by rw [put_nil])
    simp only [Int.zero_add] at hno
    by_cases c0 : IntKind.u8.wrap (notI (moreI (notI 0) (prt (flipI 0 n2 32 0 [0, 0, 0, 0]) 0 0))) = ((flipI 0 n2 32 0 [0, 0, 0, 0])[Int.toNat (0)]?).getD 0
    · by_cases c1 : IntKind.u8.wrap (iopI .shr .u32 (notI (moreI (notI 0) (prt (flipI 0 n2 32 0 [0, 0, 0, 0]) 0 0))) 8) = ((flipI 0 n2 32 0 [0, 0, 0, 0])[Int.toNat (1)]?).getD 0
      · by_cases c2 : IntKind.u8.wrap (iopI .shr .u32 (notI (moreI (notI 0) (prt (flipI 0 n2 32 0 [0, 0, 0, 0]) 0 0))) 16) = ((flipI 0 n2 32 0 [0, 0, 0, 0])[Int.toNat (2)]?).getD 0
        · by_cases c3 : IntKind.u8.wrap (iopI .shr .u32 (notI (moreI (notI 0) (prt (flipI 0 n2 32 0 [0, 0, 0, 0]) 0 0))) 24) = ((flipI 0 n2 32 0 [0, 0, 0, 0])[Int.toNat (3)]?).getD 0
          · exact (hno ⟨c0, c1, c2, c3⟩).elim
          · refine calls_of_yesV sound tab_ok specs_ok overs_ok c_hol_y4 rfl (tellA_ok (allTold'_iff.1 ?_)) r0 hargs
            simp only [c_hol_t4, om_0, om_1, om_2, om_10, om_20, om_f, F2, F10, Int.zero_add, allTold', dutiesTold, factsA, factsP, factsR, AV.facts, RW.facts, inK, and_true, Q.holds', E.i, E.s, E.n, D.nat, E.den, BO.den, UO.den, TO.den, D.toInt_int, D.toList_list, D.ints_ofInts, i64min, i64max, u8min, u8max, u16min, u16max, u32min, u32max, u64min, u64max, i32min, i32max, Om.sub, selI, ints_app, ints_cut, ints_upd, ints_rep, ints_splice, len_ints]
            simp only [prt0, more_nil, not0, wrap0, shr0.1, shr0.2.1, shr0.2.2, s32, and_true, true_and]
            omega
        · refine calls_of_yesV sound tab_ok specs_ok overs_ok c_hol_y3 rfl (tellA_ok (allTold'_iff.1 ?_)) r0 hargs
          simp only [c_hol_t3, om_0, om_1, om_2, om_10, om_20, om_f, F2, F10, Int.zero_add, allTold', dutiesTold, factsA, factsP, factsR, AV.facts, RW.facts, inK, and_true, Q.holds', E.i, E.s, E.n, D.nat, E.den, BO.den, UO.den, TO.den, D.toInt_int, D.toList_list, D.ints_ofInts, i64min, i64max, u8min, u8max, u16min, u16max, u32min, u32max, u64min, u64max, i32min, i32max, Om.sub, selI, ints_app, ints_cut, ints_upd, ints_rep, ints_splice, len_ints]
          simp only [prt0, more_nil, not0, wrap0, shr0.1, shr0.2.1, shr0.2.2, s32, and_true, true_and]
          omega
      · refine calls_of_yesV sound tab_ok specs_ok overs_ok c_hol_y2 rfl (tellA_ok (allTold'_iff.1 ?_)) r0 hargs
        simp only [c_hol_t2, om_0, om_1, om_2, om_10, om_20, om_f, F2, F10, Int.zero_add, allTold', dutiesTold, factsA, factsP, factsR, AV.facts, RW.facts, inK, and_true, Q.holds', E.i, E.s, E.n, D.nat, E.den, BO.den, UO.den, TO.den, D.toInt_int, D.toList_list, D.ints_ofInts, i64min, i64max, u8min, u8max, u16min, u16max, u32min, u32max, u64min, u64max, i32min, i32max, Om.sub, selI, ints_app, ints_cut, ints_upd, ints_rep, ints_splice, len_ints]
        simp only [prt0, more_nil, not0, wrap0, shr0.1, shr0.2.1, shr0.2.2, s32, and_true, true_and]
        omega
    · refine calls_of_yesV sound tab_ok specs_ok overs_ok c_hol_y1 rfl (tellA_ok (allTold'_iff.1 ?_)) r0 hargs
      simp only [c_hol_t1, om_0, om_1, om_2, om_10, om_20, om_f, F2, F10, Int.zero_add, allTold', dutiesTold, factsA, factsP, factsR, AV.facts, RW.facts, inK, and_true, Q.holds', E.i, E.s, E.n, D.nat, E.den, BO.den, UO.den, TO.den, D.toInt_int, D.toList_list, D.ints_ofInts, i64min, i64max, u8min, u8max, u16min, u16max, u32min, u32max, u64min, u64max, i32min, i32max, Om.sub, selI, ints_app, ints_cut, ints_upd, ints_rep, ints_splice, len_ints]
      simp only [prt0, more_nil, not0, wrap0, shr0.1, shr0.2.1, shr0.2.2, s32, and_true, true_and]
      omega

def c_in_t0 : List (Q × Bool) := [((.fit .i64 (.var 0)), true),
  ((.le (.var 0) (.int 1000)), false)]
set_option maxRecDepth 100000 in
theorem c_in_y0 : yesOf Try.prog (knownV (tellA c_in_t0) tab specs overs) 6000 60 6 [.sslice 1 (.int 0) (.var 0) (.var 1) false, .sint .i64 (.var 10), .sint .u32 (.var 20)] ((globSt g0).newO (.eseq ⟨.u8, .var 0, .var 2⟩)) = true := by kernel_rfl
def c_in_t1 : List (Q × Bool) := [((.fit .i64 (.var 0)), true),
  ((.le (.var 0) (.int 1000)), true),
  ((.le (.bi .add (.int 0) (.var 0)) (.var 0)), true),
  ((.le (.var 0) (.int 1000000)), true),
  ((.fit .i64 (.bi .add (.var 0) (.int 4))), true),
  ((.le (.int 0) (.var 0)), true),
  ((.le (.var 0) (.bi .add (.var 0) (.int 4))), true),
  ((.le (.bi .add (.int 0) (.var 0)) (.bi .add (.var 0) (.int 4))), true),
  ((.eq (.un (.wrap .u8) (.fn 2 (.bi .pair (.int 0) (.bi .pair (.fn 8 (.bi .pair (.var 2) (.bi .pair (.int 0) (.bi .pair (.bi .add (.int 0) (.var 0)) (.int 0))))) (.bi .pair (.int 0) (.bi .pair (.bi .add (.int 0) (.var 0)) (.int 0))))))) (.bi .sel (.fn 8 (.bi .pair (.var 2) (.bi .pair (.int 0) (.bi .pair (.bi .add (.int 0) (.var 0)) (.int 0))))) (.var 0))), true),
  ((.eq (.un (.wrap .u8) (.bi (.iop .shr .u32) (.fn 2 (.bi .pair (.int 0) (.bi .pair (.fn 8 (.bi .pair (.var 2) (.bi .pair (.int 0) (.bi .pair (.bi .add (.int 0) (.var 0)) (.int 0))))) (.bi .pair (.int 0) (.bi .pair (.bi .add (.int 0) (.var 0)) (.int 0)))))) (.int 8))) (.bi .sel (.fn 8 (.bi .pair (.var 2) (.bi .pair (.int 0) (.bi .pair (.bi .add (.int 0) (.var 0)) (.int 0))))) (.bi .add (.var 0) (.int 1)))), true),
  ((.eq (.un (.wrap .u8) (.bi (.iop .shr .u32) (.fn 2 (.bi .pair (.int 0) (.bi .pair (.fn 8 (.bi .pair (.var 2) (.bi .pair (.int 0) (.bi .pair (.bi .add (.int 0) (.var 0)) (.int 0))))) (.bi .pair (.int 0) (.bi .pair (.bi .add (.int 0) (.var 0)) (.int 0)))))) (.int 16))) (.bi .sel (.fn 8 (.bi .pair (.var 2) (.bi .pair (.int 0) (.bi .pair (.bi .add (.int 0) (.var 0)) (.int 0))))) (.bi .add (.var 0) (.int 2)))), true),
  ((.eq (.un (.wrap .u8) (.bi (.iop .shr .u32) (.fn 2 (.bi .pair (.int 0) (.bi .pair (.fn 8 (.bi .pair (.var 2) (.bi .pair (.int 0) (.bi .pair (.bi .add (.int 0) (.var 0)) (.int 0))))) (.bi .pair (.int 0) (.bi .pair (.bi .add (.int 0) (.var 0)) (.int 0)))))) (.int 24))) (.bi .sel (.fn 8 (.bi .pair (.var 2) (.bi .pair (.int 0) (.bi .pair (.bi .add (.int 0) (.var 0)) (.int 0))))) (.bi .add (.var 0) (.int 3)))), true),
  ((.le (.bi .mul (.var 0) (.int 2)) (.int 281474976710656)), true),
  ((.same (.tr .cut (.fn 8 (.bi .pair (.var 2) (.bi .pair (.int 0) (.bi .pair (.bi .add (.int 0) (.var 0)) (.int 0))))) (.int 0) (.var 0)) (.var 2)), true),
  ((.eq (.var 20) (.int 0)), true)]
set_option maxRecDepth 100000 in
theorem c_in_y1 : yesOf Try.prog (knownV (tellA c_in_t1) tab specs overs) 6000 60 6 [.sslice 1 (.int 0) (.var 0) (.var 1) false, .sint .i64 (.var 10), .sint .u32 (.var 20)] ((globSt g0).newO (.eseq ⟨.u8, .var 0, .var 2⟩)) = true := by kernel_rfl
def c_in_t2 : List (Q × Bool) := [((.fit .i64 (.var 0)), true),
  ((.le (.var 0) (.int 1000)), true),
  ((.le (.bi .add (.int 0) (.var 0)) (.var 0)), true),
  ((.le (.var 0) (.int 1000000)), true),
  ((.fit .i64 (.bi .add (.var 0) (.int 4))), true),
  ((.le (.int 0) (.var 0)), true),
  ((.le (.var 0) (.bi .add (.var 0) (.int 4))), true),
  ((.le (.bi .add (.int 0) (.var 0)) (.bi .add (.var 0) (.int 4))), true),
  ((.eq (.un (.wrap .u8) (.fn 2 (.bi .pair (.int 0) (.bi .pair (.fn 8 (.bi .pair (.var 2) (.bi .pair (.int 0) (.bi .pair (.bi .add (.int 0) (.var 0)) (.int 0))))) (.bi .pair (.int 0) (.bi .pair (.bi .add (.int 0) (.var 0)) (.int 0))))))) (.bi .sel (.fn 8 (.bi .pair (.var 2) (.bi .pair (.int 0) (.bi .pair (.bi .add (.int 0) (.var 0)) (.int 0))))) (.var 0))), true),
  ((.eq (.un (.wrap .u8) (.bi (.iop .shr .u32) (.fn 2 (.bi .pair (.int 0) (.bi .pair (.fn 8 (.bi .pair (.var 2) (.bi .pair (.int 0) (.bi .pair (.bi .add (.int 0) (.var 0)) (.int 0))))) (.bi .pair (.int 0) (.bi .pair (.bi .add (.int 0) (.var 0)) (.int 0)))))) (.int 8))) (.bi .sel (.fn 8 (.bi .pair (.var 2) (.bi .pair (.int 0) (.bi .pair (.bi .add (.int 0) (.var 0)) (.int 0))))) (.bi .add (.var 0) (.int 1)))), true),
  ((.eq (.un (.wrap .u8) (.bi (.iop .shr .u32) (.fn 2 (.bi .pair (.int 0) (.bi .pair (.fn 8 (.bi .pair (.var 2) (.bi .pair (.int 0) (.bi .pair (.bi .add (.int 0) (.var 0)) (.int 0))))) (.bi .pair (.int 0) (.bi .pair (.bi .add (.int 0) (.var 0)) (.int 0)))))) (.int 16))) (.bi .sel (.fn 8 (.bi .pair (.var 2) (.bi .pair (.int 0) (.bi .pair (.bi .add (.int 0) (.var 0)) (.int 0))))) (.bi .add (.var 0) (.int 2)))), true),
  ((.eq (.un (.wrap .u8) (.bi (.iop .shr .u32) (.fn 2 (.bi .pair (.int 0) (.bi .pair (.fn 8 (.bi .pair (.var 2) (.bi .pair (.int 0) (.bi .pair (.bi .add (.int 0) (.var 0)) (.int 0))))) (.bi .pair (.int 0) (.bi .pair (.bi .add (.int 0) (.var 0)) (.int 0)))))) (.int 24))) (.bi .sel (.fn 8 (.bi .pair (.var 2) (.bi .pair (.int 0) (.bi .pair (.bi .add (.int 0) (.var 0)) (.int 0))))) (.bi .add (.var 0) (.int 3)))), true),
  ((.le (.bi .mul (.var 0) (.int 2)) (.int 281474976710656)), true),
  ((.same (.tr .cut (.fn 8 (.bi .pair (.var 2) (.bi .pair (.int 0) (.bi .pair (.bi .add (.int 0) (.var 0)) (.int 0))))) (.int 0) (.var 0)) (.var 2)), true),
  ((.eq (.var 20) (.int 0)), false),
  ((.fit .i64 (.bi .mul (.bi .add (.var 0) (.int 4)) (.int 8))), true),
  ((.fit .i64 (.bi .add (.bi .mul (.bi .add (.var 0) (.int 4)) (.int 8)) (.int (-31)))), true),
  ((.le (.int 1) (.bi .add (.bi .mul (.bi .add (.var 0) (.int 4)) (.int 8)) (.int (-31)))), true),
  ((.le (.int 0) (.fn 7 (.bi .pair (.var 10) (.bi .pair (.bi .add (.bi .mul (.bi .add (.var 0) (.int 4)) (.int 8)) (.int (-31))) (.int 0))))), true),
  ((.le (.bi .add (.fn 7 (.bi .pair (.var 10) (.bi .pair (.bi .add (.bi .mul (.bi .add (.var 0) (.int 4)) (.int 8)) (.int (-31))) (.int 0)))) (.int 32)) (.bi .mul (.int 8) (.bi .add (.var 0) (.int 4)))), true),
  ((.le (.bi .add (.var 0) (.int 4)) (.int 1000000)), true),
  ((.eq (.un (.wrap .u8) (.fn 2 (.bi .pair (.int 0) (.bi .pair (.fn 10 (.bi .pair (.fn 8 (.bi .pair (.var 2) (.bi .pair (.int 0) (.bi .pair (.bi .add (.int 0) (.var 0)) (.int 0))))) (.bi .pair (.fn 7 (.bi .pair (.var 10) (.bi .pair (.bi .add (.bi .mul (.bi .add (.var 0) (.int 4)) (.int 8)) (.int (-31))) (.int 0)))) (.bi .pair (.var 20) (.bi .pair (.int 0) (.int 0)))))) (.bi .pair (.int 0) (.bi .pair (.bi .add (.int 0) (.var 0)) (.int 0))))))) (.bi .sel (.fn 10 (.bi .pair (.fn 8 (.bi .pair (.var 2) (.bi .pair (.int 0) (.bi .pair (.bi .add (.int 0) (.var 0)) (.int 0))))) (.bi .pair (.fn 7 (.bi .pair (.var 10) (.bi .pair (.bi .add (.bi .mul (.bi .add (.var 0) (.int 4)) (.int 8)) (.int (-31))) (.int 0)))) (.bi .pair (.var 20) (.bi .pair (.int 0) (.int 0)))))) (.var 0))), false)]
set_option maxRecDepth 100000 in
theorem c_in_y2 : yesOf Try.prog (knownV (tellA c_in_t2) tab specs overs) 6000 60 6 [.sslice 1 (.int 0) (.var 0) (.var 1) false, .sint .i64 (.var 10), .sint .u32 (.var 20)] ((globSt g0).newO (.eseq ⟨.u8, .var 0, .var 2⟩)) = true := by kernel_rfl
def c_in_t3 : List (Q × Bool) := [((.fit .i64 (.var 0)), true),
  ((.le (.var 0) (.int 1000)), true),
  ((.le (.bi .add (.int 0) (.var 0)) (.var 0)), true),
  ((.le (.var 0) (.int 1000000)), true),
  ((.fit .i64 (.bi .add (.var 0) (.int 4))), true),
  ((.le (.int 0) (.var 0)), true),
  ((.le (.var 0) (.bi .add (.var 0) (.int 4))), true),
  ((.le (.bi .add (.int 0) (.var 0)) (.bi .add (.var 0) (.int 4))), true),
  ((.eq (.un (.wrap .u8) (.fn 2 (.bi .pair (.int 0) (.bi .pair (.fn 8 (.bi .pair (.var 2) (.bi .pair (.int 0) (.bi .pair (.bi .add (.int 0) (.var 0)) (.int 0))))) (.bi .pair (.int 0) (.bi .pair (.bi .add (.int 0) (.var 0)) (.int 0))))))) (.bi .sel (.fn 8 (.bi .pair (.var 2) (.bi .pair (.int 0) (.bi .pair (.bi .add (.int 0) (.var 0)) (.int 0))))) (.var 0))), true),
  ((.eq (.un (.wrap .u8) (.bi (.iop .shr .u32) (.fn 2 (.bi .pair (.int 0) (.bi .pair (.fn 8 (.bi .pair (.var 2) (.bi .pair (.int 0) (.bi .pair (.bi .add (.int 0) (.var 0)) (.int 0))))) (.bi .pair (.int 0) (.bi .pair (.bi .add (.int 0) (.var 0)) (.int 0)))))) (.int 8))) (.bi .sel (.fn 8 (.bi .pair (.var 2) (.bi .pair (.int 0) (.bi .pair (.bi .add (.int 0) (.var 0)) (.int 0))))) (.bi .add (.var 0) (.int 1)))), true),
  ((.eq (.un (.wrap .u8) (.bi (.iop .shr .u32) (.fn 2 (.bi .pair (.int 0) (.bi .pair (.fn 8 (.bi .pair (.var 2) (.bi .pair (.int 0) (.bi .pair (.bi .add (.int 0) (.var 0)) (.int 0))))) (.bi .pair (.int 0) (.bi .pair (.bi .add (.int 0) (.var 0)) (.int 0)))))) (.int 16))) (.bi .sel (.fn 8 (.bi .pair (.var 2) (.bi .pair (.int 0) (.bi .pair (.bi .add (.int 0) (.var 0)) (.int 0))))) (.bi .add (.var 0) (.int 2)))), true),
  ((.eq (.un (.wrap .u8) (.bi (.iop .shr .u32) (.fn 2 (.bi .pair (.int 0) (.bi .pair (.fn 8 (.bi .pair (.var 2) (.bi .pair (.int 0) (.bi .pair (.bi .add (.int 0) (.var 0)) (.int 0))))) (.bi .pair (.int 0) (.bi .pair (.bi .add (.int 0) (.var 0)) (.int 0)))))) (.int 24))) (.bi .sel (.fn 8 (.bi .pair (.var 2) (.bi .pair (.int 0) (.bi .pair (.bi .add (.int 0) (.var 0)) (.int 0))))) (.bi .add (.var 0) (.int 3)))), true),
  ((.le (.bi .mul (.var 0) (.int 2)) (.int 281474976710656)), true),
  ((.same (.tr .cut (.fn 8 (.bi .pair (.var 2) (.bi .pair (.int 0) (.bi .pair (.bi .add (.int 0) (.var 0)) (.int 0))))) (.int 0) (.var 0)) (.var 2)), true),
  ((.eq (.var 20) (.int 0)), false),
  ((.fit .i64 (.bi .mul (.bi .add (.var 0) (.int 4)) (.int 8))), true),
  ((.fit .i64 (.bi .add (.bi .mul (.bi .add (.var 0) (.int 4)) (.int 8)) (.int (-31)))), true),
  ((.le (.int 1) (.bi .add (.bi .mul (.bi .add (.var 0) (.int 4)) (.int 8)) (.int (-31)))), true),
  ((.le (.int 0) (.fn 7 (.bi .pair (.var 10) (.bi .pair (.bi .add (.bi .mul (.bi .add (.var 0) (.int 4)) (.int 8)) (.int (-31))) (.int 0))))), true),
  ((.le (.bi .add (.fn 7 (.bi .pair (.var 10) (.bi .pair (.bi .add (.bi .mul (.bi .add (.var 0) (.int 4)) (.int 8)) (.int (-31))) (.int 0)))) (.int 32)) (.bi .mul (.int 8) (.bi .add (.var 0) (.int 4)))), true),
  ((.le (.bi .add (.var 0) (.int 4)) (.int 1000000)), true),
  ((.eq (.un (.wrap .u8) (.fn 2 (.bi .pair (.int 0) (.bi .pair (.fn 10 (.bi .pair (.fn 8 (.bi .pair (.var 2) (.bi .pair (.int 0) (.bi .pair (.bi .add (.int 0) (.var 0)) (.int 0))))) (.bi .pair (.fn 7 (.bi .pair (.var 10) (.bi .pair (.bi .add (.bi .mul (.bi .add (.var 0) (.int 4)) (.int 8)) (.int (-31))) (.int 0)))) (.bi .pair (.var 20) (.bi .pair (.int 0) (.int 0)))))) (.bi .pair (.int 0) (.bi .pair (.bi .add (.int 0) (.var 0)) (.int 0))))))) (.bi .sel (.fn 10 (.bi .pair (.fn 8 (.bi .pair (.var 2) (.bi .pair (.int 0) (.bi .pair (.bi .add (.int 0) (.var 0)) (.int 0))))) (.bi .pair (.fn 7 (.bi .pair (.var 10) (.bi .pair (.bi .add (.bi .mul (.bi .add (.var 0) (.int 4)) (.int 8)) (.int (-31))) (.int 0)))) (.bi .pair (.var 20) (.bi .pair (.int 0) (.int 0)))))) (.var 0))), true),
  ((.eq (.un (.wrap .u8) (.bi (.iop .shr .u32) (.fn 2 (.bi .pair (.int 0) (.bi .pair (.fn 10 (.bi .pair (.fn 8 (.bi .pair (.var 2) (.bi .pair (.int 0) (.bi .pair (.bi .add (.int 0) (.var 0)) (.int 0))))) (.bi .pair (.fn 7 (.bi .pair (.var 10) (.bi .pair (.bi .add (.bi .mul (.bi .add (.var 0) (.int 4)) (.int 8)) (.int (-31))) (.int 0)))) (.bi .pair (.var 20) (.bi .pair (.int 0) (.int 0)))))) (.bi .pair (.int 0) (.bi .pair (.bi .add (.int 0) (.var 0)) (.int 0)))))) (.int 8))) (.bi .sel (.fn 10 (.bi .pair (.fn 8 (.bi .pair (.var 2) (.bi .pair (.int 0) (.bi .pair (.bi .add (.int 0) (.var 0)) (.int 0))))) (.bi .pair (.fn 7 (.bi .pair (.var 10) (.bi .pair (.bi .add (.bi .mul (.bi .add (.var 0) (.int 4)) (.int 8)) (.int (-31))) (.int 0)))) (.bi .pair (.var 20) (.bi .pair (.int 0) (.int 0)))))) (.bi .add (.var 0) (.int 1)))), false)]
set_option maxRecDepth 100000 in
theorem c_in_y3 : yesOf Try.prog (knownV (tellA c_in_t3) tab specs overs) 6000 60 6 [.sslice 1 (.int 0) (.var 0) (.var 1) false, .sint .i64 (.var 10), .sint .u32 (.var 20)] ((globSt g0).newO (.eseq ⟨.u8, .var 0, .var 2⟩)) = true := by kernel_rfl
def c_in_t4 : List (Q × Bool) := [((.fit .i64 (.var 0)), true),
  ((.le (.var 0) (.int 1000)), true),
  ((.le (.bi .add (.int 0) (.var 0)) (.var 0)), true),
  ((.le (.var 0) (.int 1000000)), true),
  ((.fit .i64 (.bi .add (.var 0) (.int 4))), true),
  ((.le (.int 0) (.var 0)), true),
  ((.le (.var 0) (.bi .add (.var 0) (.int 4))), true),
  ((.le (.bi .add (.int 0) (.var 0)) (.bi .add (.var 0) (.int 4))), true),
  ((.eq (.un (.wrap .u8) (.fn 2 (.bi .pair (.int 0) (.bi .pair (.fn 8 (.bi .pair (.var 2) (.bi .pair (.int 0) (.bi .pair (.bi .add (.int 0) (.var 0)) (.int 0))))) (.bi .pair (.int 0) (.bi .pair (.bi .add (.int 0) (.var 0)) (.int 0))))))) (.bi .sel (.fn 8 (.bi .pair (.var 2) (.bi .pair (.int 0) (.bi .pair (.bi .add (.int 0) (.var 0)) (.int 0))))) (.var 0))), true),
  ((.eq (.un (.wrap .u8) (.bi (.iop .shr .u32) (.fn 2 (.bi .pair (.int 0) (.bi .pair (.fn 8 (.bi .pair (.var 2) (.bi .pair (.int 0) (.bi .pair (.bi .add (.int 0) (.var 0)) (.int 0))))) (.bi .pair (.int 0) (.bi .pair (.bi .add (.int 0) (.var 0)) (.int 0)))))) (.int 8))) (.bi .sel (.fn 8 (.bi .pair (.var 2) (.bi .pair (.int 0) (.bi .pair (.bi .add (.int 0) (.var 0)) (.int 0))))) (.bi .add (.var 0) (.int 1)))), true),
  ((.eq (.un (.wrap .u8) (.bi (.iop .shr .u32) (.fn 2 (.bi .pair (.int 0) (.bi .pair (.fn 8 (.bi .pair (.var 2) (.bi .pair (.int 0) (.bi .pair (.bi .add (.int 0) (.var 0)) (.int 0))))) (.bi .pair (.int 0) (.bi .pair (.bi .add (.int 0) (.var 0)) (.int 0)))))) (.int 16))) (.bi .sel (.fn 8 (.bi .pair (.var 2) (.bi .pair (.int 0) (.bi .pair (.bi .add (.int 0) (.var 0)) (.int 0))))) (.bi .add (.var 0) (.int 2)))), true),
  ((.eq (.un (.wrap .u8) (.bi (.iop .shr .u32) (.fn 2 (.bi .pair (.int 0) (.bi .pair (.fn 8 (.bi .pair (.var 2) (.bi .pair (.int 0) (.bi .pair (.bi .add (.int 0) (.var 0)) (.int 0))))) (.bi .pair (.int 0) (.bi .pair (.bi .add (.int 0) (.var 0)) (.int 0)))))) (.int 24))) (.bi .sel (.fn 8 (.bi .pair (.var 2) (.bi .pair (.int 0) (.bi .pair (.bi .add (.int 0) (.var 0)) (.int 0))))) (.bi .add (.var 0) (.int 3)))), true),
  ((.le (.bi .mul (.var 0) (.int 2)) (.int 281474976710656)), true),
  ((.same (.tr .cut (.fn 8 (.bi .pair (.var 2) (.bi .pair (.int 0) (.bi .pair (.bi .add (.int 0) (.var 0)) (.int 0))))) (.int 0) (.var 0)) (.var 2)), true),
  ((.eq (.var 20) (.int 0)), false),
  ((.fit .i64 (.bi .mul (.bi .add (.var 0) (.int 4)) (.int 8))), true),
  ((.fit .i64 (.bi .add (.bi .mul (.bi .add (.var 0) (.int 4)) (.int 8)) (.int (-31)))), true),
  ((.le (.int 1) (.bi .add (.bi .mul (.bi .add (.var 0) (.int 4)) (.int 8)) (.int (-31)))), true),
  ((.le (.int 0) (.fn 7 (.bi .pair (.var 10) (.bi .pair (.bi .add (.bi .mul (.bi .add (.var 0) (.int 4)) (.int 8)) (.int (-31))) (.int 0))))), true),
  ((.le (.bi .add (.fn 7 (.bi .pair (.var 10) (.bi .pair (.bi .add (.bi .mul (.bi .add (.var 0) (.int 4)) (.int 8)) (.int (-31))) (.int 0)))) (.int 32)) (.bi .mul (.int 8) (.bi .add (.var 0) (.int 4)))), true),
  ((.le (.bi .add (.var 0) (.int 4)) (.int 1000000)), true),
  ((.eq (.un (.wrap .u8) (.fn 2 (.bi .pair (.int 0) (.bi .pair (.fn 10 (.bi .pair (.fn 8 (.bi .pair (.var 2) (.bi .pair (.int 0) (.bi .pair (.bi .add (.int 0) (.var 0)) (.int 0))))) (.bi .pair (.fn 7 (.bi .pair (.var 10) (.bi .pair (.bi .add (.bi .mul (.bi .add (.var 0) (.int 4)) (.int 8)) (.int (-31))) (.int 0)))) (.bi .pair (.var 20) (.bi .pair (.int 0) (.int 0)))))) (.bi .pair (.int 0) (.bi .pair (.bi .add (.int 0) (.var 0)) (.int 0))))))) (.bi .sel (.fn 10 (.bi .pair (.fn 8 (.bi .pair (.var 2) (.bi .pair (.int 0) (.bi .pair (.bi .add (.int 0) (.var 0)) (.int 0))))) (.bi .pair (.fn 7 (.bi .pair (.var 10) (.bi .pair (.bi .add (.bi .mul (.bi .add (.var 0) (.int 4)) (.int 8)) (.int (-31))) (.int 0)))) (.bi .pair (.var 20) (.bi .pair (.int 0) (.int 0)))))) (.var 0))), true),
  ((.eq (.un (.wrap .u8) (.bi (.iop .shr .u32) (.fn 2 (.bi .pair (.int 0) (.bi .pair (.fn 10 (.bi .pair (.fn 8 (.bi .pair (.var 2) (.bi .pair (.int 0) (.bi .pair (.bi .add (.int 0) (.var 0)) (.int 0))))) (.bi .pair (.fn 7 (.bi .pair (.var 10) (.bi .pair (.bi .add (.bi .mul (.bi .add (.var 0) (.int 4)) (.int 8)) (.int (-31))) (.int 0)))) (.bi .pair (.var 20) (.bi .pair (.int 0) (.int 0)))))) (.bi .pair (.int 0) (.bi .pair (.bi .add (.int 0) (.var 0)) (.int 0)))))) (.int 8))) (.bi .sel (.fn 10 (.bi .pair (.fn 8 (.bi .pair (.var 2) (.bi .pair (.int 0) (.bi .pair (.bi .add (.int 0) (.var 0)) (.int 0))))) (.bi .pair (.fn 7 (.bi .pair (.var 10) (.bi .pair (.bi .add (.bi .mul (.bi .add (.var 0) (.int 4)) (.int 8)) (.int (-31))) (.int 0)))) (.bi .pair (.var 20) (.bi .pair (.int 0) (.int 0)))))) (.bi .add (.var 0) (.int 1)))), true),
  ((.eq (.un (.wrap .u8) (.bi (.iop .shr .u32) (.fn 2 (.bi .pair (.int 0) (.bi .pair (.fn 10 (.bi .pair (.fn 8 (.bi .pair (.var 2) (.bi .pair (.int 0) (.bi .pair (.bi .add (.int 0) (.var 0)) (.int 0))))) (.bi .pair (.fn 7 (.bi .pair (.var 10) (.bi .pair (.bi .add (.bi .mul (.bi .add (.var 0) (.int 4)) (.int 8)) (.int (-31))) (.int 0)))) (.bi .pair (.var 20) (.bi .pair (.int 0) (.int 0)))))) (.bi .pair (.int 0) (.bi .pair (.bi .add (.int 0) (.var 0)) (.int 0)))))) (.int 16))) (.bi .sel (.fn 10 (.bi .pair (.fn 8 (.bi .pair (.var 2) (.bi .pair (.int 0) (.bi .pair (.bi .add (.int 0) (.var 0)) (.int 0))))) (.bi .pair (.fn 7 (.bi .pair (.var 10) (.bi .pair (.bi .add (.bi .mul (.bi .add (.var 0) (.int 4)) (.int 8)) (.int (-31))) (.int 0)))) (.bi .pair (.var 20) (.bi .pair (.int 0) (.int 0)))))) (.bi .add (.var 0) (.int 2)))), false)]
set_option maxRecDepth 100000 in
theorem c_in_y4 : yesOf Try.prog (knownV (tellA c_in_t4) tab specs overs) 6000 60 6 [.sslice 1 (.int 0) (.var 0) (.var 1) false, .sint .i64 (.var 10), .sint .u32 (.var 20)] ((globSt g0).newO (.eseq ⟨.u8, .var 0, .var 2⟩)) = true := by kernel_rfl
def c_in_t5 : List (Q × Bool) := [((.fit .i64 (.var 0)), true),
  ((.le (.var 0) (.int 1000)), true),
  ((.le (.bi .add (.int 0) (.var 0)) (.var 0)), true),
  ((.le (.var 0) (.int 1000000)), true),
  ((.fit .i64 (.bi .add (.var 0) (.int 4))), true),
  ((.le (.int 0) (.var 0)), true),
  ((.le (.var 0) (.bi .add (.var 0) (.int 4))), true),
  ((.le (.bi .add (.int 0) (.var 0)) (.bi .add (.var 0) (.int 4))), true),
  ((.eq (.un (.wrap .u8) (.fn 2 (.bi .pair (.int 0) (.bi .pair (.fn 8 (.bi .pair (.var 2) (.bi .pair (.int 0) (.bi .pair (.bi .add (.int 0) (.var 0)) (.int 0))))) (.bi .pair (.int 0) (.bi .pair (.bi .add (.int 0) (.var 0)) (.int 0))))))) (.bi .sel (.fn 8 (.bi .pair (.var 2) (.bi .pair (.int 0) (.bi .pair (.bi .add (.int 0) (.var 0)) (.int 0))))) (.var 0))), true),
  ((.eq (.un (.wrap .u8) (.bi (.iop .shr .u32) (.fn 2 (.bi .pair (.int 0) (.bi .pair (.fn 8 (.bi .pair (.var 2) (.bi .pair (.int 0) (.bi .pair (.bi .add (.int 0) (.var 0)) (.int 0))))) (.bi .pair (.int 0) (.bi .pair (.bi .add (.int 0) (.var 0)) (.int 0)))))) (.int 8))) (.bi .sel (.fn 8 (.bi .pair (.var 2) (.bi .pair (.int 0) (.bi .pair (.bi .add (.int 0) (.var 0)) (.int 0))))) (.bi .add (.var 0) (.int 1)))), true),
  ((.eq (.un (.wrap .u8) (.bi (.iop .shr .u32) (.fn 2 (.bi .pair (.int 0) (.bi .pair (.fn 8 (.bi .pair (.var 2) (.bi .pair (.int 0) (.bi .pair (.bi .add (.int 0) (.var 0)) (.int 0))))) (.bi .pair (.int 0) (.bi .pair (.bi .add (.int 0) (.var 0)) (.int 0)))))) (.int 16))) (.bi .sel (.fn 8 (.bi .pair (.var 2) (.bi .pair (.int 0) (.bi .pair (.bi .add (.int 0) (.var 0)) (.int 0))))) (.bi .add (.var 0) (.int 2)))), true),
  ((.eq (.un (.wrap .u8) (.bi (.iop .shr .u32) (.fn 2 (.bi .pair (.int 0) (.bi .pair (.fn 8 (.bi .pair (.var 2) (.bi .pair (.int 0) (.bi .pair (.bi .add (.int 0) (.var 0)) (.int 0))))) (.bi .pair (.int 0) (.bi .pair (.bi .add (.int 0) (.var 0)) (.int 0)))))) (.int 24))) (.bi .sel (.fn 8 (.bi .pair (.var 2) (.bi .pair (.int 0) (.bi .pair (.bi .add (.int 0) (.var 0)) (.int 0))))) (.bi .add (.var 0) (.int 3)))), true),
  ((.le (.bi .mul (.var 0) (.int 2)) (.int 281474976710656)), true),
  ((.same (.tr .cut (.fn 8 (.bi .pair (.var 2) (.bi .pair (.int 0) (.bi .pair (.bi .add (.int 0) (.var 0)) (.int 0))))) (.int 0) (.var 0)) (.var 2)), true),
  ((.eq (.var 20) (.int 0)), false),
  ((.fit .i64 (.bi .mul (.bi .add (.var 0) (.int 4)) (.int 8))), true),
  ((.fit .i64 (.bi .add (.bi .mul (.bi .add (.var 0) (.int 4)) (.int 8)) (.int (-31)))), true),
  ((.le (.int 1) (.bi .add (.bi .mul (.bi .add (.var 0) (.int 4)) (.int 8)) (.int (-31)))), true),
  ((.le (.int 0) (.fn 7 (.bi .pair (.var 10) (.bi .pair (.bi .add (.bi .mul (.bi .add (.var 0) (.int 4)) (.int 8)) (.int (-31))) (.int 0))))), true),
  ((.le (.bi .add (.fn 7 (.bi .pair (.var 10) (.bi .pair (.bi .add (.bi .mul (.bi .add (.var 0) (.int 4)) (.int 8)) (.int (-31))) (.int 0)))) (.int 32)) (.bi .mul (.int 8) (.bi .add (.var 0) (.int 4)))), true),
  ((.le (.bi .add (.var 0) (.int 4)) (.int 1000000)), true),
  ((.eq (.un (.wrap .u8) (.fn 2 (.bi .pair (.int 0) (.bi .pair (.fn 10 (.bi .pair (.fn 8 (.bi .pair (.var 2) (.bi .pair (.int 0) (.bi .pair (.bi .add (.int 0) (.var 0)) (.int 0))))) (.bi .pair (.fn 7 (.bi .pair (.var 10) (.bi .pair (.bi .add (.bi .mul (.bi .add (.var 0) (.int 4)) (.int 8)) (.int (-31))) (.int 0)))) (.bi .pair (.var 20) (.bi .pair (.int 0) (.int 0)))))) (.bi .pair (.int 0) (.bi .pair (.bi .add (.int 0) (.var 0)) (.int 0))))))) (.bi .sel (.fn 10 (.bi .pair (.fn 8 (.bi .pair (.var 2) (.bi .pair (.int 0) (.bi .pair (.bi .add (.int 0) (.var 0)) (.int 0))))) (.bi .pair (.fn 7 (.bi .pair (.var 10) (.bi .pair (.bi .add (.bi .mul (.bi .add (.var 0) (.int 4)) (.int 8)) (.int (-31))) (.int 0)))) (.bi .pair (.var 20) (.bi .pair (.int 0) (.int 0)))))) (.var 0))), true),
  ((.eq (.un (.wrap .u8) (.bi (.iop .shr .u32) (.fn 2 (.bi .pair (.int 0) (.bi .pair (.fn 10 (.bi .pair (.fn 8 (.bi .pair (.var 2) (.bi .pair (.int 0) (.bi .pair (.bi .add (.int 0) (.var 0)) (.int 0))))) (.bi .pair (.fn 7 (.bi .pair (.var 10) (.bi .pair (.bi .add (.bi .mul (.bi .add (.var 0) (.int 4)) (.int 8)) (.int (-31))) (.int 0)))) (.bi .pair (.var 20) (.bi .pair (.int 0) (.int 0)))))) (.bi .pair (.int 0) (.bi .pair (.bi .add (.int 0) (.var 0)) (.int 0)))))) (.int 8))) (.bi .sel (.fn 10 (.bi .pair (.fn 8 (.bi .pair (.var 2) (.bi .pair (.int 0) (.bi .pair (.bi .add (.int 0) (.var 0)) (.int 0))))) (.bi .pair (.fn 7 (.bi .pair (.var 10) (.bi .pair (.bi .add (.bi .mul (.bi .add (.var 0) (.int 4)) (.int 8)) (.int (-31))) (.int 0)))) (.bi .pair (.var 20) (.bi .pair (.int 0) (.int 0)))))) (.bi .add (.var 0) (.int 1)))), true),
  ((.eq (.un (.wrap .u8) (.bi (.iop .shr .u32) (.fn 2 (.bi .pair (.int 0) (.bi .pair (.fn 10 (.bi .pair (.fn 8 (.bi .pair (.var 2) (.bi .pair (.int 0) (.bi .pair (.bi .add (.int 0) (.var 0)) (.int 0))))) (.bi .pair (.fn 7 (.bi .pair (.var 10) (.bi .pair (.bi .add (.bi .mul (.bi .add (.var 0) (.int 4)) (.int 8)) (.int (-31))) (.int 0)))) (.bi .pair (.var 20) (.bi .pair (.int 0) (.int 0)))))) (.bi .pair (.int 0) (.bi .pair (.bi .add (.int 0) (.var 0)) (.int 0)))))) (.int 16))) (.bi .sel (.fn 10 (.bi .pair (.fn 8 (.bi .pair (.var 2) (.bi .pair (.int 0) (.bi .pair (.bi .add (.int 0) (.var 0)) (.int 0))))) (.bi .pair (.fn 7 (.bi .pair (.var 10) (.bi .pair (.bi .add (.bi .mul (.bi .add (.var 0) (.int 4)) (.int 8)) (.int (-31))) (.int 0)))) (.bi .pair (.var 20) (.bi .pair (.int 0) (.int 0)))))) (.bi .add (.var 0) (.int 2)))), true),
  ((.eq (.un (.wrap .u8) (.bi (.iop .shr .u32) (.fn 2 (.bi .pair (.int 0) (.bi .pair (.fn 10 (.bi .pair (.fn 8 (.bi .pair (.var 2) (.bi .pair (.int 0) (.bi .pair (.bi .add (.int 0) (.var 0)) (.int 0))))) (.bi .pair (.fn 7 (.bi .pair (.var 10) (.bi .pair (.bi .add (.bi .mul (.bi .add (.var 0) (.int 4)) (.int 8)) (.int (-31))) (.int 0)))) (.bi .pair (.var 20) (.bi .pair (.int 0) (.int 0)))))) (.bi .pair (.int 0) (.bi .pair (.bi .add (.int 0) (.var 0)) (.int 0)))))) (.int 24))) (.bi .sel (.fn 10 (.bi .pair (.fn 8 (.bi .pair (.var 2) (.bi .pair (.int 0) (.bi .pair (.bi .add (.int 0) (.var 0)) (.int 0))))) (.bi .pair (.fn 7 (.bi .pair (.var 10) (.bi .pair (.bi .add (.bi .mul (.bi .add (.var 0) (.int 4)) (.int 8)) (.int (-31))) (.int 0)))) (.bi .pair (.var 20) (.bi .pair (.int 0) (.int 0)))))) (.bi .add (.var 0) (.int 3)))), false)]
set_option maxRecDepth 100000 in
theorem c_in_y5 : yesOf Try.prog (knownV (tellA c_in_t5) tab specs overs) 6000 60 6 [.sslice 1 (.int 0) (.var 0) (.var 1) false, .sint .i64 (.var 10), .sint .u32 (.var 20)] ((globSt g0).newO (.eseq ⟨.u8, .var 0, .var 2⟩)) = true := by kernel_rfl
theorem c_in_walk {W : World} {v0 : Value} {b0 off0 len0 cap0 : Nat} {zs0 : List Int} (h0 : InSlice W .u8 v0 b0 off0 len0 cap0 zs0) {n1 : Int} (hn1 : inK .i64 n1) {n2 : Int} (hn2 : inK .u32 n2) (hG : GlobsR (om len0 cap0 zs0 n1 n2) W g0) : Calls Try.prog 6 #[v0, .int .i64 n1, .int .u32 n2] W fun e w' => e = .returned (.bool true) ∧ Below W.heap.size W w' := by
  have r0 := Rel.globs (om len0 cap0 zs0 n1 n2) W g0 hG
  obtain ⟨le0, r1, x0⟩ := h0.open r0 (l := 0) (c := 1) (x := 2) rfl rfl rfl
  have pos0 := h0.pos
  have lec0 := h0.le
  have max0 := h0.max
  have zl0 := h0.len
  have rng0 := h0.rng
  have hargs : VRs _ [.sslice 1 (.int 0) (.var 0) (.var 1) false, .sint .i64 (.var 10), .sint .u32 (.var 20)] [v0, .int .i64 n1, .int .u32 n2] := VRs_cons x0 (VRs_cons (vr_sint (i := 10) hn1 (by rw [r1.opq]; rfl)) (VRs_cons (vr_sint (i := 20) hn2 (by rw [r1.opq]; rfl)) (VRs_nil)))
  simp only [inK, i64min, i64max, u8min, u8max, u32min, u32max, u64min, u64max] at hn1
  simp only [inK, i64min, i64max, u8min, u8max, u32min, u32max, u64min, u64max] at hn2
  by_cases h : 1000 < len0
  · refine calls_of_yesV sound tab_ok specs_ok overs_ok c_in_y0 rfl (tellA_ok (allTold'_iff.1 ?_)) r1 hargs
    simp only [c_in_t0, om_0, om_1, om_2, om_10, om_20, om_f, allTold', dutiesTold, factsA, factsP, factsR, AV.facts, RW.facts, inK, and_true, Q.holds', E.i, E.s, E.n, D.nat, E.den, BO.den, UO.den, TO.den, D.toInt_int, D.toList_list, D.ints_ofInts, i64min, i64max, u8min, u8max, u16min, u16max, u32min, u32max, u64min, u64max, i32min, i32max, Om.sub, selI, ints_app, ints_cut, ints_upd, ints_rep, ints_splice, len_ints]
    omega
  · have p0 : prt zs0 0 len0 = zs0 := prt_all (by omega)
    have pw : prt (putI zs0) 0 len0 = zs0 := prt_put (by omega)
    have d0 : List.drop (Int.toNat 0) (List.take (Int.toNat (len0 : Int)) (putI zs0)) = zs0 := pw
    have sp := sel_put (P := zs0) (n := len0) (by omega)
    have ha := emod_in (x := n1) (n := ((len0 : Int) + 4) * 8 + -31) (by omega)
    obtain ⟨a, hA⟩ : ∃ a, n1 % (((len0 : Int) + 4) * 8 + -31) = a := ⟨_, rfl⟩
    rw [hA] at ha
    by_cases hm : n2 = 0
    · refine calls_of_yesV sound tab_ok specs_ok overs_ok c_in_y1 rfl (tellA_ok (allTold'_iff.1 ?_)) r1 hargs
      simp only [c_in_t1, om_0, om_1, om_2, om_10, om_20, om_f, F2, F7, F8, F10, Int.zero_add, allTold', dutiesTold, factsA, factsP, factsR, AV.facts, RW.facts, inK, and_true, Q.holds', E.i, E.s, E.n, D.nat, E.den, BO.den, UO.den, TO.den, D.toInt_int, D.toList_list, D.ints_ofInts, i64min, i64max, u8min, u8max, u16min, u16max, u32min, u32max, u64min, u64max, i32min, i32max, Om.sub, selI, ints_app, ints_cut, ints_upd, ints_rep, ints_splice, len_ints]
      simp only [hA, p0, pw, d0, sp.1, sp.2.1, sp.2.2.1, sp.2.2.2, s32, and_true, true_and]
      omega
    · have hno := no4 (P := zs0) (X := flipI a n2 32 0 (putI zs0)) (f := a) (m := n2) (n := len0) rng0 (by omega) (by omega) (by omega) (by omega) hn2 hm rfl
      by_cases c0 : IntKind.u8.wrap (notI (moreI (notI 0) (prt (flipI a n2 32 0 (putI zs0)) 0 (len0 : Int)))) = ((flipI a n2 32 0 (putI zs0))[Int.toNat ((len0 : Int))]?).getD 0
      · by_cases c1 : IntKind.u8.wrap (iopI .shr .u32 (notI (moreI (notI 0) (prt (flipI a n2 32 0 (putI zs0)) 0 (len0 : Int)))) 8) = ((flipI a n2 32 0 (putI zs0))[Int.toNat ((len0 : Int) + 1)]?).getD 0
        · by_cases c2 : IntKind.u8.wrap (iopI .shr .u32 (notI (moreI (notI 0) (prt (flipI a n2 32 0 (putI zs0)) 0 (len0 : Int)))) 16) = ((flipI a n2 32 0 (putI zs0))[Int.toNat ((len0 : Int) + 2)]?).getD 0
          · by_cases c3 : IntKind.u8.wrap (iopI .shr .u32 (notI (moreI (notI 0) (prt (flipI a n2 32 0 (putI zs0)) 0 (len0 : Int)))) 24) = ((flipI a n2 32 0 (putI zs0))[Int.toNat ((len0 : Int) + 3)]?).getD 0
            · exact (hno ⟨c0, c1, c2, c3⟩).elim
            · refine calls_of_yesV sound tab_ok specs_ok overs_ok c_in_y5 rfl (tellA_ok (allTold'_iff.1 ?_)) r1 hargs
              simp only [c_in_t5, om_0, om_1, om_2, om_10, om_20, om_f, F2, F7, F8, F10, Int.zero_add, allTold', dutiesTold, factsA, factsP, factsR, AV.facts, RW.facts, inK, and_true, Q.holds', E.i, E.s, E.n, D.nat, E.den, BO.den, UO.den, TO.den, D.toInt_int, D.toList_list, D.ints_ofInts, i64min, i64max, u8min, u8max, u16min, u16max, u32min, u32max, u64min, u64max, i32min, i32max, Om.sub, selI, ints_app, ints_cut, ints_upd, ints_rep, ints_splice, len_ints]
              simp only [hA, p0, pw, d0, sp.1, sp.2.1, sp.2.2.1, sp.2.2.2, s32, and_true, true_and]
              omega
          · refine calls_of_yesV sound tab_ok specs_ok overs_ok c_in_y4 rfl (tellA_ok (allTold'_iff.1 ?_)) r1 hargs
            simp only [c_in_t4, om_0, om_1, om_2, om_10, om_20, om_f, F2, F7, F8, F10, Int.zero_add, allTold', dutiesTold, factsA, factsP, factsR, AV.facts, RW.facts, inK, and_true, Q.holds', E.i, E.s, E.n, D.nat, E.den, BO.den, UO.den, TO.den, D.toInt_int, D.toList_list, D.ints_ofInts, i64min, i64max, u8min, u8max, u16min, u16max, u32min, u32max, u64min, u64max, i32min, i32max, Om.sub, selI, ints_app, ints_cut, ints_upd, ints_rep, ints_splice, len_ints]
            simp only [hA, p0, pw, d0, sp.1, sp.2.1, sp.2.2.1, sp.2.2.2, s32, and_true, true_and]
            omega
        · refine calls_of_yesV sound tab_ok specs_ok overs_ok c_in_y3 rfl (tellA_ok (allTold'_iff.1 ?_)) r1 hargs
          simp only [c_in_t3, om_0, om_1, om_2, om_10, om_20, om_f, F2, F7, F8, F10, Int.zero_add, allTold', dutiesTold, factsA, factsP, factsR, AV.facts, RW.facts, inK, and_true, Q.holds', E.i, E.s, E.n, D.nat, E.den, BO.den, UO.den, TO.den, D.toInt_int, D.toList_list, D.ints_ofInts, i64min, i64max, u8min, u8max, u16min, u16max, u32min, u32max, u64min, u64max, i32min, i32max, Om.sub, selI, ints_app, ints_cut, ints_upd, ints_rep, ints_splice, len_ints]
          simp only [hA, p0, pw, d0, sp.1, sp.2.1, sp.2.2.1, sp.2.2.2, s32, and_true, true_and]
          omega
      · refine calls_of_yesV sound tab_ok specs_ok overs_ok c_in_y2 rfl (tellA_ok (allTold'_iff.1 ?_)) r1 hargs
        simp only [c_in_t2, om_0, om_1, om_2, om_10, om_20, om_f, F2, F7, F8, F10, Int.zero_add, allTold', dutiesTold, factsA, factsP, factsR, AV.facts, RW.facts, inK, and_true, Q.holds', E.i, E.s, E.n, D.nat, E.den, BO.den, UO.den, TO.den, D.toInt_int, D.toList_list, D.ints_ofInts, i64min, i64max, u8min, u8max, u16min, u16max, u32min, u32max, u64min, u64max, i32min, i32max, Om.sub, selI, ints_app, ints_cut, ints_upd, ints_rep, ints_splice, len_ints]
        simp only [hA, p0, pw, d0, sp.1, sp.2.1, sp.2.2.1, sp.2.2.2, s32, and_true, true_and]
        omega

theorem underS22 : Try.prog.underlying 22 = some (.slice 5) := by kernel_rfl
theorem underE5 : Try.prog.underlying 5 = some (.int .u8) := by kernel_rfl
theorem cellsE5 : Try.prog.cellsOf 5 = 1 := by kernel_rfl
theorem underI3 : Try.prog.underlying 3 = some (.int .i64) := by kernel_rfl
theorem underI25 : Try.prog.underlying 25 = some (.int .u32) := by kernel_rfl

set_option maxRecDepth 100000 in
theorem lifted (os : Os) (started : os.Started) (H : Type) (enc : TypeId × Value → H) :
    ReturnsInHanded {} Try.checked os 6 .any (Rows.guardBurstsSpec.pre6 enc Try.prog Try.f6 Rows.guardBurstsRow.domain false) (Rows.guardBurstsSpec.post enc Try.prog Try.f6 false true false false) := by
  refine returnsInHanded_of_change (C := Try.checked) own started (by kernel_rfl) Try.func6
    (ChangeSpec.witness6 (enc := enc) (C := Try.checked) false ⟨#[], #[.slice none 0 0, .int .i64 0, .int .u32 0], []⟩ 8 (by kernel_rfl) (by kernel_rfl) (by kernel_rfl) (by kernel_rfl)) ?_
  intro W base args ds gs before hval0 hW hcnd _
  have hval : ∀ (j : Nat) t v, Try.f6.params[j]? = some t → args[j]? = some v → Value.okWide Try.prog W .any base t v := hval0
  have hW' := hW
  have hlt := hW.lt
  obtain ⟨p, q, hA0, hV, rfl, hfz, hnd⟩ := hW
  have hA : DataW.TrodAll enc Try.prog W 0 (fun _ => true) true Try.f6.params.toList args.toList ds p := hA0
  have hAll := hA
  rw [Try.params6] at hA hval hAll
  obtain ⟨rfl, rfl⟩ := trodVars_none hV
  obtain ⟨v0, v1, v2, d0, d1, d2, p0, p1, p2, rfl, rfl, rfl, h0, h1, h2⟩ := trodAll_three hA
  have s0 := in_slice (k := .u8) underS22 underE5 cellsE5 (hval 0 22 _ rfl rfl) h0
  obtain ⟨n1, rfl, rfl, rfl, wn1⟩ := open_int underI3 (hval 1 3 _ rfl rfl) h1
  have wn1 := wf_inK wn1
  obtain ⟨n2, rfl, rfl, rfl, wn2⟩ := open_int underI25 (hval 2 25 _ rfl rfl) h2
  have wn2 := wf_inK wn2
  clear hA0 hval0
  have hcall : Calls Try.prog 6 #[v0, .int .i64 n1, .int .u32 n2] W fun e w' => e = .returned (.bool true) ∧ Below W.heap.size W w' := by
    rcases s0 with rfl | ⟨a0, c0, rfl⟩ | ⟨_, _, _, _, _, s0⟩
    · exact c_nil_walk wn1 wn2 (globs0 _ W)
    · exact c_hol_walk a0 c0 wn1 wn2 (globs0 _ W)
    · exact c_in_walk s0 wn1 wn2 (globs0 _ W)
  refine hcall.mono fun e W' ⟨he, hg⟩ => ?_
  subst he
  exact ⟨_, rfl, _, [], _, [], _, [], hW', trodAll_cons_mk (shut_bool Try.underlying4 _) trodAll_mk0, trodAll_stays laid hg _ _ _ _ hAll (fun x hx => hlt x (by simpa using hx)) (by kernel_rfl), rfl, hg.frame _, fun h => by cases h⟩

theorem over : Rows.guardBurstsRow.holds Try.pinned (OpenSpec.ofChange Rows.guardBurstsSpec) :=
  OpenClaim.holds_of_wide 6 Try.f6 rfl rfl rfl rfl rfl rfl rfl ⟨rfl, rfl, rfl, rfl, rfl⟩ rfl rfl rfl rfl rfl (by kernel_rfl) Try.func6 (by kernel_rfl)
    (of_decide_eq_true (by kernel_rfl)) (by unfold Func.isWrapper; first | (rw [if_pos (by decide +kernel)]; kernel_rfl) | (rw [if_neg (by decide +kernel)]; exact ⟨rfl, rfl⟩))
    (fun os started H enc _ => lifted os started H enc)

/-- The statement. -/
theorem proved : Rows.GuardBurstsSaid :=
  over
#print axioms proved
end Go.Proofs.Ytdkkibhebfliiaa.guardBursts
