/-
 The law ChunkPieces of the layer chunk holds of the code: for all inputs the call returns true, and the arguments read as they did. No condition.
-/
import Derived.Test.YtceealenelhaiaaCo
import Derived.Test.YtceealenelhaiaaSycp
import Derived.Test.YtceealenelhaiaaHc
import Derived.Test.YtceealenelhaiaaGa
import Derived.Test.YtceealenelhaiaaGb
import Derived.Test.YtceealenelhaiaaHa
import Derived.Test.YtceealenelhaiaaHb
import Derived.WalkKit
import Derived.ProofKit
import Derived.OpenShut
set_option linter.unusedSimpArgs false
set_option linter.unusedVariables false
namespace Go.Proofs.Ytceealenelhaiaa.chunkPieces
open Go.ChangeShapes Go.WideShapes Go.ChangeAt Go.RowKit Go.Ev Go.Proofs.Ytceealenelhaiaa.Co Go.Proofs.Ytceealenelhaiaa.Hc Go.Proofs.Ytceealenelhaiaa.Ga Go.Proofs.Ytceealenelhaiaa.Gb Go.Proofs.Ytceealenelhaiaa.Ha Go.Proofs.Ytceealenelhaiaa.Hb

def om (len0 cap0 : Nat) (zs0 : List Int) (len1 cap1 : Nat) (zs1 : List Int) : Om := ⟨fun _ => .bool false, fun i => if i = 0 then .int len0 else if i = 1 then .int cap0 else if i = 2 then D.ofInts zs0 else if i = 10 then .int len1 else if i = 11 then .int cap1 else if i = 12 then D.ofInts zs1 else .int 0, F⟩
theorem om_0 (len0 cap0 : Nat) (zs0 : List Int) (len1 cap1 : Nat) (zs1 : List Int) : (om len0 cap0 zs0 len1 cap1 zs1).d 0 = .int len0 := rfl
theorem om_1 (len0 cap0 : Nat) (zs0 : List Int) (len1 cap1 : Nat) (zs1 : List Int) : (om len0 cap0 zs0 len1 cap1 zs1).d 1 = .int cap0 := rfl
theorem om_2 (len0 cap0 : Nat) (zs0 : List Int) (len1 cap1 : Nat) (zs1 : List Int) : (om len0 cap0 zs0 len1 cap1 zs1).d 2 = D.ofInts zs0 := rfl
theorem om_10 (len0 cap0 : Nat) (zs0 : List Int) (len1 cap1 : Nat) (zs1 : List Int) : (om len0 cap0 zs0 len1 cap1 zs1).d 10 = .int len1 := rfl
theorem om_11 (len0 cap0 : Nat) (zs0 : List Int) (len1 cap1 : Nat) (zs1 : List Int) : (om len0 cap0 zs0 len1 cap1 zs1).d 11 = .int cap1 := rfl
theorem om_12 (len0 cap0 : Nat) (zs0 : List Int) (len1 cap1 : Nat) (zs1 : List Int) : (om len0 cap0 zs0 len1 cap1 zs1).d 12 = D.ofInts zs1 := rfl
theorem om_f (len0 cap0 : Nat) (zs0 : List Int) (len1 cap1 : Nat) (zs1 : List Int) : (om len0 cap0 zs0 len1 cap1 zs1).f = F := rfl

def c_emp_emp_t0 : List (Q × Bool) := []
set_option maxRecDepth 100000 in
theorem c_emp_emp_y0 : yesOf Try.prog (knownV (tellA c_emp_emp_t0) tabQ specsQ oversQ) 8000 80 3 [.empty, .empty] (globSt g0) = true := by kernel_rfl
set_option maxRecDepth 100000 in
set_option maxHeartbeats 6000000 in
theorem c_emp_emp_walk {W : World} {v0 : Value} (hv0 : ∀ e : Env, VR e .empty v0) {v1 : Value} (hv1 : ∀ e : Env, VR e .empty v1) (hG : GlobsR (om 0 0 [] 0 0 []) W g0) : Calls Try.prog 3 #[v0, v1] W fun e w' => e = .returned (.bool true) ∧ Below W.heap.size W w' := by
 have r0 := Rel.globs (om 0 0 [] 0 0 []) W g0 hG
 have hargs : VRs (Env.none (om 0 0 [] 0 0 []) W) [.empty, .empty] [v0, v1] := VRs_cons (hv0 _) (VRs_cons (hv1 _) (VRs_nil))
 refine calls_of_yesV sound tabQ_ok specsQ_ok oversQ_ok c_emp_emp_y0 rfl (tellA_ok (allTold'_iff.1 ?_)) r0 hargs
 simp only [c_emp_emp_t0, om_0, om_1, om_2, om_10, om_11, om_12, om_f, tl]
 first | omega | trivial | done

abbrev as0 : Q × Bool := ((.fit .i64 (.var 10)), true)
abbrev as1 : Q × Bool := ((.le (.var 10) (.int 100)), false)
def c_emp_in_t0 : List (Q × Bool) := [as0, as1]
set_option maxRecDepth 100000 in
theorem c_emp_in_y0 : yesOf Try.prog (knownV (tellA c_emp_in_t0) tabQ specsQ oversQ) 8000 80 3 [.empty, .sslice 1 (.int 0) (.var 10) (.var 11) false] ((globSt g0).newO (.eseq ⟨.i64, .var 10, .var 12⟩)) = true := by kernel_rfl
abbrev as2 : Q × Bool := ((.le (.var 10) (.int 100)), true)
abbrev as3 : Q × Bool := ((.le (.int 0) (.bi .add (.var 10) (.int 1))), true)
def c_emp_in_t1 : List (Q × Bool) := [as0, as2, as3]
set_option maxRecDepth 100000 in
theorem c_emp_in_y1 : yesOf Try.prog (knownV (tellA c_emp_in_t1) tabQ specsQ oversQ) 8000 80 3 [.empty, .sslice 1 (.int 0) (.var 10) (.var 11) false] ((globSt g0).newO (.eseq ⟨.i64, .var 10, .var 12⟩)) = true := by kernel_rfl
set_option maxRecDepth 100000 in
set_option maxHeartbeats 6000000 in
theorem c_emp_in_walk {W : World} {v0 : Value} (hv0 : ∀ e : Env, VR e .empty v0) {v1 : Value} {b1 off1 len1 cap1 : Nat} {zs1 : List Int} (h1 : InSlice W .i64 v1 b1 off1 len1 cap1 zs1) (hG : GlobsR (om 0 0 [] len1 cap1 zs1) W g0) : Calls Try.prog 3 #[v0, v1] W fun e w' => e = .returned (.bool true) ∧ Below W.heap.size W w' := by
 have r0 := Rel.globs (om 0 0 [] len1 cap1 zs1) W g0 hG
 obtain ⟨le1, r1, x1⟩ := h1.open r0 (l := 10) (c := 11) (x := 12) rfl rfl rfl
 have pos1 := h1.pos
 have lec1 := h1.le
 have max1 := h1.max
 have zl1 := h1.len
 have rng1 := h1.rng
 have hargs : VRs _ [.empty, .sslice 1 (.int 0) (.var 10) (.var 11) false] [v0, v1] := VRs_cons (hv0 _) (VRs_cons (x1) (VRs_nil))
 by_cases g : 100 < len1
 ·refine calls_of_yesV sound tabQ_ok specsQ_ok oversQ_ok c_emp_in_y0 rfl (tellA_ok (allTold'_iff.1 ?_)) r1 hargs
  simp only [c_emp_in_t0, om_0, om_1, om_2, om_10, om_11, om_12, om_f, tl]
  omega
 refine calls_of_yesV sound tabQ_ok specsQ_ok oversQ_ok c_emp_in_y1 rfl (tellA_ok (allTold'_iff.1 ?_)) r1 hargs
 simp only [c_emp_in_t1, om_0, om_1, om_2, om_10, om_11, om_12, om_f, tl]
 first | omega | trivial | done

abbrev as4 : Q × Bool := ((.fit .i64 (.var 0)), true)
abbrev as5 : Q × Bool := ((.le (.var 0) (.int 8000)), false)
def c_in_emp_t0 : List (Q × Bool) := [as4, as5]
set_option maxRecDepth 100000 in
theorem c_in_emp_y0 : yesOf Try.prog (knownV (tellA c_in_emp_t0) tabQ specsQ oversQ) 8000 80 3 [.sslice 1 (.int 0) (.var 0) (.var 1) false, .empty] ((globSt g0).newO (.eseq ⟨.u8, .var 0, .var 2⟩)) = true := by kernel_rfl
abbrev as6 : Q × Bool := ((.le (.var 0) (.int 8000)), true)
abbrev as7 : Q × Bool := ((.le (.int 0) (.bi .add (.int 0) (.int 1))), true)
abbrev as8 : Q × Bool := ((.eq (.fn 40 (.bi .pair (.int 0) (.bi .pair (.int 0) (.bi .pair (.var 0) (.int 0))))) (.int 1)), true)
abbrev as9 : Q × Bool := ((.le (.int 1) (.var 0)), true)
abbrev as10 : Q × Bool := ((.le (.int 0) (.var 0)), true)
abbrev as11 : Q × Bool := ((.eq (.bi .add (.int 0) (.var 0)) (.var 0)), true)
abbrev as12 : Q × Bool := ((.le (.var 0) (.var 1)), true)
abbrev as13 : Q × Bool := ((.same (.un .code (.var 2)) (.un .code (.fn 41 (.bi .pair (.var 2) (.int 0))))), true)
abbrev as14 : Q × Bool := ((.same (.lits [0, 0, 0, 0, 0, 0, 0, 0, 0, 0, 0, 0, 0, 0, 0, 0]) (.fn 9 (.bi .pair (.var 2) (.bi .pair (.int 0) (.bi .pair (.bi .add (.int 0) (.int 1)) (.int 0)))))), true)
abbrev as15 : Q × Bool := ((.eq (.int 0) (.fn 11 (.bi .pair (.var 2) (.bi .pair (.int 0) (.bi .pair (.bi .add (.int 0) (.int 1)) (.int 0)))))), true)
abbrev as16 : Q × Bool := ((.le (.int 1) (.fn 21 (.bi .pair (.var 2) (.bi .pair (.int 0) (.bi .pair (.int 0) (.bi .pair (.int 0) (.bi .pair (.int 0) (.int 0)))))))), false)
abbrev as17 : Q × Bool := ((.le (.int 1) (.un .len (.fn 20 (.bi .pair (.var 2) (.bi .pair (.int 0) (.bi .pair (.int 0) (.bi .pair (.int 0) (.bi .pair (.int 0) (.int 0))))))))), false)
abbrev as18 : Q × Bool := ((.le (.int 1) (.fn 21 (.bi .pair (.var 2) (.bi .pair (.int 0) (.bi .pair (.var 0) (.bi .pair (.int 0) (.bi .pair (.int 0) (.int 0)))))))), true)
abbrev as19 : Q × Bool := ((.le (.int 1) (.un .len (.fn 20 (.bi .pair (.var 2) (.bi .pair (.int 0) (.bi .pair (.var 0) (.bi .pair (.int 0) (.bi .pair (.int 0) (.int 0))))))))), false)
abbrev as20 : Q × Bool := ((.fit .i64 (.fn 21 (.bi .pair (.var 2) (.bi .pair (.int 0) (.bi .pair (.var 0) (.bi .pair (.int 0) (.bi .pair (.int 0) (.int 0)))))))), true)
abbrev as21 : Q × Bool := ((.le (.fn 21 (.bi .pair (.var 2) (.bi .pair (.int 0) (.bi .pair (.var 0) (.bi .pair (.int 0) (.bi .pair (.int 0) (.int 0))))))) (.int 0)), false)
abbrev as22 : Q × Bool := ((.le (.bi .add (.int 0) (.var 0)) (.var 0)), true)
abbrev as23 : Q × Bool := ((.le (.var 0) (.int 20000)), true)
abbrev as24 : Q × Bool := ((.fit .i64 (.un .len (.fn 33 (.bi .pair (.var 2) (.bi .pair (.int 0) (.bi .pair (.var 0) (.int 0))))))), true)
abbrev as25 : Q × Bool := ((.eq (.int 1) (.un .len (.fn 33 (.bi .pair (.var 2) (.bi .pair (.int 0) (.bi .pair (.var 0) (.int 0))))))), true)
abbrev as26 : Q × Bool := ((.eq (.un .len (.fn 33 (.bi .pair (.var 2) (.bi .pair (.int 0) (.bi .pair (.var 0) (.int 0)))))) (.int 1)), true)
abbrev as27 : Q × Bool := ((.same (.un .code (.bi .snoc (.lits []) (.fn 22 (.bi .pair (.var 2) (.bi .pair (.int 0) (.bi .pair (.var 0) (.bi .pair (.int 0) (.bi .pair (.int 0) (.bi .pair (.lits []) (.int 0)))))))))) (.un .code (.fn 33 (.bi .pair (.var 2) (.bi .pair (.int 0) (.bi .pair (.var 0) (.int 0))))))), true)
def c_in_emp_t1 : List (Q × Bool) := [as4, as6, as7, as8, as9, as10, as11, as12, as13, as14, as15, as16, as17, as18, as19, as20, as21, as22, as23, as24, as25, as26, as27]
set_option maxRecDepth 100000 in
theorem c_in_emp_y1 : yesOf Try.prog (knownV (tellA c_in_emp_t1) tabQ specsQ oversQ) 8000 80 3 [.sslice 1 (.int 0) (.var 0) (.var 1) false, .empty] ((globSt g0).newO (.eseq ⟨.u8, .var 0, .var 2⟩)) = true := by kernel_rfl
abbrev as28 : Q × Bool := ((.le (.int 1) (.fn 21 (.bi .pair (.var 2) (.bi .pair (.int 0) (.bi .pair (.var 0) (.bi .pair (.int 0) (.bi .pair (.int 0) (.int 0)))))))), false)
abbrev as29 : Q × Bool := ((.le (.int 1) (.un .len (.fn 20 (.bi .pair (.var 2) (.bi .pair (.int 0) (.bi .pair (.var 0) (.bi .pair (.int 0) (.bi .pair (.int 0) (.int 0))))))))), true)
abbrev as30 : Q × Bool := ((.fit .i64 (.un .len (.fn 30 (.bi .pair (.var 2) (.bi .pair (.int 0) (.bi .pair (.var 0) (.bi .pair (.int 0) (.bi .pair (.int 0) (.bi .pair (.lits []) (.int 0)))))))))), true)
abbrev as31 : Q × Bool := ((.eq (.un .len (.fn 30 (.bi .pair (.var 2) (.bi .pair (.int 0) (.bi .pair (.var 0) (.bi .pair (.int 0) (.bi .pair (.int 0) (.bi .pair (.lits []) (.int 0))))))))) (.un .len (.fn 33 (.bi .pair (.var 2) (.bi .pair (.int 0) (.bi .pair (.var 0) (.int 0))))))), true)
abbrev as32 : Q × Bool := ((.eq (.un .len (.fn 33 (.bi .pair (.var 2) (.bi .pair (.int 0) (.bi .pair (.var 0) (.int 0)))))) (.un .len (.fn 30 (.bi .pair (.var 2) (.bi .pair (.int 0) (.bi .pair (.var 0) (.bi .pair (.int 0) (.bi .pair (.int 0) (.bi .pair (.lits []) (.int 0)))))))))), true)
abbrev as33 : Q × Bool := ((.le (.int 0) (.un .len (.fn 30 (.bi .pair (.var 2) (.bi .pair (.int 0) (.bi .pair (.var 0) (.bi .pair (.int 0) (.bi .pair (.int 0) (.bi .pair (.lits []) (.int 0)))))))))), true)
abbrev as34 : Q × Bool := ((.le (.un .len (.fn 30 (.bi .pair (.var 2) (.bi .pair (.int 0) (.bi .pair (.var 0) (.bi .pair (.int 0) (.bi .pair (.int 0) (.bi .pair (.lits []) (.int 0))))))))) (.int 20001)), true)
abbrev as35 : Q × Bool := ((.same (.un .code (.fn 30 (.bi .pair (.var 2) (.bi .pair (.int 0) (.bi .pair (.var 0) (.bi .pair (.int 0) (.bi .pair (.int 0) (.bi .pair (.lits []) (.int 0))))))))) (.un .code (.fn 33 (.bi .pair (.var 2) (.bi .pair (.int 0) (.bi .pair (.var 0) (.int 0))))))), true)
def c_in_emp_t2 : List (Q × Bool) := [as4, as6, as7, as8, as9, as10, as11, as12, as13, as14, as15, as16, as17, as28, as29, as22, as23, as30, as24, as31, as32, as33, as34, as35]
set_option maxRecDepth 100000 in
theorem c_in_emp_y2 : yesOf Try.prog (knownV (tellA c_in_emp_t2) tabQ specsQ oversQ) 8000 80 3 [.sslice 1 (.int 0) (.var 0) (.var 1) false, .empty] ((globSt g0).newO (.eseq ⟨.u8, .var 0, .var 2⟩)) = true := by kernel_rfl
abbrev as36 : Q × Bool := ((.le (.bi .mul (.bi .add (.un .len (.fn 30 (.bi .pair (.var 2) (.bi .pair (.int 0) (.bi .pair (.var 0) (.bi .pair (.int 0) (.bi .pair (.int 0) (.bi .pair (.lits []) (.int 0))))))))) (.int 1)) (.int 48)) (.int 281474976710656)), true)
abbrev as37 : Q × Bool := ((.fit .i64 (.bi .add (.un .len (.fn 30 (.bi .pair (.var 2) (.bi .pair (.int 0) (.bi .pair (.var 0) (.bi .pair (.int 0) (.bi .pair (.int 0) (.bi .pair (.lits []) (.int 0))))))))) (.int 1))), true)
abbrev as38 : Q × Bool := ((.eq (.bi .add (.un .len (.fn 30 (.bi .pair (.var 2) (.bi .pair (.int 0) (.bi .pair (.var 0) (.bi .pair (.int 0) (.bi .pair (.int 0) (.bi .pair (.lits []) (.int 0))))))))) (.int 1)) (.un .len (.fn 33 (.bi .pair (.var 2) (.bi .pair (.int 0) (.bi .pair (.var 0) (.int 0))))))), true)
abbrev as39 : Q × Bool := ((.eq (.un .len (.fn 33 (.bi .pair (.var 2) (.bi .pair (.int 0) (.bi .pair (.var 0) (.int 0)))))) (.bi .add (.un .len (.fn 30 (.bi .pair (.var 2) (.bi .pair (.int 0) (.bi .pair (.var 0) (.bi .pair (.int 0) (.bi .pair (.int 0) (.bi .pair (.lits []) (.int 0))))))))) (.int 1))), true)
abbrev as40 : Q × Bool := ((.le (.int 0) (.bi .add (.un .len (.fn 30 (.bi .pair (.var 2) (.bi .pair (.int 0) (.bi .pair (.var 0) (.bi .pair (.int 0) (.bi .pair (.int 0) (.bi .pair (.lits []) (.int 0))))))))) (.int 1))), true)
abbrev as41 : Q × Bool := ((.le (.bi .add (.un .len (.fn 30 (.bi .pair (.var 2) (.bi .pair (.int 0) (.bi .pair (.var 0) (.bi .pair (.int 0) (.bi .pair (.int 0) (.bi .pair (.lits []) (.int 0))))))))) (.int 1)) (.int 20001)), true)
abbrev as42 : Q × Bool := ((.same (.un .code (.bi .snoc (.fn 30 (.bi .pair (.var 2) (.bi .pair (.int 0) (.bi .pair (.var 0) (.bi .pair (.int 0) (.bi .pair (.int 0) (.bi .pair (.lits []) (.int 0)))))))) (.fn 22 (.bi .pair (.var 2) (.bi .pair (.int 0) (.bi .pair (.var 0) (.bi .pair (.int 0) (.bi .pair (.int 0) (.bi .pair (.lits []) (.int 0)))))))))) (.un .code (.fn 33 (.bi .pair (.var 2) (.bi .pair (.int 0) (.bi .pair (.var 0) (.int 0))))))), true)
def c_in_emp_t3 : List (Q × Bool) := [as4, as6, as7, as8, as9, as10, as11, as12, as13, as14, as15, as16, as17, as18, as29, as20, as21, as36, as22, as23, as37, as24, as38, as39, as40, as41, as42]
set_option maxRecDepth 100000 in
theorem c_in_emp_y3 : yesOf Try.prog (knownV (tellA c_in_emp_t3) tabQ specsQ oversQ) 8000 80 3 [.sslice 1 (.int 0) (.var 0) (.var 1) false, .empty] ((globSt g0).newO (.eseq ⟨.u8, .var 0, .var 2⟩)) = true := by kernel_rfl
set_option maxRecDepth 100000 in
set_option maxHeartbeats 6000000 in
theorem c_in_emp_walk {W : World} {v0 : Value} {b0 off0 len0 cap0 : Nat} {zs0 : List Int} (h0 : InSlice W .u8 v0 b0 off0 len0 cap0 zs0) {v1 : Value} (hv1 : ∀ e : Env, VR e .empty v1) (hG : GlobsR (om len0 cap0 zs0 0 0 []) W g0) : Calls Try.prog 3 #[v0, v1] W fun e w' => e = .returned (.bool true) ∧ Below W.heap.size W w' := by
 have r0 := Rel.globs (om len0 cap0 zs0 0 0 []) W g0 hG
 obtain ⟨le0, r1, x0⟩ := h0.open r0 (l := 0) (c := 1) (x := 2) rfl rfl rfl
 have pos0 := h0.pos
 have lec0 := h0.le
 have max0 := h0.max
 have zl0 := h0.len
 have rng0 := h0.rng
 have hargs : VRs _ [.sslice 1 (.int 0) (.var 0) (.var 1) false, .empty] [v0, v1] := VRs_cons (x0) (VRs_cons (hv1 _) (VRs_nil))
 by_cases h : 8000 < len0
 ·refine calls_of_yesV sound tabQ_ok specsQ_ok oversQ_ok c_in_emp_y0 rfl (tellA_ok (allTold'_iff.1 ?_)) r1 hargs
  simp only [c_in_emp_t0, om_0, om_1, om_2, om_10, om_11, om_12, om_f, tl]
  omega
 have hz := h0.len
 have hp := h0.pos
 have e2 : (D.ofInts zs0).ints = zs0 := D.ints_ofInts zs0
 have e1 : Int.toNat (0 + 1 - 1) = 0 := rfl
 have e3 : (((0 + 1 - 1 : Int).toNat : Nat) : Int) = 0 := rfl
 have hr := ring0 zs0 0
 have hw := win0 zs0 (o := 0) (Int.le_refl 0)
 have c0 := cuts_end (x := zs0) (o := 0) (t := 0) (i := 0) (n := 0) (Int.le_refl 0)
 have hm := cuts_in (x := zs0) (o := 0) (t := len0) (i := 0) (n := 0) (Int.le_refl 0) (by omega)
 have hn := len_cuts (x := zs0) (o := 0) (t := len0) (i := 0) (n := 0) (by omega)
 have hs := cuts_small (x := zs0) (o := 0) (t := len0) (i := 0) (n := 0) (by omega)
 have hl : (chT (D.ofInts zs0) 0 len0 0 0 (D.ofInts [])).length = (cutsT zs0 0 len0 0 0).1.length := by rw [ch_len, e2]
 by_cases f : 0 < (cutsT zs0 0 len0 0 0).2
 ·have ha : allC (D.ofInts zs0) 0 len0 = chT (D.ofInts zs0) 0 len0 0 0 (D.ofInts []) ++ [restT (D.ofInts zs0) 0 len0] := if_pos (by rw [e2]; exact f)
  by_cases z : 0 < (cutsT zs0 0 len0 0 0).1.length
  ·refine calls_of_yesV sound tabQ_ok specsQ_ok oversQ_ok c_in_emp_y3 rfl (tellA_ok (allTold'_iff.1 ?_)) r1 hargs
   simp only [c_in_emp_t3, om_0, om_1, om_2, om_10, om_11, om_12, om_f, F9, F11, F20, F21, F22, F30, F33, F40, F41, e1, e3, e2, hr, hw, c0, ha, restT, hl, List.length_append, List.length_cons, List.length_nil, List.nil_append, List.append_nil, Int.natCast_zero, tl]
   and_intros <;> first | omega | rfl | trivial | exact one_to (.inl (by omega))
  have z0 : chT (D.ofInts zs0) 0 len0 0 0 (D.ofInts []) = [] := List.eq_nil_of_length_eq_zero (by omega)
  refine calls_of_yesV sound tabQ_ok specsQ_ok oversQ_ok c_in_emp_y1 rfl (tellA_ok (allTold'_iff.1 ?_)) r1 hargs
  simp only [c_in_emp_t1, om_0, om_1, om_2, om_10, om_11, om_12, om_f, F9, F11, F20, F21, F22, F30, F33, F40, F41, e1, e3, e2, hr, hw, c0, ha, restT, hl, List.length_append, List.length_cons, List.length_nil, List.nil_append, List.append_nil, Int.natCast_zero, z0, tl]
  and_intros <;> first | omega | rfl | trivial | exact one_to (.inl (by omega))
 have ha : allC (D.ofInts zs0) 0 len0 = chT (D.ofInts zs0) 0 len0 0 0 (D.ofInts []) := if_neg (by rw [e2]; exact f)
 by_cases z : 0 < (cutsT zs0 0 len0 0 0).1.length
 ·refine calls_of_yesV sound tabQ_ok specsQ_ok oversQ_ok c_in_emp_y2 rfl (tellA_ok (allTold'_iff.1 ?_)) r1 hargs
  simp only [c_in_emp_t2, om_0, om_1, om_2, om_10, om_11, om_12, om_f, F9, F11, F20, F21, F22, F30, F33, F40, F41, e1, e3, e2, hr, hw, c0, ha, restT, hl, List.length_append, List.length_cons, List.length_nil, List.nil_append, List.append_nil, Int.natCast_zero, tl]
  and_intros <;> first | omega | rfl | trivial | exact one_to (.inl (by omega))
 have hq := cuts_none (x := zs0) (o := 0) (t := len0) (i := 0) (n := 0) (by omega) z (by omega) (Int.le_refl 0)
 omega

def c_in_in_t0 : List (Q × Bool) := [as4, as5]
set_option maxRecDepth 100000 in
theorem c_in_in_y0 : yesOf Try.prog (knownV (tellA c_in_in_t0) tabQ specsQ oversQ) 8000 80 3 [.sslice 1 (.int 0) (.var 0) (.var 1) false, .sslice 3 (.int 0) (.var 10) (.var 11) false] (((globSt g0).newO (.eseq ⟨.u8, .var 0, .var 2⟩)).newO (.eseq ⟨.i64, .var 10, .var 12⟩)) = true := by kernel_rfl
def c_in_in_t1 : List (Q × Bool) := [as4, as6, as0, as1]
set_option maxRecDepth 100000 in
theorem c_in_in_y1 : yesOf Try.prog (knownV (tellA c_in_in_t1) tabQ specsQ oversQ) 8000 80 3 [.sslice 1 (.int 0) (.var 0) (.var 1) false, .sslice 3 (.int 0) (.var 10) (.var 11) false] (((globSt g0).newO (.eseq ⟨.u8, .var 0, .var 2⟩)).newO (.eseq ⟨.i64, .var 10, .var 12⟩)) = true := by kernel_rfl
abbrev as43 : Q × Bool := ((.eq (.fn 40 (.bi .pair (.int 0) (.bi .pair (.var 10) (.bi .pair (.var 0) (.int 0))))) (.int 1)), true)
def c_in_in_t2 : List (Q × Bool) := [as4, as6, as0, as2, as3, as43, as9, as10, as11, as12, as13, as14, as15, as16, as17, as18, as19, as20, as21, as22, as23, as24, as25, as26, as27]
set_option maxRecDepth 100000 in
theorem c_in_in_y2 : yesOf Try.prog (knownV (tellA c_in_in_t2) tabQ specsQ oversQ) 8000 80 3 [.sslice 1 (.int 0) (.var 0) (.var 1) false, .sslice 3 (.int 0) (.var 10) (.var 11) false] (((globSt g0).newO (.eseq ⟨.u8, .var 0, .var 2⟩)).newO (.eseq ⟨.i64, .var 10, .var 12⟩)) = true := by kernel_rfl
def c_in_in_t3 : List (Q × Bool) := [as4, as6, as0, as2, as3, as43, as9, as10, as11, as12, as13, as14, as15, as16, as17, as28, as29, as22, as23, as30, as24, as31, as32, as33, as34, as35]
set_option maxRecDepth 100000 in
theorem c_in_in_y3 : yesOf Try.prog (knownV (tellA c_in_in_t3) tabQ specsQ oversQ) 8000 80 3 [.sslice 1 (.int 0) (.var 0) (.var 1) false, .sslice 3 (.int 0) (.var 10) (.var 11) false] (((globSt g0).newO (.eseq ⟨.u8, .var 0, .var 2⟩)).newO (.eseq ⟨.i64, .var 10, .var 12⟩)) = true := by kernel_rfl
def c_in_in_t4 : List (Q × Bool) := [as4, as6, as0, as2, as3, as43, as9, as10, as11, as12, as13, as14, as15, as16, as17, as18, as29, as20, as21, as36, as22, as23, as37, as24, as38, as39, as40, as41, as42]
set_option maxRecDepth 100000 in
theorem c_in_in_y4 : yesOf Try.prog (knownV (tellA c_in_in_t4) tabQ specsQ oversQ) 8000 80 3 [.sslice 1 (.int 0) (.var 0) (.var 1) false, .sslice 3 (.int 0) (.var 10) (.var 11) false] (((globSt g0).newO (.eseq ⟨.u8, .var 0, .var 2⟩)).newO (.eseq ⟨.i64, .var 10, .var 12⟩)) = true := by kernel_rfl
set_option maxRecDepth 100000 in
set_option maxHeartbeats 6000000 in
theorem c_in_in_walk {W : World} {v0 : Value} {b0 off0 len0 cap0 : Nat} {zs0 : List Int} (h0 : InSlice W .u8 v0 b0 off0 len0 cap0 zs0) {v1 : Value} {b1 off1 len1 cap1 : Nat} {zs1 : List Int} (h1 : InSlice W .i64 v1 b1 off1 len1 cap1 zs1) (hG : GlobsR (om len0 cap0 zs0 len1 cap1 zs1) W g0) : Calls Try.prog 3 #[v0, v1] W fun e w' => e = .returned (.bool true) ∧ Below W.heap.size W w' := by
 have r0 := Rel.globs (om len0 cap0 zs0 len1 cap1 zs1) W g0 hG
 obtain ⟨le0, r1, x0⟩ := h0.open r0 (l := 0) (c := 1) (x := 2) rfl rfl rfl
 have pos0 := h0.pos
 have lec0 := h0.le
 have max0 := h0.max
 have zl0 := h0.len
 have rng0 := h0.rng
 obtain ⟨le1, r2, x1⟩ := h1.open r1 (l := 10) (c := 11) (x := 12) rfl rfl rfl
 replace x0 := VR.mono le1 _ _ x0
 have pos1 := h1.pos
 have lec1 := h1.le
 have max1 := h1.max
 have zl1 := h1.len
 have rng1 := h1.rng
 have hargs : VRs _ [.sslice 1 (.int 0) (.var 0) (.var 1) false, .sslice 3 (.int 0) (.var 10) (.var 11) false] [v0, v1] := VRs_cons (x0) (VRs_cons (x1) (VRs_nil))
 by_cases h : 8000 < len0
 ·refine calls_of_yesV sound tabQ_ok specsQ_ok oversQ_ok c_in_in_y0 rfl (tellA_ok (allTold'_iff.1 ?_)) r2 hargs
  simp only [c_in_in_t0, om_0, om_1, om_2, om_10, om_11, om_12, om_f, tl]
  omega
 by_cases g : 100 < len1
 ·refine calls_of_yesV sound tabQ_ok specsQ_ok oversQ_ok c_in_in_y1 rfl (tellA_ok (allTold'_iff.1 ?_)) r2 hargs
  simp only [c_in_in_t1, om_0, om_1, om_2, om_10, om_11, om_12, om_f, tl]
  omega
 have hz := h0.len
 have hp := h0.pos
 have e2 : (D.ofInts zs0).ints = zs0 := D.ints_ofInts zs0
 have e1 : Int.toNat (0 + 1 - 1) = 0 := rfl
 have e3 : (((0 + 1 - 1 : Int).toNat : Nat) : Int) = 0 := rfl
 have hr := ring0 zs0 0
 have hw := win0 zs0 (o := 0) (Int.le_refl 0)
 have c0 := cuts_end (x := zs0) (o := 0) (t := 0) (i := 0) (n := 0) (Int.le_refl 0)
 have hm := cuts_in (x := zs0) (o := 0) (t := len0) (i := 0) (n := 0) (Int.le_refl 0) (by omega)
 have hn := len_cuts (x := zs0) (o := 0) (t := len0) (i := 0) (n := 0) (by omega)
 have hs := cuts_small (x := zs0) (o := 0) (t := len0) (i := 0) (n := 0) (by omega)
 have hl : (chT (D.ofInts zs0) 0 len0 0 0 (D.ofInts [])).length = (cutsT zs0 0 len0 0 0).1.length := by rw [ch_len, e2]
 by_cases f : 0 < (cutsT zs0 0 len0 0 0).2
 ·have ha : allC (D.ofInts zs0) 0 len0 = chT (D.ofInts zs0) 0 len0 0 0 (D.ofInts []) ++ [restT (D.ofInts zs0) 0 len0] := if_pos (by rw [e2]; exact f)
  by_cases z : 0 < (cutsT zs0 0 len0 0 0).1.length
  ·refine calls_of_yesV sound tabQ_ok specsQ_ok oversQ_ok c_in_in_y4 rfl (tellA_ok (allTold'_iff.1 ?_)) r2 hargs
   simp only [c_in_in_t4, om_0, om_1, om_2, om_10, om_11, om_12, om_f, F9, F11, F20, F21, F22, F30, F33, F40, F41, e1, e3, e2, hr, hw, c0, ha, restT, hl, List.length_append, List.length_cons, List.length_nil, List.nil_append, List.append_nil, Int.natCast_zero, tl]
   and_intros <;> first | omega | rfl | trivial | exact one_to (.inl (by omega))
  have z0 : chT (D.ofInts zs0) 0 len0 0 0 (D.ofInts []) = [] := List.eq_nil_of_length_eq_zero (by omega)
  refine calls_of_yesV sound tabQ_ok specsQ_ok oversQ_ok c_in_in_y2 rfl (tellA_ok (allTold'_iff.1 ?_)) r2 hargs
  simp only [c_in_in_t2, om_0, om_1, om_2, om_10, om_11, om_12, om_f, F9, F11, F20, F21, F22, F30, F33, F40, F41, e1, e3, e2, hr, hw, c0, ha, restT, hl, List.length_append, List.length_cons, List.length_nil, List.nil_append, List.append_nil, Int.natCast_zero, z0, tl]
  and_intros <;> first | omega | rfl | trivial | exact one_to (.inl (by omega))
 have ha : allC (D.ofInts zs0) 0 len0 = chT (D.ofInts zs0) 0 len0 0 0 (D.ofInts []) := if_neg (by rw [e2]; exact f)
 by_cases z : 0 < (cutsT zs0 0 len0 0 0).1.length
 ·refine calls_of_yesV sound tabQ_ok specsQ_ok oversQ_ok c_in_in_y3 rfl (tellA_ok (allTold'_iff.1 ?_)) r2 hargs
  simp only [c_in_in_t3, om_0, om_1, om_2, om_10, om_11, om_12, om_f, F9, F11, F20, F21, F22, F30, F33, F40, F41, e1, e3, e2, hr, hw, c0, ha, restT, hl, List.length_append, List.length_cons, List.length_nil, List.nil_append, List.append_nil, Int.natCast_zero, tl]
  and_intros <;> first | omega | rfl | trivial | exact one_to (.inl (by omega))
 have hq := cuts_none (x := zs0) (o := 0) (t := len0) (i := 0) (n := 0) (by omega) z (by omega) (Int.le_refl 0)
 omega

theorem underS23 : Try.prog.underlying 23 = some (.slice 3) := by kernel_rfl
theorem underE3 : Try.prog.underlying 3 = some (.int .i64) := by kernel_rfl
theorem cellsE3 : Try.prog.cellsOf 3 = 1 := by kernel_rfl
theorem underS22 : Try.prog.underlying 22 = some (.slice 5) := by kernel_rfl
theorem underE5 : Try.prog.underlying 5 = some (.int .u8) := by kernel_rfl
theorem cellsE5 : Try.prog.cellsOf 5 = 1 := by kernel_rfl

set_option maxRecDepth 100000 in
theorem lifted (os : Os) (started : os.Started) (H : Type) (enc : TypeId × Value → H) :
  ReturnsInHanded {} Try.checked os 3 .any (Rows.chunkPiecesSpec.pre6 enc Try.prog Try.f3 Rows.chunkPiecesRow.domain false) (Rows.chunkPiecesSpec.post enc Try.prog Try.f3 false true false false) := by
 refine returnsInHanded_of_change (C := Try.checked) own started (by kernel_rfl) Try.func3
  (ChangeSpec.witness6 (enc := enc) (C := Try.checked) false ⟨#[], #[.slice none 0 0, .slice none 0 0], []⟩ 8 (by kernel_rfl) (by kernel_rfl) (by kernel_rfl) (by kernel_rfl)) ?_
 intro W base args ds gs before hval0 hW hcnd _
 have hval : ∀ (j : Nat) t v, Try.f3.params[j]? = some t → args[j]? = some v → Value.okWide Try.prog W .any base t v := hval0
 have hW' := hW
 have hlt := hW.lt
 obtain ⟨p, q, hA0, hV, rfl, hfz, hnd⟩ := hW
 have hA : DataW.TrodAll enc Try.prog W 0 (fun _ => true) true Try.f3.params.toList args.toList ds p := hA0
 have hAll := hA
 rw [Try.params3] at hA hval hAll
 obtain ⟨rfl, rfl⟩ := trodVars_none hV
 obtain ⟨pv0, pv1, d0, d1, p0, p1, rfl, rfl, rfl, h0, h1⟩ := trodAll_two hA
 have s0 := in_slice (k := .u8) underS22 underE5 cellsE5 (hval 0 22 _ rfl rfl) h0
 have s1 := in_slice (k := .i64) underS23 underE3 cellsE3 (hval 1 23 _ rfl rfl) h1
 clear hA0 hval0
 have hcall : Calls Try.prog 3 #[pv0, pv1] W fun e w' => e = .returned (.bool true) ∧ Below W.heap.size W w' := by
  rcases s0 with rfl | ⟨a0, c0, rfl⟩ | ⟨_, _, _, _, _, s0⟩
  ·rcases s1 with rfl | ⟨a1, c1, rfl⟩ | ⟨_, _, _, _, _, s1⟩
   ·exact c_emp_emp_walk (fun _ => vr_emptyN) (fun _ => vr_emptyN) (globs0 _ W)
   ·exact c_emp_emp_walk (fun _ => vr_emptyN) (fun _ => vr_emptyH a1 c1) (globs0 _ W)
   ·exact c_emp_in_walk (fun _ => vr_emptyN) s1 (globs0 _ W)
  ·rcases s1 with rfl | ⟨a1, c1, rfl⟩ | ⟨_, _, _, _, _, s1⟩
   ·exact c_emp_emp_walk (fun _ => vr_emptyH a0 c0) (fun _ => vr_emptyN) (globs0 _ W)
   ·exact c_emp_emp_walk (fun _ => vr_emptyH a0 c0) (fun _ => vr_emptyH a1 c1) (globs0 _ W)
   ·exact c_emp_in_walk (fun _ => vr_emptyH a0 c0) s1 (globs0 _ W)
  ·rcases s1 with rfl | ⟨a1, c1, rfl⟩ | ⟨_, _, _, _, _, s1⟩
   ·exact c_in_emp_walk s0 (fun _ => vr_emptyN) (globs0 _ W)
   ·exact c_in_emp_walk s0 (fun _ => vr_emptyH a1 c1) (globs0 _ W)
   ·exact c_in_in_walk s0 s1 (globs0 _ W)
 refine hcall.mono fun e W' ⟨he, hg⟩ => ?_
 subst he
 exact ⟨_, rfl, _, [], _, [], _, [], hW', trodAll_cons_mk (shut_bool Try.underlying4 _) trodAll_mk0, trodAll_stays laid hg _ _ _ _ hAll (fun x hx => hlt x (by simpa using hx)) (by kernel_rfl), rfl, hg.frame _, fun h => by cases h⟩

theorem over : Rows.chunkPiecesRow.holds Try.pinned (OpenSpec.ofChange Rows.chunkPiecesSpec) :=
 OpenClaim.holds_of_wide 3 Try.f3 rfl rfl rfl rfl rfl rfl rfl ⟨rfl, rfl, rfl, rfl, rfl⟩ rfl rfl rfl rfl rfl (by kernel_rfl) Try.func3 (by kernel_rfl)
  (of_decide_eq_true (by kernel_rfl)) (by unfold Func.isWrapper; first | (rw [if_pos (by decide +kernel)]; kernel_rfl) | (rw [if_neg (by decide +kernel)]; exact ⟨rfl, rfl⟩))
  (fun os started H enc _ => lifted os started H enc)

theorem proved : Rows.ChunkPiecesSaid :=
 over
#print axioms proved
end Go.Proofs.Ytceealenelhaiaa.chunkPieces
