/-
  The law FrameBack of the layer frame holds of the code: for all inputs the call returns true, and the arguments read as they did. No condition; the package variables that it reads are as the program's text lays them (the card ties them).
-/
import Derived.Test.YtlmcjfcfmcdcpaaDoorCo
import Derived.Test.YtlmcjfcfmcdcpaaDoorSycp
import Derived.Test.YtlmcjfcfmcdcpaaDoorSyag
import Derived.Test.YtlmcjfcfmcdcpaaDoorQv
import Derived.Test.YtlmcjfcfmcdcpaaDoorGa
import Derived.Test.YtlmcjfcfmcdcpaaDoorGm
import Derived.Test.YtlmcjfcfmcdcpaaDoorGx
import Derived.Test.YtlmcjfcfmcdcpaaDoorFl
import Derived.Test.YtlmcjfcfmcdcpaaDoorFa
import Derived.Test.YtlmcjfcfmcdcpaaDoorF2
import Derived.Test.YtlmcjfcfmcdcpaaDoorFb
import Derived.Test.YtlmcjfcfmcdcpaaDoorF3
import Derived.Test.YtlmcjfcfmcdcpaaDoorFc
import Derived.Test.YtlmcjfcfmcdcpaaDoorFd
import Derived.Test.YtlmcjfcfmcdcpaaDoorF5
import Derived.Test.YtlmcjfcfmcdcpaaDoorFp
import Derived.Test.YtlmcjfcfmcdcpaaDoorF6
import Derived.Test.YtlmcjfcfmcdcpaaDoorFu
import Derived.Test.YtlmcjfcfmcdcpaaDoorFv
import Derived.Test.YtlmcjfcfmcdcpaaDoorCards
import Derived.Test.YtlmcjfcfmcdcpaaDoorTie
import Derived.SevenTiedAt
import Derived.WalkKit
import Derived.ProofKit
import Derived.OpenShut
set_option linter.unusedSimpArgs false
set_option linter.unusedVariables false
namespace Go.Proofs.YtlmcjfcfmcdcpaaDoor.frameBack
open Go.ChangeShapes Go.WideShapes Go.ChangeAt Go.RowKit Go.Ev Go.Proofs.YtlmcjfcfmcdcpaaDoor.Co Go.Proofs.YtlmcjfcfmcdcpaaDoor.Qv Go.Proofs.YtlmcjfcfmcdcpaaDoor.Ga Go.Proofs.YtlmcjfcfmcdcpaaDoor.Gm Go.Proofs.YtlmcjfcfmcdcpaaDoor.Gx Go.Proofs.YtlmcjfcfmcdcpaaDoor.Fl Go.Proofs.YtlmcjfcfmcdcpaaDoor.Fa Go.Proofs.YtlmcjfcfmcdcpaaDoor.F2 Go.Proofs.YtlmcjfcfmcdcpaaDoor.Fb Go.Proofs.YtlmcjfcfmcdcpaaDoor.F3 Go.Proofs.YtlmcjfcfmcdcpaaDoor.Fc Go.Proofs.YtlmcjfcfmcdcpaaDoor.Fd Go.Proofs.YtlmcjfcfmcdcpaaDoor.F5 Go.Proofs.YtlmcjfcfmcdcpaaDoor.Fp Go.Proofs.YtlmcjfcfmcdcpaaDoor.F6 Go.Proofs.YtlmcjfcfmcdcpaaDoor.Fu Go.Proofs.YtlmcjfcfmcdcpaaDoor.Fv

def om (n0 : Int) (n1 : Int) (n2 : Int) (n3 : Int) (n4 : Int) (len5 cap5 : Nat) (zs5 : List Int) (len6 cap6 : Nat) (zs6 : List Int) : Om := ⟨fun _ => .bool false, fun i => if i = 0 then .int n0 else if i = 10 then .int n1 else if i = 20 then .int n2 else if i = 30 then .int n3 else if i = 40 then .int n4 else if i = 50 then .int len5 else if i = 51 then .int cap5 else if i = 52 then D.ofInts zs5 else if i = 60 then .int len6 else if i = 61 then .int cap6 else if i = 62 then D.ofInts zs6 else .int 0, F⟩
theorem om_0 (n0 : Int) (n1 : Int) (n2 : Int) (n3 : Int) (n4 : Int) (len5 cap5 : Nat) (zs5 : List Int) (len6 cap6 : Nat) (zs6 : List Int) : (om n0 n1 n2 n3 n4 len5 cap5 zs5 len6 cap6 zs6).d 0 = .int n0 := rfl
theorem om_10 (n0 : Int) (n1 : Int) (n2 : Int) (n3 : Int) (n4 : Int) (len5 cap5 : Nat) (zs5 : List Int) (len6 cap6 : Nat) (zs6 : List Int) : (om n0 n1 n2 n3 n4 len5 cap5 zs5 len6 cap6 zs6).d 10 = .int n1 := rfl
theorem om_20 (n0 : Int) (n1 : Int) (n2 : Int) (n3 : Int) (n4 : Int) (len5 cap5 : Nat) (zs5 : List Int) (len6 cap6 : Nat) (zs6 : List Int) : (om n0 n1 n2 n3 n4 len5 cap5 zs5 len6 cap6 zs6).d 20 = .int n2 := rfl
theorem om_30 (n0 : Int) (n1 : Int) (n2 : Int) (n3 : Int) (n4 : Int) (len5 cap5 : Nat) (zs5 : List Int) (len6 cap6 : Nat) (zs6 : List Int) : (om n0 n1 n2 n3 n4 len5 cap5 zs5 len6 cap6 zs6).d 30 = .int n3 := rfl
theorem om_40 (n0 : Int) (n1 : Int) (n2 : Int) (n3 : Int) (n4 : Int) (len5 cap5 : Nat) (zs5 : List Int) (len6 cap6 : Nat) (zs6 : List Int) : (om n0 n1 n2 n3 n4 len5 cap5 zs5 len6 cap6 zs6).d 40 = .int n4 := rfl
theorem om_50 (n0 : Int) (n1 : Int) (n2 : Int) (n3 : Int) (n4 : Int) (len5 cap5 : Nat) (zs5 : List Int) (len6 cap6 : Nat) (zs6 : List Int) : (om n0 n1 n2 n3 n4 len5 cap5 zs5 len6 cap6 zs6).d 50 = .int len5 := rfl
theorem om_51 (n0 : Int) (n1 : Int) (n2 : Int) (n3 : Int) (n4 : Int) (len5 cap5 : Nat) (zs5 : List Int) (len6 cap6 : Nat) (zs6 : List Int) : (om n0 n1 n2 n3 n4 len5 cap5 zs5 len6 cap6 zs6).d 51 = .int cap5 := rfl
theorem om_52 (n0 : Int) (n1 : Int) (n2 : Int) (n3 : Int) (n4 : Int) (len5 cap5 : Nat) (zs5 : List Int) (len6 cap6 : Nat) (zs6 : List Int) : (om n0 n1 n2 n3 n4 len5 cap5 zs5 len6 cap6 zs6).d 52 = D.ofInts zs5 := rfl
theorem om_60 (n0 : Int) (n1 : Int) (n2 : Int) (n3 : Int) (n4 : Int) (len5 cap5 : Nat) (zs5 : List Int) (len6 cap6 : Nat) (zs6 : List Int) : (om n0 n1 n2 n3 n4 len5 cap5 zs5 len6 cap6 zs6).d 60 = .int len6 := rfl
theorem om_61 (n0 : Int) (n1 : Int) (n2 : Int) (n3 : Int) (n4 : Int) (len5 cap5 : Nat) (zs5 : List Int) (len6 cap6 : Nat) (zs6 : List Int) : (om n0 n1 n2 n3 n4 len5 cap5 zs5 len6 cap6 zs6).d 61 = .int cap6 := rfl
theorem om_62 (n0 : Int) (n1 : Int) (n2 : Int) (n3 : Int) (n4 : Int) (len5 cap5 : Nat) (zs5 : List Int) (len6 cap6 : Nat) (zs6 : List Int) : (om n0 n1 n2 n3 n4 len5 cap5 zs5 len6 cap6 zs6).d 62 = D.ofInts zs6 := rfl
theorem om_f (n0 : Int) (n1 : Int) (n2 : Int) (n3 : Int) (n4 : Int) (len5 cap5 : Nat) (zs5 : List Int) (len6 cap6 : Nat) (zs6 : List Int) : (om n0 n1 n2 n3 n4 len5 cap5 zs5 len6 cap6 zs6).f = F := rfl

theorem prt_e0 : prt [] 0 0 = [] := rfl

abbrev as0 : Q × Bool := ((.eq (.fn 11 (.bi .pair (.var 0) (.bi .pair (.var 10) (.bi .pair (.var 20) (.bi .pair (.var 30) (.bi .pair (.var 40) (.bi .pair (.int 0) (.int 0)))))))) (.int 0)), false)
def c_emp_emp_t0 : List (Q × Bool) := [as0]
set_option maxRecDepth 100000 in
theorem c_emp_emp_y0 : yesOf Tryd.prog (knownV (tellA c_emp_emp_t0) tabV specsV oversV) 8000 80 6 [.agg [.sint .i64 (.var 0), .sint .i64 (.var 10), .sint .i64 (.var 20), .sint .i64 (.var 30), .sint .i64 (.var 40), .empty], .empty] (globSt g0) = true := by kernel_rfl
abbrev as1 : Q × Bool := ((.eq (.fn 11 (.bi .pair (.var 0) (.bi .pair (.var 10) (.bi .pair (.var 20) (.bi .pair (.var 30) (.bi .pair (.var 40) (.bi .pair (.int 0) (.int 0)))))))) (.int 0)), true)
abbrev as2 : Q × Bool := ((.le (.bi .add (.int 0) (.int 26)) (.int 26)), true)
abbrev as3 : Q × Bool := ((.eq (.fn 16 (.bi .pair (.fn 12 (.bi .pair (.var 0) (.bi .pair (.var 10) (.bi .pair (.var 20) (.bi .pair (.var 30) (.bi .pair (.var 40) (.bi .pair (.lits []) (.bi .pair (.int 0) (.bi .pair (.int 0) (.int 0)))))))))) (.bi .pair (.int 0) (.bi .pair (.bi .add (.int 0) (.int 26)) (.int 0))))) (.int 0)), true)
abbrev as4 : Q × Bool := ((.eq (.fn 14 (.bi .pair (.fn 12 (.bi .pair (.var 0) (.bi .pair (.var 10) (.bi .pair (.var 20) (.bi .pair (.var 30) (.bi .pair (.var 40) (.bi .pair (.lits []) (.bi .pair (.int 0) (.bi .pair (.int 0) (.int 0)))))))))) (.bi .pair (.int 0) (.bi .pair (.bi .add (.int 0) (.int 26)) (.int 0))))) (.int 1)), true)
abbrev as5 : Q × Bool := ((.eq (.fn 15 (.bi .pair (.fn 12 (.bi .pair (.var 0) (.bi .pair (.var 10) (.bi .pair (.var 20) (.bi .pair (.var 30) (.bi .pair (.var 40) (.bi .pair (.lits []) (.bi .pair (.int 0) (.bi .pair (.int 0) (.int 0)))))))))) (.bi .pair (.bi .add (.int 0) (.int 3)) (.bi .pair (.bi .add (.int 0) (.int 4)) (.int 0))))) (.var 0)), true)
abbrev as6 : Q × Bool := ((.eq (.fn 15 (.bi .pair (.fn 12 (.bi .pair (.var 0) (.bi .pair (.var 10) (.bi .pair (.var 20) (.bi .pair (.var 30) (.bi .pair (.var 40) (.bi .pair (.lits []) (.bi .pair (.int 0) (.bi .pair (.int 0) (.int 0)))))))))) (.bi .pair (.bi .add (.int 0) (.int 4)) (.bi .pair (.bi .add (.int 0) (.int 8)) (.int 0))))) (.var 10)), true)
abbrev as7 : Q × Bool := ((.eq (.fn 15 (.bi .pair (.fn 12 (.bi .pair (.var 0) (.bi .pair (.var 10) (.bi .pair (.var 20) (.bi .pair (.var 30) (.bi .pair (.var 40) (.bi .pair (.lits []) (.bi .pair (.int 0) (.bi .pair (.int 0) (.int 0)))))))))) (.bi .pair (.bi .add (.int 0) (.int 8)) (.bi .pair (.bi .add (.int 0) (.int 12)) (.int 0))))) (.var 20)), true)
abbrev as8 : Q × Bool := ((.eq (.fn 15 (.bi .pair (.fn 12 (.bi .pair (.var 0) (.bi .pair (.var 10) (.bi .pair (.var 20) (.bi .pair (.var 30) (.bi .pair (.var 40) (.bi .pair (.lits []) (.bi .pair (.int 0) (.bi .pair (.int 0) (.int 0)))))))))) (.bi .pair (.bi .add (.int 0) (.int 12)) (.bi .pair (.bi .add (.int 0) (.int 16)) (.int 0))))) (.var 30)), true)
abbrev as9 : Q × Bool := ((.eq (.fn 15 (.bi .pair (.fn 12 (.bi .pair (.var 0) (.bi .pair (.var 10) (.bi .pair (.var 20) (.bi .pair (.var 30) (.bi .pair (.var 40) (.bi .pair (.lits []) (.bi .pair (.int 0) (.bi .pair (.int 0) (.int 0)))))))))) (.bi .pair (.bi .add (.int 0) (.int 16)) (.bi .pair (.bi .add (.int 0) (.int 20)) (.int 0))))) (.var 40)), true)
abbrev as10 : Q × Bool := ((.same (.tr .cut (.tr .cut (.fn 12 (.bi .pair (.var 0) (.bi .pair (.var 10) (.bi .pair (.var 20) (.bi .pair (.var 30) (.bi .pair (.var 40) (.bi .pair (.lits []) (.bi .pair (.int 0) (.bi .pair (.int 0) (.int 0)))))))))) (.int 0) (.bi .add (.int 0) (.bi .add (.int 26) (.int (-4))))) (.int 22) (.bi .add (.int 26) (.int (-4)))) (.lits [])), true)
abbrev as11 : Q × Bool := ((.fit .i64 (.bi .add (.int 26) (.int (-4)))), true)
abbrev as12 : Q × Bool := ((.eq (.bi .add (.int 26) (.int (-4))) (.int 22)), true)
def c_emp_emp_t1 : List (Q × Bool) := [as1, as2, as3, as4, as5, as6, as7, as8, as9, as10, as11, as12]
set_option maxRecDepth 100000 in
theorem c_emp_emp_y1 : yesOf Tryd.prog (knownV (tellA c_emp_emp_t1) tabV specsV oversV) 8000 80 6 [.agg [.sint .i64 (.var 0), .sint .i64 (.var 10), .sint .i64 (.var 20), .sint .i64 (.var 30), .sint .i64 (.var 40), .empty], .empty] (globSt g0) = true := by kernel_rfl
set_option maxRecDepth 100000 in
set_option maxHeartbeats 6000000 in
theorem c_emp_emp_walk {W : World} {n0 : Int} (hn0 : inK .i64 n0) {n1 : Int} (hn1 : inK .i64 n1) {n2 : Int} (hn2 : inK .i64 n2) {n3 : Int} (hn3 : inK .i64 n3) {n4 : Int} (hn4 : inK .i64 n4) {v5 : Value} (hv5 : ∀ e : Env, VR e .empty v5) {v6 : Value} (hv6 : ∀ e : Env, VR e .empty v6) (hG : GlobsR (om n0 n1 n2 n3 n4 0 0 [] 0 0 []) W g0) : Calls Tryd.prog 6 #[.agg #[.int .i64 n0, .int .i64 n1, .int .i64 n2, .int .i64 n3, .int .i64 n4, v5], v6] W fun e w' => e = .returned (.bool true) ∧ Below W.heap.size W w' := by
  have r0 := Rel.globs (om n0 n1 n2 n3 n4 0 0 [] 0 0 []) W g0 hG
  have hargs : VRs (Env.none (om n0 n1 n2 n3 n4 0 0 [] 0 0 [])) [.agg [.sint .i64 (.var 0), .sint .i64 (.var 10), .sint .i64 (.var 20), .sint .i64 (.var 30), .sint .i64 (.var 40), .empty], .empty] [.agg #[.int .i64 n0, .int .i64 n1, .int .i64 n2, .int .i64 n3, .int .i64 n4, v5], v6] := VRs_cons (vr_agg (VRs_cons (vr_sint (i := 0) hn0 (by rw [r0.opq]; rfl)) (VRs_cons (vr_sint (i := 10) hn1 (by rw [r0.opq]; rfl)) (VRs_cons (vr_sint (i := 20) hn2 (by rw [r0.opq]; rfl)) (VRs_cons (vr_sint (i := 30) hn3 (by rw [r0.opq]; rfl)) (VRs_cons (vr_sint (i := 40) hn4 (by rw [r0.opq]; rfl)) (VRs_cons (hv5 _) (VRs_nil)))))))) (VRs_cons (hv6 _) (VRs_nil))
  simp only [inK, i64min, i64max, u8min, u8max, u32min, u32max, u64min, u64max] at hn0
  simp only [inK, i64min, i64max, u8min, u8max, u32min, u32max, u64min, u64max] at hn1
  simp only [inK, i64min, i64max, u8min, u8max, u32min, u32max, u64min, u64max] at hn2
  simp only [inK, i64min, i64max, u8min, u8max, u32min, u32max, u64min, u64max] at hn3
  simp only [inK, i64min, i64max, u8min, u8max, u32min, u32max, u64min, u64max] at hn4
  by_cases g : errI n0 n1 n2 n3 n4 0 = 0
  · have rp := read_put (t := n0) (s := n1) (b := n2) (q := n3) (a := n4) (B := ([] : List Int)) (l := (0 : Int)) g (by rfl)
    obtain ⟨rp0, rp3, rp4, rp5, rp6, rp7⟩ := rp
    have zl : ((putI (layI n0 n1 n2 n3 n4 ([] : List Int))).length : Int) = (0 : Int) + 26 := by
      have h1 := put_len (layI n0 n1 n2 n3 n4 ([] : List Int))
      have h2 := lay_len n0 n1 n2 n3 n4 ([] : List Int)
      try simp only [List.length_nil] at h2
      omega
    have hz : prt (putI (layI n0 n1 n2 n3 n4 ([] : List Int))) 0 (26) = putI (layI n0 n1 n2 n3 n4 ([] : List Int)) := prt_all (by omega)
    have hgp := good_put (layI n0 n1 n2 n3 n4 ([] : List Int))
    have hbd := lay_body n0 n1 n2 n3 n4 ([] : List Int) (n := (0 : Int)) (by rfl)
    refine calls_of_yesV sound tabV_ok specsV_ok oversV_ok c_emp_emp_y1 rfl (tellA_ok (allTold'_iff.1 ?_)) r0 hargs
    simp only [c_emp_emp_t1, om_0, om_10, om_20, om_30, om_40, om_50, om_51, om_52, om_60, om_61, om_62, om_f, F11, F12, F14, F15, F16, ints_list, List.map_drop, List.map_take, List.map_append, map_ints, allTold', dutiesTold, factsA, factsC, factsP, factsR, AV.facts, RW.facts, inK, and_true, Q.holds', E.i, E.s, E.n, D.nat, E.den, BO.den, UO.den, TO.den, D.toInt_int, D.toList_list, D.ints_ofInts, i64min, i64max, u8min, u8max, u16min, u16max, u32min, u32max, u64min, u64max, i32min, i32max, Om.sub, selI, ints_app, ints_cut, ints_upd, ints_rep, ints_splice, ints_seg, len_ints]
    try simp only [cut_prt, Int.zero_add, prt_e0, hz, hgp, rp0, rp3, rp4, rp5, rp6, rp7]
    all_goals (and_intros <;> first | omega | exact r | exact g | trivial | skip)
  · refine calls_of_yesV sound tabV_ok specsV_ok oversV_ok c_emp_emp_y0 rfl (tellA_ok (allTold'_iff.1 ?_)) r0 hargs
    simp only [c_emp_emp_t0, om_0, om_10, om_20, om_30, om_40, om_50, om_51, om_52, om_60, om_61, om_62, om_f, F11, F12, F14, F15, F16, ints_list, List.map_drop, List.map_take, List.map_append, map_ints, allTold', dutiesTold, factsA, factsC, factsP, factsR, AV.facts, RW.facts, inK, and_true, Q.holds', E.i, E.s, E.n, D.nat, E.den, BO.den, UO.den, TO.den, D.toInt_int, D.toList_list, D.ints_ofInts, i64min, i64max, u8min, u8max, u16min, u16max, u32min, u32max, u64min, u64max, i32min, i32max, Om.sub, selI, ints_app, ints_cut, ints_upd, ints_rep, ints_splice, ints_seg, len_ints]
    try simp only [cut_prt, Int.zero_add, prt_e0]
    all_goals (and_intros <;> first | omega | exact r | exact g | trivial | skip)

abbrev as13 : Q × Bool := ((.fit .i64 (.var 60)), true)
abbrev as14 : Q × Bool := ((.le (.var 60) (.int 2000)), false)
def c_emp_in_t0 : List (Q × Bool) := [as13, as14]
set_option maxRecDepth 100000 in
theorem c_emp_in_y0 : yesOf Tryd.prog (knownV (tellA c_emp_in_t0) tabV specsV oversV) 8000 80 6 [.agg [.sint .i64 (.var 0), .sint .i64 (.var 10), .sint .i64 (.var 20), .sint .i64 (.var 30), .sint .i64 (.var 40), .empty], .sslice 1 (.int 0) (.var 60) (.var 61) false] ((globSt g0).newO (.eseq ⟨.u8, .var 60, .var 62⟩)) = true := by kernel_rfl
abbrev as15 : Q × Bool := ((.le (.var 60) (.int 2000)), true)
abbrev as16 : Q × Bool := ((.le (.bi .add (.int 0) (.var 60)) (.var 60)), true)
abbrev as17 : Q × Bool := ((.le (.var 60) (.int 1000000)), true)
abbrev as18 : Q × Bool := ((.eq (.fn 16 (.bi .pair (.var 62) (.bi .pair (.int 0) (.bi .pair (.bi .add (.int 0) (.var 60)) (.int 0))))) (.int 0)), false)
def c_emp_in_t1 : List (Q × Bool) := [as13, as15, as0, as16, as17, as18]
set_option maxRecDepth 100000 in
theorem c_emp_in_y1 : yesOf Tryd.prog (knownV (tellA c_emp_in_t1) tabV specsV oversV) 8000 80 6 [.agg [.sint .i64 (.var 0), .sint .i64 (.var 10), .sint .i64 (.var 20), .sint .i64 (.var 30), .sint .i64 (.var 40), .empty], .sslice 1 (.int 0) (.var 60) (.var 61) false] ((globSt g0).newO (.eseq ⟨.u8, .var 60, .var 62⟩)) = true := by kernel_rfl
abbrev as19 : Q × Bool := ((.eq (.fn 16 (.bi .pair (.var 62) (.bi .pair (.int 0) (.bi .pair (.bi .add (.int 0) (.var 60)) (.int 0))))) (.int 0)), true)
abbrev as20 : Q × Bool := ((.le (.bi .add (.int 22) (.bi .add (.var 60) (.int (-26)))) (.bi .add (.var 60) (.int (-4)))), true)
abbrev as21 : Q × Bool := ((.le (.bi .add (.var 60) (.int (-26))) (.int 900000)), true)
abbrev as22 : Q × Bool := ((.le (.int 0) (.bi .add (.var 60) (.int (-26)))), true)
abbrev as23 : Q × Bool := ((.eq (.fn 11 (.bi .pair (.fn 15 (.bi .pair (.var 62) (.bi .pair (.bi .add (.int 0) (.int 3)) (.bi .pair (.bi .add (.int 0) (.int 4)) (.int 0))))) (.bi .pair (.fn 15 (.bi .pair (.var 62) (.bi .pair (.bi .add (.int 0) (.int 4)) (.bi .pair (.bi .add (.int 0) (.int 8)) (.int 0))))) (.bi .pair (.fn 15 (.bi .pair (.var 62) (.bi .pair (.bi .add (.int 0) (.int 8)) (.bi .pair (.bi .add (.int 0) (.int 12)) (.int 0))))) (.bi .pair (.fn 15 (.bi .pair (.var 62) (.bi .pair (.bi .add (.int 0) (.int 12)) (.bi .pair (.bi .add (.int 0) (.int 16)) (.int 0))))) (.bi .pair (.fn 15 (.bi .pair (.var 62) (.bi .pair (.bi .add (.int 0) (.int 16)) (.bi .pair (.bi .add (.int 0) (.int 20)) (.int 0))))) (.bi .pair (.bi .add (.var 60) (.int (-26))) (.int 0)))))))) (.int 0)), true)
abbrev as24 : Q × Bool := ((.same (.fn 12 (.bi .pair (.fn 15 (.bi .pair (.var 62) (.bi .pair (.bi .add (.int 0) (.int 3)) (.bi .pair (.bi .add (.int 0) (.int 4)) (.int 0))))) (.bi .pair (.fn 15 (.bi .pair (.var 62) (.bi .pair (.bi .add (.int 0) (.int 4)) (.bi .pair (.bi .add (.int 0) (.int 8)) (.int 0))))) (.bi .pair (.fn 15 (.bi .pair (.var 62) (.bi .pair (.bi .add (.int 0) (.int 8)) (.bi .pair (.bi .add (.int 0) (.int 12)) (.int 0))))) (.bi .pair (.fn 15 (.bi .pair (.var 62) (.bi .pair (.bi .add (.int 0) (.int 12)) (.bi .pair (.bi .add (.int 0) (.int 16)) (.int 0))))) (.bi .pair (.fn 15 (.bi .pair (.var 62) (.bi .pair (.bi .add (.int 0) (.int 16)) (.bi .pair (.bi .add (.int 0) (.int 20)) (.int 0))))) (.bi .pair (.tr .cut (.var 62) (.int 0) (.bi .add (.int 0) (.bi .add (.var 60) (.int (-4))))) (.bi .pair (.int 22) (.bi .pair (.bi .add (.var 60) (.int (-26))) (.int 0)))))))))) (.var 62)), true)
def c_emp_in_t2 : List (Q × Bool) := [as13, as15, as0, as16, as17, as19, as20, as21, as22, as23, as24]
set_option maxRecDepth 100000 in
theorem c_emp_in_y2 : yesOf Tryd.prog (knownV (tellA c_emp_in_t2) tabV specsV oversV) 8000 80 6 [.agg [.sint .i64 (.var 0), .sint .i64 (.var 10), .sint .i64 (.var 20), .sint .i64 (.var 30), .sint .i64 (.var 40), .empty], .sslice 1 (.int 0) (.var 60) (.var 61) false] ((globSt g0).newO (.eseq ⟨.u8, .var 60, .var 62⟩)) = true := by kernel_rfl
def c_emp_in_t3 : List (Q × Bool) := [as13, as15, as1, as2, as3, as4, as5, as6, as7, as8, as9, as10, as11, as12, as16, as17, as18]
set_option maxRecDepth 100000 in
theorem c_emp_in_y3 : yesOf Tryd.prog (knownV (tellA c_emp_in_t3) tabV specsV oversV) 8000 80 6 [.agg [.sint .i64 (.var 0), .sint .i64 (.var 10), .sint .i64 (.var 20), .sint .i64 (.var 30), .sint .i64 (.var 40), .empty], .sslice 1 (.int 0) (.var 60) (.var 61) false] ((globSt g0).newO (.eseq ⟨.u8, .var 60, .var 62⟩)) = true := by kernel_rfl
def c_emp_in_t4 : List (Q × Bool) := [as13, as15, as1, as2, as3, as4, as5, as6, as7, as8, as9, as10, as11, as12, as16, as17, as19, as20, as21, as22, as23, as24]
set_option maxRecDepth 100000 in
theorem c_emp_in_y4 : yesOf Tryd.prog (knownV (tellA c_emp_in_t4) tabV specsV oversV) 8000 80 6 [.agg [.sint .i64 (.var 0), .sint .i64 (.var 10), .sint .i64 (.var 20), .sint .i64 (.var 30), .sint .i64 (.var 40), .empty], .sslice 1 (.int 0) (.var 60) (.var 61) false] ((globSt g0).newO (.eseq ⟨.u8, .var 60, .var 62⟩)) = true := by kernel_rfl
set_option maxRecDepth 100000 in
set_option maxHeartbeats 6000000 in
theorem c_emp_in_walk {W : World} {n0 : Int} (hn0 : inK .i64 n0) {n1 : Int} (hn1 : inK .i64 n1) {n2 : Int} (hn2 : inK .i64 n2) {n3 : Int} (hn3 : inK .i64 n3) {n4 : Int} (hn4 : inK .i64 n4) {v5 : Value} (hv5 : ∀ e : Env, VR e .empty v5) {v6 : Value} {b6 off6 len6 cap6 : Nat} {zs6 : List Int} (h6 : InSlice W .u8 v6 b6 off6 len6 cap6 zs6) (hG : GlobsR (om n0 n1 n2 n3 n4 0 0 [] len6 cap6 zs6) W g0) : Calls Tryd.prog 6 #[.agg #[.int .i64 n0, .int .i64 n1, .int .i64 n2, .int .i64 n3, .int .i64 n4, v5], v6] W fun e w' => e = .returned (.bool true) ∧ Below W.heap.size W w' := by
  have r0 := Rel.globs (om n0 n1 n2 n3 n4 0 0 [] len6 cap6 zs6) W g0 hG
  obtain ⟨le6, r1, x6⟩ := h6.open r0 (l := 60) (c := 61) (x := 62) rfl rfl rfl
  have pos6 := h6.pos
  have lec6 := h6.le
  have max6 := h6.max
  have zl6 := h6.len
  have rng6 := h6.rng
  have hargs : VRs _ [.agg [.sint .i64 (.var 0), .sint .i64 (.var 10), .sint .i64 (.var 20), .sint .i64 (.var 30), .sint .i64 (.var 40), .empty], .sslice 1 (.int 0) (.var 60) (.var 61) false] [.agg #[.int .i64 n0, .int .i64 n1, .int .i64 n2, .int .i64 n3, .int .i64 n4, v5], v6] := VRs_cons (vr_agg (VRs_cons (vr_sint (i := 0) hn0 (by rw [r1.opq]; rfl)) (VRs_cons (vr_sint (i := 10) hn1 (by rw [r1.opq]; rfl)) (VRs_cons (vr_sint (i := 20) hn2 (by rw [r1.opq]; rfl)) (VRs_cons (vr_sint (i := 30) hn3 (by rw [r1.opq]; rfl)) (VRs_cons (vr_sint (i := 40) hn4 (by rw [r1.opq]; rfl)) (VRs_cons (hv5 _) (VRs_nil)))))))) (VRs_cons (x6) (VRs_nil))
  simp only [inK, i64min, i64max, u8min, u8max, u32min, u32max, u64min, u64max] at hn0
  simp only [inK, i64min, i64max, u8min, u8max, u32min, u32max, u64min, u64max] at hn1
  simp only [inK, i64min, i64max, u8min, u8max, u32min, u32max, u64min, u64max] at hn2
  simp only [inK, i64min, i64max, u8min, u8max, u32min, u32max, u64min, u64max] at hn3
  simp only [inK, i64min, i64max, u8min, u8max, u32min, u32max, u64min, u64max] at hn4
  by_cases h : 2000 < len6
  · refine calls_of_yesV sound tabV_ok specsV_ok oversV_ok c_emp_in_y0 rfl (tellA_ok (allTold'_iff.1 ?_)) r1 hargs
    simp only [c_emp_in_t0, om_0, om_10, om_20, om_30, om_40, om_50, om_51, om_52, om_60, om_61, om_62, om_f, allTold', dutiesTold, factsA, factsC, factsP, factsR, AV.facts, RW.facts, inK, and_true, Q.holds', E.i, E.s, E.n, D.nat, E.den, BO.den, UO.den, TO.den, D.toInt_int, D.toList_list, D.ints_ofInts, i64min, i64max, u8min, u8max, u16min, u16max, u32min, u32max, u64min, u64max, i32min, i32max, Om.sub, selI, ints_app, ints_cut, ints_upd, ints_rep, ints_splice, ints_seg, len_ints]
    omega
  by_cases g : errI n0 n1 n2 n3 n4 0 = 0
  · by_cases r : readI zs6 = 0
    · have rp := read_put (t := n0) (s := n1) (b := n2) (q := n3) (a := n4) (B := ([] : List Int)) (l := (0 : Int)) g (by rfl)
      obtain ⟨rp0, rp3, rp4, rp5, rp6, rp7⟩ := rp
      have zl : ((putI (layI n0 n1 n2 n3 n4 ([] : List Int))).length : Int) = (0 : Int) + 26 := by
        have h1 := put_len (layI n0 n1 n2 n3 n4 ([] : List Int))
        have h2 := lay_len n0 n1 n2 n3 n4 ([] : List Int)
        try simp only [List.length_nil] at h2
        omega
      have hz : prt (putI (layI n0 n1 n2 n3 n4 ([] : List Int))) 0 (26) = putI (layI n0 n1 n2 n3 n4 ([] : List Int)) := prt_all (by omega)
      have hgp := good_put (layI n0 n1 n2 n3 n4 ([] : List Int))
      have hbd := lay_body n0 n1 n2 n3 n4 ([] : List Int) (n := (0 : Int)) (by rfl)
      have h6 : prt zs6 0 (len6 : Int) = zs6 := prt_all (by omega)
      have by6 : ∀ c ∈ zs6, 0 ≤ c ∧ c ≤ 255 := fun c hc => by
        have := rng6 c hc
        simpa only [inK, u8min, u8max] using this
      obtain ⟨u1, u2, u3, u4⟩ := put_read (z := zs6) (l := (len6 : Int)) by6 (by omega) r
      have hbb : prt (prt zs6 0 ((len6 : Int) + -4)) 22 (22 + ((len6 : Int) + -26)) = prt zs6 22 ((len6 : Int) - 4) := by
        have := prt_prt (x := zs6) (o := 0) (l := (len6 : Int) + -4) (a := 22) (b := 22 + ((len6 : Int) + -26)) (by omega) (by omega) (by omega) (by omega)
        simp only [Int.zero_add] at this
        rw [this]
        congr 1
        omega
      have e26 : (len6 : Int) - 26 = (len6 : Int) + -26 := by omega
      rw [e26] at u3
      refine calls_of_yesV sound tabV_ok specsV_ok oversV_ok c_emp_in_y4 rfl (tellA_ok (allTold'_iff.1 ?_)) r1 hargs
      simp only [c_emp_in_t4, om_0, om_10, om_20, om_30, om_40, om_50, om_51, om_52, om_60, om_61, om_62, om_f, F11, F12, F14, F15, F16, ints_list, List.map_drop, List.map_take, List.map_append, map_ints, allTold', dutiesTold, factsA, factsC, factsP, factsR, AV.facts, RW.facts, inK, and_true, Q.holds', E.i, E.s, E.n, D.nat, E.den, BO.den, UO.den, TO.den, D.toInt_int, D.toList_list, D.ints_ofInts, i64min, i64max, u8min, u8max, u16min, u16max, u32min, u32max, u64min, u64max, i32min, i32max, Om.sub, selI, ints_app, ints_cut, ints_upd, ints_rep, ints_splice, ints_seg, len_ints]
      try simp only [cut_prt, Int.zero_add, prt_e0, hz, hgp, rp0, rp3, rp4, rp5, rp6, rp7, h6, hbb, u3, u4]
      all_goals (and_intros <;> first | omega | exact r | exact g | trivial | skip)
    · have rp := read_put (t := n0) (s := n1) (b := n2) (q := n3) (a := n4) (B := ([] : List Int)) (l := (0 : Int)) g (by rfl)
      obtain ⟨rp0, rp3, rp4, rp5, rp6, rp7⟩ := rp
      have zl : ((putI (layI n0 n1 n2 n3 n4 ([] : List Int))).length : Int) = (0 : Int) + 26 := by
        have h1 := put_len (layI n0 n1 n2 n3 n4 ([] : List Int))
        have h2 := lay_len n0 n1 n2 n3 n4 ([] : List Int)
        try simp only [List.length_nil] at h2
        omega
      have hz : prt (putI (layI n0 n1 n2 n3 n4 ([] : List Int))) 0 (26) = putI (layI n0 n1 n2 n3 n4 ([] : List Int)) := prt_all (by omega)
      have hgp := good_put (layI n0 n1 n2 n3 n4 ([] : List Int))
      have hbd := lay_body n0 n1 n2 n3 n4 ([] : List Int) (n := (0 : Int)) (by rfl)
      have h6 : prt zs6 0 (len6 : Int) = zs6 := prt_all (by omega)
      refine calls_of_yesV sound tabV_ok specsV_ok oversV_ok c_emp_in_y3 rfl (tellA_ok (allTold'_iff.1 ?_)) r1 hargs
      simp only [c_emp_in_t3, om_0, om_10, om_20, om_30, om_40, om_50, om_51, om_52, om_60, om_61, om_62, om_f, F11, F12, F14, F15, F16, ints_list, List.map_drop, List.map_take, List.map_append, map_ints, allTold', dutiesTold, factsA, factsC, factsP, factsR, AV.facts, RW.facts, inK, and_true, Q.holds', E.i, E.s, E.n, D.nat, E.den, BO.den, UO.den, TO.den, D.toInt_int, D.toList_list, D.ints_ofInts, i64min, i64max, u8min, u8max, u16min, u16max, u32min, u32max, u64min, u64max, i32min, i32max, Om.sub, selI, ints_app, ints_cut, ints_upd, ints_rep, ints_splice, ints_seg, len_ints]
      try simp only [cut_prt, Int.zero_add, prt_e0, hz, hgp, rp0, rp3, rp4, rp5, rp6, rp7, h6]
      all_goals (and_intros <;> first | omega | exact r | exact g | trivial | skip)
  · by_cases r : readI zs6 = 0
    · have h6 : prt zs6 0 (len6 : Int) = zs6 := prt_all (by omega)
      have by6 : ∀ c ∈ zs6, 0 ≤ c ∧ c ≤ 255 := fun c hc => by
        have := rng6 c hc
        simpa only [inK, u8min, u8max] using this
      obtain ⟨u1, u2, u3, u4⟩ := put_read (z := zs6) (l := (len6 : Int)) by6 (by omega) r
      have hbb : prt (prt zs6 0 ((len6 : Int) + -4)) 22 (22 + ((len6 : Int) + -26)) = prt zs6 22 ((len6 : Int) - 4) := by
        have := prt_prt (x := zs6) (o := 0) (l := (len6 : Int) + -4) (a := 22) (b := 22 + ((len6 : Int) + -26)) (by omega) (by omega) (by omega) (by omega)
        simp only [Int.zero_add] at this
        rw [this]
        congr 1
        omega
      have e26 : (len6 : Int) - 26 = (len6 : Int) + -26 := by omega
      rw [e26] at u3
      refine calls_of_yesV sound tabV_ok specsV_ok oversV_ok c_emp_in_y2 rfl (tellA_ok (allTold'_iff.1 ?_)) r1 hargs
      simp only [c_emp_in_t2, om_0, om_10, om_20, om_30, om_40, om_50, om_51, om_52, om_60, om_61, om_62, om_f, F11, F12, F14, F15, F16, ints_list, List.map_drop, List.map_take, List.map_append, map_ints, allTold', dutiesTold, factsA, factsC, factsP, factsR, AV.facts, RW.facts, inK, and_true, Q.holds', E.i, E.s, E.n, D.nat, E.den, BO.den, UO.den, TO.den, D.toInt_int, D.toList_list, D.ints_ofInts, i64min, i64max, u8min, u8max, u16min, u16max, u32min, u32max, u64min, u64max, i32min, i32max, Om.sub, selI, ints_app, ints_cut, ints_upd, ints_rep, ints_splice, ints_seg, len_ints]
      try simp only [cut_prt, Int.zero_add, prt_e0, h6, hbb, u3, u4]
      all_goals (and_intros <;> first | omega | exact r | exact g | trivial | skip)
    · have h6 : prt zs6 0 (len6 : Int) = zs6 := prt_all (by omega)
      refine calls_of_yesV sound tabV_ok specsV_ok oversV_ok c_emp_in_y1 rfl (tellA_ok (allTold'_iff.1 ?_)) r1 hargs
      simp only [c_emp_in_t1, om_0, om_10, om_20, om_30, om_40, om_50, om_51, om_52, om_60, om_61, om_62, om_f, F11, F12, F14, F15, F16, ints_list, List.map_drop, List.map_take, List.map_append, map_ints, allTold', dutiesTold, factsA, factsC, factsP, factsR, AV.facts, RW.facts, inK, and_true, Q.holds', E.i, E.s, E.n, D.nat, E.den, BO.den, UO.den, TO.den, D.toInt_int, D.toList_list, D.ints_ofInts, i64min, i64max, u8min, u8max, u16min, u16max, u32min, u32max, u64min, u64max, i32min, i32max, Om.sub, selI, ints_app, ints_cut, ints_upd, ints_rep, ints_splice, ints_seg, len_ints]
      try simp only [cut_prt, Int.zero_add, prt_e0, h6]
      all_goals (and_intros <;> first | omega | exact r | exact g | trivial | skip)

abbrev as25 : Q × Bool := ((.fit .i64 (.var 50)), true)
abbrev as26 : Q × Bool := ((.le (.var 50) (.int 2000)), false)
def c_in_emp_t0 : List (Q × Bool) := [as25, as26]
set_option maxRecDepth 100000 in
theorem c_in_emp_y0 : yesOf Tryd.prog (knownV (tellA c_in_emp_t0) tabV specsV oversV) 8000 80 6 [.agg [.sint .i64 (.var 0), .sint .i64 (.var 10), .sint .i64 (.var 20), .sint .i64 (.var 30), .sint .i64 (.var 40), .sslice 1 (.int 0) (.var 50) (.var 51) false], .empty] ((globSt g0).newO (.eseq ⟨.u8, .var 50, .var 52⟩)) = true := by kernel_rfl
abbrev as27 : Q × Bool := ((.le (.var 50) (.int 2000)), true)
abbrev as28 : Q × Bool := ((.le (.bi .add (.int 0) (.var 50)) (.var 50)), true)
abbrev as29 : Q × Bool := ((.le (.var 50) (.int 900000)), true)
abbrev as30 : Q × Bool := ((.le (.int 0) (.var 50)), true)
abbrev as31 : Q × Bool := ((.eq (.fn 11 (.bi .pair (.var 0) (.bi .pair (.var 10) (.bi .pair (.var 20) (.bi .pair (.var 30) (.bi .pair (.var 40) (.bi .pair (.var 50) (.int 0)))))))) (.int 0)), false)
abbrev as32 : Q × Bool := ((.le (.var 50) (.int 1000000)), true)
def c_in_emp_t1 : List (Q × Bool) := [as25, as27, as28, as29, as30, as31, as32]
set_option maxRecDepth 100000 in
theorem c_in_emp_y1 : yesOf Tryd.prog (knownV (tellA c_in_emp_t1) tabV specsV oversV) 8000 80 6 [.agg [.sint .i64 (.var 0), .sint .i64 (.var 10), .sint .i64 (.var 20), .sint .i64 (.var 30), .sint .i64 (.var 40), .sslice 1 (.int 0) (.var 50) (.var 51) false], .empty] ((globSt g0).newO (.eseq ⟨.u8, .var 50, .var 52⟩)) = true := by kernel_rfl
abbrev as33 : Q × Bool := ((.eq (.fn 11 (.bi .pair (.var 0) (.bi .pair (.var 10) (.bi .pair (.var 20) (.bi .pair (.var 30) (.bi .pair (.var 40) (.bi .pair (.var 50) (.int 0)))))))) (.int 0)), true)
abbrev as34 : Q × Bool := ((.le (.bi .add (.int 0) (.bi .add (.var 50) (.int 26))) (.bi .add (.var 50) (.int 26))), true)
abbrev as35 : Q × Bool := ((.le (.bi .add (.var 50) (.int 26)) (.int 1000000)), true)
abbrev as36 : Q × Bool := ((.eq (.fn 16 (.bi .pair (.fn 12 (.bi .pair (.var 0) (.bi .pair (.var 10) (.bi .pair (.var 20) (.bi .pair (.var 30) (.bi .pair (.var 40) (.bi .pair (.var 52) (.bi .pair (.int 0) (.bi .pair (.var 50) (.int 0)))))))))) (.bi .pair (.int 0) (.bi .pair (.bi .add (.int 0) (.bi .add (.var 50) (.int 26))) (.int 0))))) (.int 0)), true)
abbrev as37 : Q × Bool := ((.le (.int 5) (.bi .add (.var 50) (.int 26))), true)
abbrev as38 : Q × Bool := ((.eq (.fn 14 (.bi .pair (.fn 12 (.bi .pair (.var 0) (.bi .pair (.var 10) (.bi .pair (.var 20) (.bi .pair (.var 30) (.bi .pair (.var 40) (.bi .pair (.var 52) (.bi .pair (.int 0) (.bi .pair (.var 50) (.int 0)))))))))) (.bi .pair (.int 0) (.bi .pair (.bi .add (.int 0) (.bi .add (.var 50) (.int 26))) (.int 0))))) (.int 1)), true)
abbrev as39 : Q × Bool := ((.eq (.fn 15 (.bi .pair (.fn 12 (.bi .pair (.var 0) (.bi .pair (.var 10) (.bi .pair (.var 20) (.bi .pair (.var 30) (.bi .pair (.var 40) (.bi .pair (.var 52) (.bi .pair (.int 0) (.bi .pair (.var 50) (.int 0)))))))))) (.bi .pair (.bi .add (.int 0) (.int 3)) (.bi .pair (.bi .add (.int 0) (.int 4)) (.int 0))))) (.var 0)), true)
abbrev as40 : Q × Bool := ((.eq (.fn 15 (.bi .pair (.fn 12 (.bi .pair (.var 0) (.bi .pair (.var 10) (.bi .pair (.var 20) (.bi .pair (.var 30) (.bi .pair (.var 40) (.bi .pair (.var 52) (.bi .pair (.int 0) (.bi .pair (.var 50) (.int 0)))))))))) (.bi .pair (.bi .add (.int 0) (.int 4)) (.bi .pair (.bi .add (.int 0) (.int 8)) (.int 0))))) (.var 10)), true)
abbrev as41 : Q × Bool := ((.eq (.fn 15 (.bi .pair (.fn 12 (.bi .pair (.var 0) (.bi .pair (.var 10) (.bi .pair (.var 20) (.bi .pair (.var 30) (.bi .pair (.var 40) (.bi .pair (.var 52) (.bi .pair (.int 0) (.bi .pair (.var 50) (.int 0)))))))))) (.bi .pair (.bi .add (.int 0) (.int 8)) (.bi .pair (.bi .add (.int 0) (.int 12)) (.int 0))))) (.var 20)), true)
abbrev as42 : Q × Bool := ((.eq (.fn 15 (.bi .pair (.fn 12 (.bi .pair (.var 0) (.bi .pair (.var 10) (.bi .pair (.var 20) (.bi .pair (.var 30) (.bi .pair (.var 40) (.bi .pair (.var 52) (.bi .pair (.int 0) (.bi .pair (.var 50) (.int 0)))))))))) (.bi .pair (.bi .add (.int 0) (.int 12)) (.bi .pair (.bi .add (.int 0) (.int 16)) (.int 0))))) (.var 30)), true)
abbrev as43 : Q × Bool := ((.eq (.fn 15 (.bi .pair (.fn 12 (.bi .pair (.var 0) (.bi .pair (.var 10) (.bi .pair (.var 20) (.bi .pair (.var 30) (.bi .pair (.var 40) (.bi .pair (.var 52) (.bi .pair (.int 0) (.bi .pair (.var 50) (.int 0)))))))))) (.bi .pair (.bi .add (.int 0) (.int 16)) (.bi .pair (.bi .add (.int 0) (.int 20)) (.int 0))))) (.var 40)), true)
abbrev as44 : Q × Bool := ((.same (.tr .cut (.tr .cut (.fn 12 (.bi .pair (.var 0) (.bi .pair (.var 10) (.bi .pair (.var 20) (.bi .pair (.var 30) (.bi .pair (.var 40) (.bi .pair (.var 52) (.bi .pair (.int 0) (.bi .pair (.var 50) (.int 0)))))))))) (.int 0) (.bi .add (.int 0) (.bi .add (.bi .add (.var 50) (.int 26)) (.int (-4))))) (.int 22) (.bi .add (.bi .add (.var 50) (.int 26)) (.int (-4)))) (.var 52)), true)
abbrev as45 : Q × Bool := ((.fit .i64 (.bi .add (.var 50) (.int 26))), true)
abbrev as46 : Q × Bool := ((.fit .i64 (.bi .add (.bi .add (.var 50) (.int 26)) (.int (-4)))), true)
abbrev as47 : Q × Bool := ((.fit .i64 (.bi .add (.var 50) (.int 22))), true)
abbrev as48 : Q × Bool := ((.eq (.bi .add (.bi .add (.var 50) (.int 26)) (.int (-4))) (.bi .add (.var 50) (.int 22))), true)
def c_in_emp_t2 : List (Q × Bool) := [as25, as27, as28, as29, as30, as33, as32, as34, as35, as36, as37, as38, as39, as40, as41, as42, as43, as44, as45, as46, as47, as48]
set_option maxRecDepth 100000 in
theorem c_in_emp_y2 : yesOf Tryd.prog (knownV (tellA c_in_emp_t2) tabV specsV oversV) 8000 80 6 [.agg [.sint .i64 (.var 0), .sint .i64 (.var 10), .sint .i64 (.var 20), .sint .i64 (.var 30), .sint .i64 (.var 40), .sslice 1 (.int 0) (.var 50) (.var 51) false], .empty] ((globSt g0).newO (.eseq ⟨.u8, .var 50, .var 52⟩)) = true := by kernel_rfl
set_option maxRecDepth 100000 in
set_option maxHeartbeats 6000000 in
theorem c_in_emp_walk {W : World} {n0 : Int} (hn0 : inK .i64 n0) {n1 : Int} (hn1 : inK .i64 n1) {n2 : Int} (hn2 : inK .i64 n2) {n3 : Int} (hn3 : inK .i64 n3) {n4 : Int} (hn4 : inK .i64 n4) {v5 : Value} {b5 off5 len5 cap5 : Nat} {zs5 : List Int} (h5 : InSlice W .u8 v5 b5 off5 len5 cap5 zs5) {v6 : Value} (hv6 : ∀ e : Env, VR e .empty v6) (hG : GlobsR (om n0 n1 n2 n3 n4 len5 cap5 zs5 0 0 []) W g0) : Calls Tryd.prog 6 #[.agg #[.int .i64 n0, .int .i64 n1, .int .i64 n2, .int .i64 n3, .int .i64 n4, v5], v6] W fun e w' => e = .returned (.bool true) ∧ Below W.heap.size W w' := by
  have r0 := Rel.globs (om n0 n1 n2 n3 n4 len5 cap5 zs5 0 0 []) W g0 hG
  obtain ⟨le5, r1, x5⟩ := h5.open r0 (l := 50) (c := 51) (x := 52) rfl rfl rfl
  have pos5 := h5.pos
  have lec5 := h5.le
  have max5 := h5.max
  have zl5 := h5.len
  have rng5 := h5.rng
  have hargs : VRs _ [.agg [.sint .i64 (.var 0), .sint .i64 (.var 10), .sint .i64 (.var 20), .sint .i64 (.var 30), .sint .i64 (.var 40), .sslice 1 (.int 0) (.var 50) (.var 51) false], .empty] [.agg #[.int .i64 n0, .int .i64 n1, .int .i64 n2, .int .i64 n3, .int .i64 n4, v5], v6] := VRs_cons (vr_agg (VRs_cons (vr_sint (i := 0) hn0 (by rw [r1.opq]; rfl)) (VRs_cons (vr_sint (i := 10) hn1 (by rw [r1.opq]; rfl)) (VRs_cons (vr_sint (i := 20) hn2 (by rw [r1.opq]; rfl)) (VRs_cons (vr_sint (i := 30) hn3 (by rw [r1.opq]; rfl)) (VRs_cons (vr_sint (i := 40) hn4 (by rw [r1.opq]; rfl)) (VRs_cons (x5) (VRs_nil)))))))) (VRs_cons (hv6 _) (VRs_nil))
  simp only [inK, i64min, i64max, u8min, u8max, u32min, u32max, u64min, u64max] at hn0
  simp only [inK, i64min, i64max, u8min, u8max, u32min, u32max, u64min, u64max] at hn1
  simp only [inK, i64min, i64max, u8min, u8max, u32min, u32max, u64min, u64max] at hn2
  simp only [inK, i64min, i64max, u8min, u8max, u32min, u32max, u64min, u64max] at hn3
  simp only [inK, i64min, i64max, u8min, u8max, u32min, u32max, u64min, u64max] at hn4
  by_cases h : 2000 < len5
  · refine calls_of_yesV sound tabV_ok specsV_ok oversV_ok c_in_emp_y0 rfl (tellA_ok (allTold'_iff.1 ?_)) r1 hargs
    simp only [c_in_emp_t0, om_0, om_10, om_20, om_30, om_40, om_50, om_51, om_52, om_60, om_61, om_62, om_f, allTold', dutiesTold, factsA, factsC, factsP, factsR, AV.facts, RW.facts, inK, and_true, Q.holds', E.i, E.s, E.n, D.nat, E.den, BO.den, UO.den, TO.den, D.toInt_int, D.toList_list, D.ints_ofInts, i64min, i64max, u8min, u8max, u16min, u16max, u32min, u32max, u64min, u64max, i32min, i32max, Om.sub, selI, ints_app, ints_cut, ints_upd, ints_rep, ints_splice, ints_seg, len_ints]
    omega
  by_cases g : errI n0 n1 n2 n3 n4 len5 = 0
  · have rp := read_put (t := n0) (s := n1) (b := n2) (q := n3) (a := n4) (B := zs5) (l := (len5 : Int)) g (by omega)
    obtain ⟨rp0, rp3, rp4, rp5, rp6, rp7⟩ := rp
    have zl : ((putI (layI n0 n1 n2 n3 n4 zs5)).length : Int) = (len5 : Int) + 26 := by
      have h1 := put_len (layI n0 n1 n2 n3 n4 zs5)
      have h2 := lay_len n0 n1 n2 n3 n4 zs5
      try simp only [List.length_nil] at h2
      omega
    have hz : prt (putI (layI n0 n1 n2 n3 n4 zs5)) 0 ((len5 : Int) + 26) = putI (layI n0 n1 n2 n3 n4 zs5) := prt_all (by omega)
    have hgp := good_put (layI n0 n1 n2 n3 n4 zs5)
    have hbd := lay_body n0 n1 n2 n3 n4 zs5 (n := (len5 : Int)) (by omega)
    have hbz : prt (prt (putI (layI n0 n1 n2 n3 n4 zs5)) 0 ((len5 : Int) + 26 + -4)) 22 ((len5 : Int) + 26 + -4) = zs5 := by
      have h9 := prt_prt (x := putI (layI n0 n1 n2 n3 n4 zs5)) (o := 0) (l := (len5 : Int) + 26 + -4) (a := 22) (b := (len5 : Int) + 26 + -4) (by omega) (by omega) (by omega) (by omega)
      simp only [Int.zero_add] at h9
      rw [h9, show (len5 : Int) + 26 + -4 = 22 + (len5 : Int) by omega]
      exact hbd
    have h3 : prt zs5 0 (len5 : Int) = zs5 := prt_all (by omega)
    refine calls_of_yesV sound tabV_ok specsV_ok oversV_ok c_in_emp_y2 rfl (tellA_ok (allTold'_iff.1 ?_)) r1 hargs
    simp only [c_in_emp_t2, om_0, om_10, om_20, om_30, om_40, om_50, om_51, om_52, om_60, om_61, om_62, om_f, F11, F12, F14, F15, F16, ints_list, List.map_drop, List.map_take, List.map_append, map_ints, allTold', dutiesTold, factsA, factsC, factsP, factsR, AV.facts, RW.facts, inK, and_true, Q.holds', E.i, E.s, E.n, D.nat, E.den, BO.den, UO.den, TO.den, D.toInt_int, D.toList_list, D.ints_ofInts, i64min, i64max, u8min, u8max, u16min, u16max, u32min, u32max, u64min, u64max, i32min, i32max, Om.sub, selI, ints_app, ints_cut, ints_upd, ints_rep, ints_splice, ints_seg, len_ints]
    try simp only [cut_prt, Int.zero_add, h3, hz, hgp, rp0, rp3, rp4, rp5, rp6, rp7, hbz]
    all_goals (and_intros <;> first | omega | exact r | exact g | trivial | skip)
  · have h3 : prt zs5 0 (len5 : Int) = zs5 := prt_all (by omega)
    refine calls_of_yesV sound tabV_ok specsV_ok oversV_ok c_in_emp_y1 rfl (tellA_ok (allTold'_iff.1 ?_)) r1 hargs
    simp only [c_in_emp_t1, om_0, om_10, om_20, om_30, om_40, om_50, om_51, om_52, om_60, om_61, om_62, om_f, F11, F12, F14, F15, F16, ints_list, List.map_drop, List.map_take, List.map_append, map_ints, allTold', dutiesTold, factsA, factsC, factsP, factsR, AV.facts, RW.facts, inK, and_true, Q.holds', E.i, E.s, E.n, D.nat, E.den, BO.den, UO.den, TO.den, D.toInt_int, D.toList_list, D.ints_ofInts, i64min, i64max, u8min, u8max, u16min, u16max, u32min, u32max, u64min, u64max, i32min, i32max, Om.sub, selI, ints_app, ints_cut, ints_upd, ints_rep, ints_splice, ints_seg, len_ints]
    try simp only [cut_prt, Int.zero_add, h3]
    all_goals (and_intros <;> first | omega | exact r | exact g | trivial | skip)

def c_in_in_t0 : List (Q × Bool) := [as25, as26]
set_option maxRecDepth 100000 in
theorem c_in_in_y0 : yesOf Tryd.prog (knownV (tellA c_in_in_t0) tabV specsV oversV) 8000 80 6 [.agg [.sint .i64 (.var 0), .sint .i64 (.var 10), .sint .i64 (.var 20), .sint .i64 (.var 30), .sint .i64 (.var 40), .sslice 1 (.int 0) (.var 50) (.var 51) false], .sslice 3 (.int 0) (.var 60) (.var 61) false] (((globSt g0).newO (.eseq ⟨.u8, .var 50, .var 52⟩)).newO (.eseq ⟨.u8, .var 60, .var 62⟩)) = true := by kernel_rfl
def c_in_in_t1 : List (Q × Bool) := [as25, as27, as13, as14]
set_option maxRecDepth 100000 in
theorem c_in_in_y1 : yesOf Tryd.prog (knownV (tellA c_in_in_t1) tabV specsV oversV) 8000 80 6 [.agg [.sint .i64 (.var 0), .sint .i64 (.var 10), .sint .i64 (.var 20), .sint .i64 (.var 30), .sint .i64 (.var 40), .sslice 1 (.int 0) (.var 50) (.var 51) false], .sslice 3 (.int 0) (.var 60) (.var 61) false] (((globSt g0).newO (.eseq ⟨.u8, .var 50, .var 52⟩)).newO (.eseq ⟨.u8, .var 60, .var 62⟩)) = true := by kernel_rfl
def c_in_in_t2 : List (Q × Bool) := [as25, as27, as13, as15, as28, as29, as30, as31, as32, as16, as17, as18]
set_option maxRecDepth 100000 in
theorem c_in_in_y2 : yesOf Tryd.prog (knownV (tellA c_in_in_t2) tabV specsV oversV) 8000 80 6 [.agg [.sint .i64 (.var 0), .sint .i64 (.var 10), .sint .i64 (.var 20), .sint .i64 (.var 30), .sint .i64 (.var 40), .sslice 1 (.int 0) (.var 50) (.var 51) false], .sslice 3 (.int 0) (.var 60) (.var 61) false] (((globSt g0).newO (.eseq ⟨.u8, .var 50, .var 52⟩)).newO (.eseq ⟨.u8, .var 60, .var 62⟩)) = true := by kernel_rfl
def c_in_in_t3 : List (Q × Bool) := [as25, as27, as13, as15, as28, as29, as30, as31, as32, as16, as17, as19, as20, as21, as22, as23, as24]
set_option maxRecDepth 100000 in
theorem c_in_in_y3 : yesOf Tryd.prog (knownV (tellA c_in_in_t3) tabV specsV oversV) 8000 80 6 [.agg [.sint .i64 (.var 0), .sint .i64 (.var 10), .sint .i64 (.var 20), .sint .i64 (.var 30), .sint .i64 (.var 40), .sslice 1 (.int 0) (.var 50) (.var 51) false], .sslice 3 (.int 0) (.var 60) (.var 61) false] (((globSt g0).newO (.eseq ⟨.u8, .var 50, .var 52⟩)).newO (.eseq ⟨.u8, .var 60, .var 62⟩)) = true := by kernel_rfl
def c_in_in_t4 : List (Q × Bool) := [as25, as27, as13, as15, as28, as29, as30, as33, as32, as34, as35, as36, as37, as38, as39, as40, as41, as42, as43, as44, as45, as46, as47, as48, as16, as17, as18]
set_option maxRecDepth 100000 in
theorem c_in_in_y4 : yesOf Tryd.prog (knownV (tellA c_in_in_t4) tabV specsV oversV) 8000 80 6 [.agg [.sint .i64 (.var 0), .sint .i64 (.var 10), .sint .i64 (.var 20), .sint .i64 (.var 30), .sint .i64 (.var 40), .sslice 1 (.int 0) (.var 50) (.var 51) false], .sslice 3 (.int 0) (.var 60) (.var 61) false] (((globSt g0).newO (.eseq ⟨.u8, .var 50, .var 52⟩)).newO (.eseq ⟨.u8, .var 60, .var 62⟩)) = true := by kernel_rfl
def c_in_in_t5 : List (Q × Bool) := [as25, as27, as13, as15, as28, as29, as30, as33, as32, as34, as35, as36, as37, as38, as39, as40, as41, as42, as43, as44, as45, as46, as47, as48, as16, as17, as19, as20, as21, as22, as23, as24]
set_option maxRecDepth 100000 in
theorem c_in_in_y5 : yesOf Tryd.prog (knownV (tellA c_in_in_t5) tabV specsV oversV) 8000 80 6 [.agg [.sint .i64 (.var 0), .sint .i64 (.var 10), .sint .i64 (.var 20), .sint .i64 (.var 30), .sint .i64 (.var 40), .sslice 1 (.int 0) (.var 50) (.var 51) false], .sslice 3 (.int 0) (.var 60) (.var 61) false] (((globSt g0).newO (.eseq ⟨.u8, .var 50, .var 52⟩)).newO (.eseq ⟨.u8, .var 60, .var 62⟩)) = true := by kernel_rfl
set_option maxRecDepth 100000 in
set_option maxHeartbeats 6000000 in
theorem c_in_in_walk {W : World} {n0 : Int} (hn0 : inK .i64 n0) {n1 : Int} (hn1 : inK .i64 n1) {n2 : Int} (hn2 : inK .i64 n2) {n3 : Int} (hn3 : inK .i64 n3) {n4 : Int} (hn4 : inK .i64 n4) {v5 : Value} {b5 off5 len5 cap5 : Nat} {zs5 : List Int} (h5 : InSlice W .u8 v5 b5 off5 len5 cap5 zs5) {v6 : Value} {b6 off6 len6 cap6 : Nat} {zs6 : List Int} (h6 : InSlice W .u8 v6 b6 off6 len6 cap6 zs6) (hG : GlobsR (om n0 n1 n2 n3 n4 len5 cap5 zs5 len6 cap6 zs6) W g0) : Calls Tryd.prog 6 #[.agg #[.int .i64 n0, .int .i64 n1, .int .i64 n2, .int .i64 n3, .int .i64 n4, v5], v6] W fun e w' => e = .returned (.bool true) ∧ Below W.heap.size W w' := by
  have r0 := Rel.globs (om n0 n1 n2 n3 n4 len5 cap5 zs5 len6 cap6 zs6) W g0 hG
  obtain ⟨le5, r1, x5⟩ := h5.open r0 (l := 50) (c := 51) (x := 52) rfl rfl rfl
  have pos5 := h5.pos
  have lec5 := h5.le
  have max5 := h5.max
  have zl5 := h5.len
  have rng5 := h5.rng
  obtain ⟨le6, r2, x6⟩ := h6.open r1 (l := 60) (c := 61) (x := 62) rfl rfl rfl
  replace x5 := VR.mono le6 _ _ x5
  have pos6 := h6.pos
  have lec6 := h6.le
  have max6 := h6.max
  have zl6 := h6.len
  have rng6 := h6.rng
  have hargs : VRs _ [.agg [.sint .i64 (.var 0), .sint .i64 (.var 10), .sint .i64 (.var 20), .sint .i64 (.var 30), .sint .i64 (.var 40), .sslice 1 (.int 0) (.var 50) (.var 51) false], .sslice 3 (.int 0) (.var 60) (.var 61) false] [.agg #[.int .i64 n0, .int .i64 n1, .int .i64 n2, .int .i64 n3, .int .i64 n4, v5], v6] := VRs_cons (vr_agg (VRs_cons (vr_sint (i := 0) hn0 (by rw [r2.opq]; rfl)) (VRs_cons (vr_sint (i := 10) hn1 (by rw [r2.opq]; rfl)) (VRs_cons (vr_sint (i := 20) hn2 (by rw [r2.opq]; rfl)) (VRs_cons (vr_sint (i := 30) hn3 (by rw [r2.opq]; rfl)) (VRs_cons (vr_sint (i := 40) hn4 (by rw [r2.opq]; rfl)) (VRs_cons (x5) (VRs_nil)))))))) (VRs_cons (x6) (VRs_nil))
  simp only [inK, i64min, i64max, u8min, u8max, u32min, u32max, u64min, u64max] at hn0
  simp only [inK, i64min, i64max, u8min, u8max, u32min, u32max, u64min, u64max] at hn1
  simp only [inK, i64min, i64max, u8min, u8max, u32min, u32max, u64min, u64max] at hn2
  simp only [inK, i64min, i64max, u8min, u8max, u32min, u32max, u64min, u64max] at hn3
  simp only [inK, i64min, i64max, u8min, u8max, u32min, u32max, u64min, u64max] at hn4
  by_cases h : 2000 < len5
  · refine calls_of_yesV sound tabV_ok specsV_ok oversV_ok c_in_in_y0 rfl (tellA_ok (allTold'_iff.1 ?_)) r2 hargs
    simp only [c_in_in_t0, om_0, om_10, om_20, om_30, om_40, om_50, om_51, om_52, om_60, om_61, om_62, om_f, allTold', dutiesTold, factsA, factsC, factsP, factsR, AV.facts, RW.facts, inK, and_true, Q.holds', E.i, E.s, E.n, D.nat, E.den, BO.den, UO.den, TO.den, D.toInt_int, D.toList_list, D.ints_ofInts, i64min, i64max, u8min, u8max, u16min, u16max, u32min, u32max, u64min, u64max, i32min, i32max, Om.sub, selI, ints_app, ints_cut, ints_upd, ints_rep, ints_splice, ints_seg, len_ints]
    omega
  by_cases h2 : 2000 < len6
  · refine calls_of_yesV sound tabV_ok specsV_ok oversV_ok c_in_in_y1 rfl (tellA_ok (allTold'_iff.1 ?_)) r2 hargs
    simp only [c_in_in_t1, om_0, om_10, om_20, om_30, om_40, om_50, om_51, om_52, om_60, om_61, om_62, om_f, allTold', dutiesTold, factsA, factsC, factsP, factsR, AV.facts, RW.facts, inK, and_true, Q.holds', E.i, E.s, E.n, D.nat, E.den, BO.den, UO.den, TO.den, D.toInt_int, D.toList_list, D.ints_ofInts, i64min, i64max, u8min, u8max, u16min, u16max, u32min, u32max, u64min, u64max, i32min, i32max, Om.sub, selI, ints_app, ints_cut, ints_upd, ints_rep, ints_splice, ints_seg, len_ints]
    omega
  by_cases g : errI n0 n1 n2 n3 n4 len5 = 0
  · by_cases r : readI zs6 = 0
    · have rp := read_put (t := n0) (s := n1) (b := n2) (q := n3) (a := n4) (B := zs5) (l := (len5 : Int)) g (by omega)
      obtain ⟨rp0, rp3, rp4, rp5, rp6, rp7⟩ := rp
      have zl : ((putI (layI n0 n1 n2 n3 n4 zs5)).length : Int) = (len5 : Int) + 26 := by
        have h1 := put_len (layI n0 n1 n2 n3 n4 zs5)
        have h2 := lay_len n0 n1 n2 n3 n4 zs5
        try simp only [List.length_nil] at h2
        omega
      have hz : prt (putI (layI n0 n1 n2 n3 n4 zs5)) 0 ((len5 : Int) + 26) = putI (layI n0 n1 n2 n3 n4 zs5) := prt_all (by omega)
      have hgp := good_put (layI n0 n1 n2 n3 n4 zs5)
      have hbd := lay_body n0 n1 n2 n3 n4 zs5 (n := (len5 : Int)) (by omega)
      have hbz : prt (prt (putI (layI n0 n1 n2 n3 n4 zs5)) 0 ((len5 : Int) + 26 + -4)) 22 ((len5 : Int) + 26 + -4) = zs5 := by
        have h9 := prt_prt (x := putI (layI n0 n1 n2 n3 n4 zs5)) (o := 0) (l := (len5 : Int) + 26 + -4) (a := 22) (b := (len5 : Int) + 26 + -4) (by omega) (by omega) (by omega) (by omega)
        simp only [Int.zero_add] at h9
        rw [h9, show (len5 : Int) + 26 + -4 = 22 + (len5 : Int) by omega]
        exact hbd
      have h3 : prt zs5 0 (len5 : Int) = zs5 := prt_all (by omega)
      have h6 : prt zs6 0 (len6 : Int) = zs6 := prt_all (by omega)
      have by6 : ∀ c ∈ zs6, 0 ≤ c ∧ c ≤ 255 := fun c hc => by
        have := rng6 c hc
        simpa only [inK, u8min, u8max] using this
      obtain ⟨u1, u2, u3, u4⟩ := put_read (z := zs6) (l := (len6 : Int)) by6 (by omega) r
      have hbb : prt (prt zs6 0 ((len6 : Int) + -4)) 22 (22 + ((len6 : Int) + -26)) = prt zs6 22 ((len6 : Int) - 4) := by
        have := prt_prt (x := zs6) (o := 0) (l := (len6 : Int) + -4) (a := 22) (b := 22 + ((len6 : Int) + -26)) (by omega) (by omega) (by omega) (by omega)
        simp only [Int.zero_add] at this
        rw [this]
        congr 1
        omega
      have e26 : (len6 : Int) - 26 = (len6 : Int) + -26 := by omega
      rw [e26] at u3
      refine calls_of_yesV sound tabV_ok specsV_ok oversV_ok c_in_in_y5 rfl (tellA_ok (allTold'_iff.1 ?_)) r2 hargs
      simp only [c_in_in_t5, om_0, om_10, om_20, om_30, om_40, om_50, om_51, om_52, om_60, om_61, om_62, om_f, F11, F12, F14, F15, F16, ints_list, List.map_drop, List.map_take, List.map_append, map_ints, allTold', dutiesTold, factsA, factsC, factsP, factsR, AV.facts, RW.facts, inK, and_true, Q.holds', E.i, E.s, E.n, D.nat, E.den, BO.den, UO.den, TO.den, D.toInt_int, D.toList_list, D.ints_ofInts, i64min, i64max, u8min, u8max, u16min, u16max, u32min, u32max, u64min, u64max, i32min, i32max, Om.sub, selI, ints_app, ints_cut, ints_upd, ints_rep, ints_splice, ints_seg, len_ints]
      try simp only [cut_prt, Int.zero_add, h3, hz, hgp, rp0, rp3, rp4, rp5, rp6, rp7, hbz, h6, hbb, u3, u4]
      all_goals (and_intros <;> first | omega | exact r | exact g | trivial | skip)
    · have rp := read_put (t := n0) (s := n1) (b := n2) (q := n3) (a := n4) (B := zs5) (l := (len5 : Int)) g (by omega)
      obtain ⟨rp0, rp3, rp4, rp5, rp6, rp7⟩ := rp
      have zl : ((putI (layI n0 n1 n2 n3 n4 zs5)).length : Int) = (len5 : Int) + 26 := by
        have h1 := put_len (layI n0 n1 n2 n3 n4 zs5)
        have h2 := lay_len n0 n1 n2 n3 n4 zs5
        try simp only [List.length_nil] at h2
        omega
      have hz : prt (putI (layI n0 n1 n2 n3 n4 zs5)) 0 ((len5 : Int) + 26) = putI (layI n0 n1 n2 n3 n4 zs5) := prt_all (by omega)
      have hgp := good_put (layI n0 n1 n2 n3 n4 zs5)
      have hbd := lay_body n0 n1 n2 n3 n4 zs5 (n := (len5 : Int)) (by omega)
      have hbz : prt (prt (putI (layI n0 n1 n2 n3 n4 zs5)) 0 ((len5 : Int) + 26 + -4)) 22 ((len5 : Int) + 26 + -4) = zs5 := by
        have h9 := prt_prt (x := putI (layI n0 n1 n2 n3 n4 zs5)) (o := 0) (l := (len5 : Int) + 26 + -4) (a := 22) (b := (len5 : Int) + 26 + -4) (by omega) (by omega) (by omega) (by omega)
        simp only [Int.zero_add] at h9
        rw [h9, show (len5 : Int) + 26 + -4 = 22 + (len5 : Int) by omega]
        exact hbd
      have h3 : prt zs5 0 (len5 : Int) = zs5 := prt_all (by omega)
      have h6 : prt zs6 0 (len6 : Int) = zs6 := prt_all (by omega)
      refine calls_of_yesV sound tabV_ok specsV_ok oversV_ok c_in_in_y4 rfl (tellA_ok (allTold'_iff.1 ?_)) r2 hargs
      simp only [c_in_in_t4, om_0, om_10, om_20, om_30, om_40, om_50, om_51, om_52, om_60, om_61, om_62, om_f, F11, F12, F14, F15, F16, ints_list, List.map_drop, List.map_take, List.map_append, map_ints, allTold', dutiesTold, factsA, factsC, factsP, factsR, AV.facts, RW.facts, inK, and_true, Q.holds', E.i, E.s, E.n, D.nat, E.den, BO.den, UO.den, TO.den, D.toInt_int, D.toList_list, D.ints_ofInts, i64min, i64max, u8min, u8max, u16min, u16max, u32min, u32max, u64min, u64max, i32min, i32max, Om.sub, selI, ints_app, ints_cut, ints_upd, ints_rep, ints_splice, ints_seg, len_ints]
      try simp only [cut_prt, Int.zero_add, h3, hz, hgp, rp0, rp3, rp4, rp5, rp6, rp7, hbz, h6]
      all_goals (and_intros <;> first | omega | exact r | exact g | trivial | skip)
  · by_cases r : readI zs6 = 0
    · have h3 : prt zs5 0 (len5 : Int) = zs5 := prt_all (by omega)
      have h6 : prt zs6 0 (len6 : Int) = zs6 := prt_all (by omega)
      have by6 : ∀ c ∈ zs6, 0 ≤ c ∧ c ≤ 255 := fun c hc => by
        have := rng6 c hc
        simpa only [inK, u8min, u8max] using this
      obtain ⟨u1, u2, u3, u4⟩ := put_read (z := zs6) (l := (len6 : Int)) by6 (by omega) r
      have hbb : prt (prt zs6 0 ((len6 : Int) + -4)) 22 (22 + ((len6 : Int) + -26)) = prt zs6 22 ((len6 : Int) - 4) := by
        have := prt_prt (x := zs6) (o := 0) (l := (len6 : Int) + -4) (a := 22) (b := 22 + ((len6 : Int) + -26)) (by omega) (by omega) (by omega) (by omega)
        simp only [Int.zero_add] at this
        rw [this]
        congr 1
        omega
      have e26 : (len6 : Int) - 26 = (len6 : Int) + -26 := by omega
      rw [e26] at u3
      refine calls_of_yesV sound tabV_ok specsV_ok oversV_ok c_in_in_y3 rfl (tellA_ok (allTold'_iff.1 ?_)) r2 hargs
      simp only [c_in_in_t3, om_0, om_10, om_20, om_30, om_40, om_50, om_51, om_52, om_60, om_61, om_62, om_f, F11, F12, F14, F15, F16, ints_list, List.map_drop, List.map_take, List.map_append, map_ints, allTold', dutiesTold, factsA, factsC, factsP, factsR, AV.facts, RW.facts, inK, and_true, Q.holds', E.i, E.s, E.n, D.nat, E.den, BO.den, UO.den, TO.den, D.toInt_int, D.toList_list, D.ints_ofInts, i64min, i64max, u8min, u8max, u16min, u16max, u32min, u32max, u64min, u64max, i32min, i32max, Om.sub, selI, ints_app, ints_cut, ints_upd, ints_rep, ints_splice, ints_seg, len_ints]
      try simp only [cut_prt, Int.zero_add, h3, h6, hbb, u3, u4]
      all_goals (and_intros <;> first | omega | exact r | exact g | trivial | skip)
    · have h3 : prt zs5 0 (len5 : Int) = zs5 := prt_all (by omega)
      have h6 : prt zs6 0 (len6 : Int) = zs6 := prt_all (by omega)
      refine calls_of_yesV sound tabV_ok specsV_ok oversV_ok c_in_in_y2 rfl (tellA_ok (allTold'_iff.1 ?_)) r2 hargs
      simp only [c_in_in_t2, om_0, om_10, om_20, om_30, om_40, om_50, om_51, om_52, om_60, om_61, om_62, om_f, F11, F12, F14, F15, F16, ints_list, List.map_drop, List.map_take, List.map_append, map_ints, allTold', dutiesTold, factsA, factsC, factsP, factsR, AV.facts, RW.facts, inK, and_true, Q.holds', E.i, E.s, E.n, D.nat, E.den, BO.den, UO.den, TO.den, D.toInt_int, D.toList_list, D.ints_ofInts, i64min, i64max, u8min, u8max, u16min, u16max, u32min, u32max, u64min, u64max, i32min, i32max, Om.sub, selI, ints_app, ints_cut, ints_upd, ints_rep, ints_splice, ints_seg, len_ints]
      try simp only [cut_prt, Int.zero_add, h3, h6]
      all_goals (and_intros <;> first | omega | exact r | exact g | trivial | skip)

theorem underS22 : Tryd.prog.underlying 22 = some (.slice 5) := by kernel_rfl
theorem underE5 : Tryd.prog.underlying 5 = some (.int .u8) := by kernel_rfl
theorem cellsE5 : Tryd.prog.cellsOf 5 = 1 := by kernel_rfl
theorem underI3 : Tryd.prog.underlying 3 = some (.int .i64) := by kernel_rfl
theorem len6 {l : List Value} (h : l.length = 6) : ∃ c0 c1 c2 c3 c4 c5, l = [c0, c1, c2, c3, c4, c5] := by
  match l, h with
  | [c0, c1, c2, c3, c4, c5], _ => exact ⟨_, _, _, _, _, _, rfl⟩

set_option maxRecDepth 100000 in
theorem lifted (os : Os) (started : os.Started) (H : Type) (enc : TypeId × Value → H) :
    ReturnsInHanded {} Tryd.checked os 6 .any (fun w args => (Rows.frameBackSpec.pre enc Tryd.prog Tryd.f6 [] false w args ∧ laidMetH Tryd.prog laidL w) ∧ sizedMet enc Tryd.prog Tryd.f6 (OpenSpec.ofChange Rows.frameBackSpec) false w args)
      (Rows.frameBackSpec.post enc Tryd.prog Tryd.f6 false true false false) := by
  refine returnsInHanded_of_change_and (C := Tryd.checked) (X := fun w _ => laidMetH Tryd.prog laidL w) (fun _ _ _ hh h => h.of_heap hh) own started (by kernel_rfl) Tryd.func6
    (ChangeSpec.witness_shaped (enc := enc) (C := Tryd.checked) (os := os) (X := fun w _ => laidMetH Tryd.prog laidL w) false (World.doorLaid Tryd.prog 400 os) #[.agg #[.int .i64 0, .int .i64 0, .int .i64 0, .int .i64 0, .int .i64 0, .slice none 0 0], .slice none 0 0] 8 rfl (World.shaped_of_RefB (by kernel_rfl) (by kernel_rfl)) (by kernel_rfl) (by kernel_rfl) (by kernel_rfl) (door_met os _)) ?_
  intro W base args ds gs before hval0 hW _ _ hL _
  have hval : ∀ (j : Nat) t v, Tryd.f6.params[j]? = some t → args[j]? = some v → Value.okWide Tryd.prog W .any base t v := hval0
  have hW' := hW
  have hlt := hW.lt
  obtain ⟨p, q, hA0, hV, rfl, hfz, hnd⟩ := hW
  have hA : DataW.TrodAll enc Tryd.prog W 0 (fun _ => true) true Tryd.f6.params.toList args.toList ds p := hA0
  have hAll := hA
  rw [Tryd.params6] at hA hval hAll
  obtain ⟨rfl, rfl⟩ := trodVars_none hV
  obtain ⟨pv0, pv1, d0, d1, p0, p1, rfl, rfl, rfl, h0, h1⟩ := trodAll_two hA
  obtain ⟨cs0, rfl, hl0, ht0⟩ := in_struct (L := [(3, 0, 1), (3, 1, 1), (3, 2, 1), (3, 3, 1), (3, 4, 1), (22, 5, 1)]) (n := 6) (by kernel_rfl) (by kernel_rfl) (hval 0 24 _ rfl rfl) h0
  obtain ⟨x0_0, x0_1, x0_2, x0_3, x0_4, x0_5, rfl⟩ := len6 hl0
  have q_ht0 := trod_pieces (L := [(3, 0, 1), (3, 1, 1), (3, 2, 1), (3, 3, 1), (3, 4, 1), (22, 5, 1)]) (by kernel_rfl) ht0
  obtain ⟨n0, rfl, wn0⟩ := leaf_int underI3 (show ∃ m y, DataW.trod enc Tryd.prog W 0 (fun _ => true) true m 3 [x0_0] = some y from q_ht0 (3, 0, 1) (by simp))
  obtain ⟨n1, rfl, wn1⟩ := leaf_int underI3 (show ∃ m y, DataW.trod enc Tryd.prog W 0 (fun _ => true) true m 3 [x0_1] = some y from q_ht0 (3, 1, 1) (by simp))
  obtain ⟨n2, rfl, wn2⟩ := leaf_int underI3 (show ∃ m y, DataW.trod enc Tryd.prog W 0 (fun _ => true) true m 3 [x0_2] = some y from q_ht0 (3, 2, 1) (by simp))
  obtain ⟨n3, rfl, wn3⟩ := leaf_int underI3 (show ∃ m y, DataW.trod enc Tryd.prog W 0 (fun _ => true) true m 3 [x0_3] = some y from q_ht0 (3, 3, 1) (by simp))
  obtain ⟨n4, rfl, wn4⟩ := leaf_int underI3 (show ∃ m y, DataW.trod enc Tryd.prog W 0 (fun _ => true) true m 3 [x0_4] = some y from q_ht0 (3, 4, 1) (by simp))
  have s5 := leaf_slice (k := .u8) underS22 underE5 cellsE5 (show ∃ m y, DataW.trod enc Tryd.prog W 0 (fun _ => true) true m 22 [x0_5] = some y from q_ht0 (22, 5, 1) (by simp))
  have s6 := in_slice (k := .u8) underS22 underE5 cellsE5 (hval 1 22 _ rfl rfl) h1
  clear hA0 hval0
  have hcall : Calls Tryd.prog 6 #[.agg #[.int .i64 n0, .int .i64 n1, .int .i64 n2, .int .i64 n3, .int .i64 n4, x0_5], pv1] W fun e w' => e = .returned (.bool true) ∧ Below W.heap.size W w' := by
    rcases s5 with rfl | ⟨a5, c5, rfl⟩ | ⟨_, _, _, _, _, s5⟩
    · rcases s6 with rfl | ⟨a6, c6, rfl⟩ | ⟨_, _, _, _, _, s6⟩
      · exact c_emp_emp_walk wn0 wn1 wn2 wn3 wn4 (fun _ => vr_emptyN) (fun _ => vr_emptyN) (globs0 _ hL)
      · exact c_emp_emp_walk wn0 wn1 wn2 wn3 wn4 (fun _ => vr_emptyN) (fun _ => vr_emptyH a6 c6) (globs0 _ hL)
      · exact c_emp_in_walk wn0 wn1 wn2 wn3 wn4 (fun _ => vr_emptyN) s6 (globs0 _ hL)
    · rcases s6 with rfl | ⟨a6, c6, rfl⟩ | ⟨_, _, _, _, _, s6⟩
      · exact c_emp_emp_walk wn0 wn1 wn2 wn3 wn4 (fun _ => vr_emptyH a5 c5) (fun _ => vr_emptyN) (globs0 _ hL)
      · exact c_emp_emp_walk wn0 wn1 wn2 wn3 wn4 (fun _ => vr_emptyH a5 c5) (fun _ => vr_emptyH a6 c6) (globs0 _ hL)
      · exact c_emp_in_walk wn0 wn1 wn2 wn3 wn4 (fun _ => vr_emptyH a5 c5) s6 (globs0 _ hL)
    · rcases s6 with rfl | ⟨a6, c6, rfl⟩ | ⟨_, _, _, _, _, s6⟩
      · exact c_in_emp_walk wn0 wn1 wn2 wn3 wn4 s5 (fun _ => vr_emptyN) (globs0 _ hL)
      · exact c_in_emp_walk wn0 wn1 wn2 wn3 wn4 s5 (fun _ => vr_emptyH a6 c6) (globs0 _ hL)
      · exact c_in_in_walk wn0 wn1 wn2 wn3 wn4 s5 s6 (globs0 _ hL)
  refine hcall.mono fun e W' ⟨he, hg⟩ => ?_
  subst he
  exact ⟨_, rfl, _, [], _, [], _, [], hW', trodAll_cons_mk (shut_bool Tryd.underlying4 _) trodAll_mk0, trodAll_stays laid hg _ _ _ _ hAll (fun x hx => hlt x (by simpa using hx)) (by kernel_rfl), rfl, hg.frame _, fun h => by cases h⟩

theorem over : Rows.frameBackRow.holds Tryd.pinned (OpenSpec.ofChange Rows.frameBackSpec) :=
  OpenClaim.holds_of_wide 6 Tryd.f6 rfl rfl rfl rfl rfl rfl rfl ⟨rfl, rfl, rfl, rfl, rfl⟩ rfl rfl rfl rfl rfl (by kernel_rfl) Tryd.func6 (by kernel_rfl)
    (of_decide_eq_true (by kernel_rfl)) (by unfold Func.isWrapper; first | (rw [if_pos (by decide +kernel)]; kernel_rfl) | (rw [if_neg (by decide +kernel)]; exact ⟨rfl, rfl⟩))
    (fun os started H enc _ => lifted os started H enc)

/-- The statement: the tied card. -/
theorem proved : Rows.FrameBackCardSaid :=
  Claim7.holds_tied_plain_at .later [] [.wider] true (true, "6723d8c1d0b12c6a2afdd924a4dfe7f1a7ea71b0fb2d32eb5ba4caa8938006bd") false
    over (fun _ h => by cases h) (by kernel_rfl) (fun _ h => by cases h) frameBack_row_tie rfl ⟨rfl, rfl⟩ (by kernel_rfl) rfl
    (fun f fn hf hfn => by
      obtain rfl : f = 6 := Option.some.inj ((show Tryd.prog.funcNamed "satchel/satchellaw11.FrameBack" = some 6 by kernel_rfl).symm.trans hf) |>.symm
      obtain rfl : fn = Tryd.f6 := (Option.some.inj (Tryd.func6.symm.trans hfn)).symm
      exact ⟨by kernel_rfl, fun j t ht => by
        rw [Tryd.params6] at ht
        have hm : t ∈ ([24, 22] : List TypeId) := by simpa using Array.mem_of_getElem? ht
        have hall : (([24, 22] : List TypeId).all fun u => !Tryd.prog.wantsStandIn u) = true := by kernel_rfl
        exact (show Tryd.prog.wantsStandIn t = false by simpa using List.all_eq_true.1 hall t hm)⟩)
    (by kernel_rfl)
#print axioms proved
end Go.Proofs.YtlmcjfcfmcdcpaaDoor.frameBack
