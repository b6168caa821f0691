/-
  The law FramePuts of the layer frame holds of the code: for all inputs the call returns true, and the arguments read as they did. No condition; the package variables that it reads are as the program's text lays them (the card ties them).
-/
import Derived.Test.YtlmcjfcfmcdcpaaDoorCo
import Derived.Test.YtlmcjfcfmcdcpaaDoorSycp
import Derived.Test.YtlmcjfcfmcdcpaaDoorSyag
import Derived.Test.YtlmcjfcfmcdcpaaDoorQp
import Derived.Test.YtlmcjfcfmcdcpaaDoorGa
import Derived.Test.YtlmcjfcfmcdcpaaDoorG2
import Derived.Test.YtlmcjfcfmcdcpaaDoorGm
import Derived.Test.YtlmcjfcfmcdcpaaDoorFl
import Derived.Test.YtlmcjfcfmcdcpaaDoorFa
import Derived.Test.YtlmcjfcfmcdcpaaDoorF7
import Derived.Test.YtlmcjfcfmcdcpaaDoorFp
import Derived.Test.YtlmcjfcfmcdcpaaDoorF8
import Derived.Test.YtlmcjfcfmcdcpaaDoorFi
import Derived.Test.YtlmcjfcfmcdcpaaDoorCards
import Derived.Test.YtlmcjfcfmcdcpaaDoorTie
import Derived.SevenTiedAt
import Derived.WalkKit
import Derived.ProofKit
import Derived.OpenShut
set_option linter.unusedSimpArgs false
set_option linter.unusedVariables false
namespace Go.Proofs.YtlmcjfcfmcdcpaaDoor.framePuts
open Go.ChangeShapes Go.WideShapes Go.ChangeAt Go.RowKit Go.Ev Go.Proofs.YtlmcjfcfmcdcpaaDoor.Co Go.Proofs.YtlmcjfcfmcdcpaaDoor.Qp Go.Proofs.YtlmcjfcfmcdcpaaDoor.Ga Go.Proofs.YtlmcjfcfmcdcpaaDoor.G2 Go.Proofs.YtlmcjfcfmcdcpaaDoor.Gm Go.Proofs.YtlmcjfcfmcdcpaaDoor.Fl Go.Proofs.YtlmcjfcfmcdcpaaDoor.Fa Go.Proofs.YtlmcjfcfmcdcpaaDoor.F7 Go.Proofs.YtlmcjfcfmcdcpaaDoor.Fp Go.Proofs.YtlmcjfcfmcdcpaaDoor.F8 Go.Proofs.YtlmcjfcfmcdcpaaDoor.Fi

def om (n0 : Int) (n1 : Int) (n2 : Int) (n3 : Int) (n4 : Int) (len5 cap5 : Nat) (zs5 : List Int) : Om := ⟨fun _ => .bool false, fun i => if i = 0 then .int n0 else if i = 10 then .int n1 else if i = 20 then .int n2 else if i = 30 then .int n3 else if i = 40 then .int n4 else if i = 50 then .int len5 else if i = 51 then .int cap5 else if i = 52 then D.ofInts zs5 else .int 0, F⟩
theorem om_0 (n0 : Int) (n1 : Int) (n2 : Int) (n3 : Int) (n4 : Int) (len5 cap5 : Nat) (zs5 : List Int) : (om n0 n1 n2 n3 n4 len5 cap5 zs5).d 0 = .int n0 := rfl
theorem om_10 (n0 : Int) (n1 : Int) (n2 : Int) (n3 : Int) (n4 : Int) (len5 cap5 : Nat) (zs5 : List Int) : (om n0 n1 n2 n3 n4 len5 cap5 zs5).d 10 = .int n1 := rfl
theorem om_20 (n0 : Int) (n1 : Int) (n2 : Int) (n3 : Int) (n4 : Int) (len5 cap5 : Nat) (zs5 : List Int) : (om n0 n1 n2 n3 n4 len5 cap5 zs5).d 20 = .int n2 := rfl
theorem om_30 (n0 : Int) (n1 : Int) (n2 : Int) (n3 : Int) (n4 : Int) (len5 cap5 : Nat) (zs5 : List Int) : (om n0 n1 n2 n3 n4 len5 cap5 zs5).d 30 = .int n3 := rfl
theorem om_40 (n0 : Int) (n1 : Int) (n2 : Int) (n3 : Int) (n4 : Int) (len5 cap5 : Nat) (zs5 : List Int) : (om n0 n1 n2 n3 n4 len5 cap5 zs5).d 40 = .int n4 := rfl
theorem om_50 (n0 : Int) (n1 : Int) (n2 : Int) (n3 : Int) (n4 : Int) (len5 cap5 : Nat) (zs5 : List Int) : (om n0 n1 n2 n3 n4 len5 cap5 zs5).d 50 = .int len5 := rfl
theorem om_51 (n0 : Int) (n1 : Int) (n2 : Int) (n3 : Int) (n4 : Int) (len5 cap5 : Nat) (zs5 : List Int) : (om n0 n1 n2 n3 n4 len5 cap5 zs5).d 51 = .int cap5 := rfl
theorem om_52 (n0 : Int) (n1 : Int) (n2 : Int) (n3 : Int) (n4 : Int) (len5 cap5 : Nat) (zs5 : List Int) : (om n0 n1 n2 n3 n4 len5 cap5 zs5).d 52 = D.ofInts zs5 := rfl
theorem om_f (n0 : Int) (n1 : Int) (n2 : Int) (n3 : Int) (n4 : Int) (len5 cap5 : Nat) (zs5 : List Int) : (om n0 n1 n2 n3 n4 len5 cap5 zs5).f = F := rfl

abbrev as0 : Q × Bool := ((.eq (.fn 11 (.bi .pair (.var 0) (.bi .pair (.var 10) (.bi .pair (.var 20) (.bi .pair (.var 30) (.bi .pair (.var 40) (.bi .pair (.int 0) (.int 0)))))))) (.int 0)), false)
def c_emp_t0 : List (Q × Bool) := [as0]
set_option maxRecDepth 100000 in
theorem c_emp_y0 : yesOf Tryd.prog (knownV (tellA c_emp_t0) tabP specsP oversP) 8000 80 3 [.agg [.sint .i64 (.var 0), .sint .i64 (.var 10), .sint .i64 (.var 20), .sint .i64 (.var 30), .sint .i64 (.var 40), .empty]] (globSt g0) = true := by kernel_rfl
abbrev as1 : Q × Bool := ((.eq (.fn 11 (.bi .pair (.var 0) (.bi .pair (.var 10) (.bi .pair (.var 20) (.bi .pair (.var 30) (.bi .pair (.var 40) (.bi .pair (.int 0) (.int 0)))))))) (.int 0)), true)
def c_emp_t1 : List (Q × Bool) := [as1]
set_option maxRecDepth 100000 in
theorem c_emp_y1 : yesOf Tryd.prog (knownV (tellA c_emp_t1) tabP specsP oversP) 8000 80 3 [.agg [.sint .i64 (.var 0), .sint .i64 (.var 10), .sint .i64 (.var 20), .sint .i64 (.var 30), .sint .i64 (.var 40), .empty]] (globSt g0) = true := by kernel_rfl
set_option maxRecDepth 100000 in
set_option maxHeartbeats 6000000 in
theorem c_emp_walk {W : World} {n0 : Int} (hn0 : inK .i64 n0) {n1 : Int} (hn1 : inK .i64 n1) {n2 : Int} (hn2 : inK .i64 n2) {n3 : Int} (hn3 : inK .i64 n3) {n4 : Int} (hn4 : inK .i64 n4) {v5 : Value} (hv5 : ∀ e : Env, VR e .empty v5) (hG : GlobsR (om n0 n1 n2 n3 n4 0 0 []) W g0) : Calls Tryd.prog 3 #[.agg #[.int .i64 n0, .int .i64 n1, .int .i64 n2, .int .i64 n3, .int .i64 n4, v5]] W fun e w' => e = .returned (.bool true) ∧ Below W.heap.size W w' := by
  have r0 := Rel.globs (om n0 n1 n2 n3 n4 0 0 []) W g0 hG
  have hargs : VRs (Env.none (om n0 n1 n2 n3 n4 0 0 [])) [.agg [.sint .i64 (.var 0), .sint .i64 (.var 10), .sint .i64 (.var 20), .sint .i64 (.var 30), .sint .i64 (.var 40), .empty]] [.agg #[.int .i64 n0, .int .i64 n1, .int .i64 n2, .int .i64 n3, .int .i64 n4, v5]] := VRs_cons (vr_agg (VRs_cons (vr_sint (i := 0) hn0 (by rw [r0.opq]; rfl)) (VRs_cons (vr_sint (i := 10) hn1 (by rw [r0.opq]; rfl)) (VRs_cons (vr_sint (i := 20) hn2 (by rw [r0.opq]; rfl)) (VRs_cons (vr_sint (i := 30) hn3 (by rw [r0.opq]; rfl)) (VRs_cons (vr_sint (i := 40) hn4 (by rw [r0.opq]; rfl)) (VRs_cons (hv5 _) (VRs_nil)))))))) (VRs_nil)
  simp only [inK, i64min, i64max, u8min, u8max, u32min, u32max, u64min, u64max] at hn0
  simp only [inK, i64min, i64max, u8min, u8max, u32min, u32max, u64min, u64max] at hn1
  simp only [inK, i64min, i64max, u8min, u8max, u32min, u32max, u64min, u64max] at hn2
  simp only [inK, i64min, i64max, u8min, u8max, u32min, u32max, u64min, u64max] at hn3
  simp only [inK, i64min, i64max, u8min, u8max, u32min, u32max, u64min, u64max] at hn4
  by_cases g : errI n0 n1 n2 n3 n4 0 = 0
  · refine calls_of_yesV sound tabP_ok specsP_ok oversP_ok c_emp_y1 rfl (tellA_ok (allTold'_iff.1 ?_)) r0 hargs
    simp only [c_emp_t1, om_0, om_10, om_20, om_30, om_40, om_50, om_51, om_52, om_f, F6, F11, F12, allTold', dutiesTold, factsA, factsC, factsP, factsR, AV.facts, RW.facts, inK, and_true, Q.holds', E.i, E.s, E.n, D.nat, E.den, BO.den, UO.den, TO.den, D.toInt_int, D.toList_list, D.ints_ofInts, i64min, i64max, u8min, u8max, u16min, u16max, u32min, u32max, u64min, u64max, i32min, i32max, Om.sub, selI, ints_app, ints_cut, ints_upd, ints_rep, ints_splice, ints_seg, len_ints]
    and_intros <;> first | omega | skip
  · refine calls_of_yesV sound tabP_ok specsP_ok oversP_ok c_emp_y0 rfl (tellA_ok (allTold'_iff.1 ?_)) r0 hargs
    simp only [c_emp_t0, om_0, om_10, om_20, om_30, om_40, om_50, om_51, om_52, om_f, F6, F11, F12, allTold', dutiesTold, factsA, factsC, factsP, factsR, AV.facts, RW.facts, inK, and_true, Q.holds', E.i, E.s, E.n, D.nat, E.den, BO.den, UO.den, TO.den, D.toInt_int, D.toList_list, D.ints_ofInts, i64min, i64max, u8min, u8max, u16min, u16max, u32min, u32max, u64min, u64max, i32min, i32max, Om.sub, selI, ints_app, ints_cut, ints_upd, ints_rep, ints_splice, ints_seg, len_ints]
    and_intros <;> first | omega | skip

abbrev as2 : Q × Bool := ((.fit .i64 (.var 50)), true)
abbrev as3 : Q × Bool := ((.le (.var 50) (.int 2000)), false)
def c_in_t0 : List (Q × Bool) := [as2, as3]
set_option maxRecDepth 100000 in
theorem c_in_y0 : yesOf Tryd.prog (knownV (tellA c_in_t0) tabP specsP oversP) 8000 80 3 [.agg [.sint .i64 (.var 0), .sint .i64 (.var 10), .sint .i64 (.var 20), .sint .i64 (.var 30), .sint .i64 (.var 40), .sslice 1 (.int 0) (.var 50) (.var 51) false]] ((globSt g0).newO (.eseq ⟨.u8, .var 50, .var 52⟩)) = true := by kernel_rfl
abbrev as4 : Q × Bool := ((.le (.var 50) (.int 2000)), true)
abbrev as5 : Q × Bool := ((.le (.bi .add (.int 0) (.var 50)) (.var 50)), true)
abbrev as6 : Q × Bool := ((.le (.var 50) (.int 1000000)), true)
abbrev as7 : Q × Bool := ((.le (.bi .add (.int 0) (.var 50)) (.bi .add (.var 50) (.int 3))), true)
abbrev as8 : Q × Bool := ((.le (.var 50) (.int 900000)), true)
abbrev as9 : Q × Bool := ((.le (.int 0) (.var 50)), true)
abbrev as10 : Q × Bool := ((.eq (.fn 11 (.bi .pair (.var 0) (.bi .pair (.var 10) (.bi .pair (.var 20) (.bi .pair (.var 30) (.bi .pair (.var 40) (.bi .pair (.var 50) (.int 0)))))))) (.int 0)), false)
abbrev as11 : Q × Bool := ((.le (.int 1) (.bi .add (.var 50) (.int 3))), true)
abbrev as12 : Q × Bool := ((.le (.int 1) (.var 51)), true)
def c_in_t1 : List (Q × Bool) := [as2, as4, as5, as6, as7, as8, as9, as10, as11, as12]
set_option maxRecDepth 100000 in
theorem c_in_y1 : yesOf Tryd.prog (knownV (tellA c_in_t1) tabP specsP oversP) 8000 80 3 [.agg [.sint .i64 (.var 0), .sint .i64 (.var 10), .sint .i64 (.var 20), .sint .i64 (.var 30), .sint .i64 (.var 40), .sslice 1 (.int 0) (.var 50) (.var 51) false]] ((globSt g0).newO (.eseq ⟨.u8, .var 50, .var 52⟩)) = true := by kernel_rfl
abbrev as13 : Q × Bool := ((.eq (.fn 11 (.bi .pair (.var 0) (.bi .pair (.var 10) (.bi .pair (.var 20) (.bi .pair (.var 30) (.bi .pair (.var 40) (.bi .pair (.var 50) (.int 0)))))))) (.int 0)), true)
abbrev as14 : Q × Bool := ((.same (.fn 12 (.bi .pair (.var 0) (.bi .pair (.var 10) (.bi .pair (.var 20) (.bi .pair (.var 30) (.bi .pair (.var 40) (.bi .pair (.fn 6 (.bi .pair (.var 52) (.bi .pair (.int 0) (.bi .pair (.bi .add (.int 0) (.var 50)) (.int 0))))) (.bi .pair (.int 0) (.bi .pair (.var 50) (.int 0)))))))))) (.fn 12 (.bi .pair (.var 0) (.bi .pair (.var 10) (.bi .pair (.var 20) (.bi .pair (.var 30) (.bi .pair (.var 40) (.bi .pair (.var 52) (.bi .pair (.int 0) (.bi .pair (.var 50) (.int 0))))))))))), true)
def c_in_t2 : List (Q × Bool) := [as2, as4, as5, as6, as7, as8, as9, as13, as14, as11, as12]
set_option maxRecDepth 100000 in
theorem c_in_y2 : yesOf Tryd.prog (knownV (tellA c_in_t2) tabP specsP oversP) 8000 80 3 [.agg [.sint .i64 (.var 0), .sint .i64 (.var 10), .sint .i64 (.var 20), .sint .i64 (.var 30), .sint .i64 (.var 40), .sslice 1 (.int 0) (.var 50) (.var 51) false]] ((globSt g0).newO (.eseq ⟨.u8, .var 50, .var 52⟩)) = true := by kernel_rfl
set_option maxRecDepth 100000 in
set_option maxHeartbeats 6000000 in
theorem c_in_walk {W : World} {n0 : Int} (hn0 : inK .i64 n0) {n1 : Int} (hn1 : inK .i64 n1) {n2 : Int} (hn2 : inK .i64 n2) {n3 : Int} (hn3 : inK .i64 n3) {n4 : Int} (hn4 : inK .i64 n4) {v5 : Value} {b5 off5 len5 cap5 : Nat} {zs5 : List Int} (h5 : InSlice W .u8 v5 b5 off5 len5 cap5 zs5) (hG : GlobsR (om n0 n1 n2 n3 n4 len5 cap5 zs5) W g0) : Calls Tryd.prog 3 #[.agg #[.int .i64 n0, .int .i64 n1, .int .i64 n2, .int .i64 n3, .int .i64 n4, v5]] W fun e w' => e = .returned (.bool true) ∧ Below W.heap.size W w' := by
  have r0 := Rel.globs (om n0 n1 n2 n3 n4 len5 cap5 zs5) W g0 hG
  obtain ⟨le5, r1, x5⟩ := h5.open r0 (l := 50) (c := 51) (x := 52) rfl rfl rfl
  have pos5 := h5.pos
  have lec5 := h5.le
  have max5 := h5.max
  have zl5 := h5.len
  have rng5 := h5.rng
  have hargs : VRs _ [.agg [.sint .i64 (.var 0), .sint .i64 (.var 10), .sint .i64 (.var 20), .sint .i64 (.var 30), .sint .i64 (.var 40), .sslice 1 (.int 0) (.var 50) (.var 51) false]] [.agg #[.int .i64 n0, .int .i64 n1, .int .i64 n2, .int .i64 n3, .int .i64 n4, v5]] := VRs_cons (vr_agg (VRs_cons (vr_sint (i := 0) hn0 (by rw [r1.opq]; rfl)) (VRs_cons (vr_sint (i := 10) hn1 (by rw [r1.opq]; rfl)) (VRs_cons (vr_sint (i := 20) hn2 (by rw [r1.opq]; rfl)) (VRs_cons (vr_sint (i := 30) hn3 (by rw [r1.opq]; rfl)) (VRs_cons (vr_sint (i := 40) hn4 (by rw [r1.opq]; rfl)) (VRs_cons (x5) (VRs_nil)))))))) (VRs_nil)
  simp only [inK, i64min, i64max, u8min, u8max, u32min, u32max, u64min, u64max] at hn0
  simp only [inK, i64min, i64max, u8min, u8max, u32min, u32max, u64min, u64max] at hn1
  simp only [inK, i64min, i64max, u8min, u8max, u32min, u32max, u64min, u64max] at hn2
  simp only [inK, i64min, i64max, u8min, u8max, u32min, u32max, u64min, u64max] at hn3
  simp only [inK, i64min, i64max, u8min, u8max, u32min, u32max, u64min, u64max] at hn4
  by_cases h : 2000 < len5
  · refine calls_of_yesV sound tabP_ok specsP_ok oversP_ok c_in_y0 rfl (tellA_ok (allTold'_iff.1 ?_)) r1 hargs
    simp only [c_in_t0, om_0, om_10, om_20, om_30, om_40, om_50, om_51, om_52, om_f, allTold', dutiesTold, factsA, factsC, factsP, factsR, AV.facts, RW.facts, inK, and_true, Q.holds', E.i, E.s, E.n, D.nat, E.den, BO.den, UO.den, TO.den, D.toInt_int, D.toList_list, D.ints_ofInts, i64min, i64max, u8min, u8max, u16min, u16max, u32min, u32max, u64min, u64max, i32min, i32max, Om.sub, selI, ints_app, ints_cut, ints_upd, ints_rep, ints_splice, ints_seg, len_ints]
    omega
  · have hl : lentI (prt zs5 0 (0 + (len5 : Int))) = lentI zs5 := by rw [prt_all (by omega)]
    have h2 : prt (lentI zs5) 0 (0 + (len5 : Int)) = zs5 := prt_lent (by omega)
    have h3 : prt zs5 0 (0 + (len5 : Int)) = zs5 := prt_all (by omega)
    by_cases g : errI n0 n1 n2 n3 n4 len5 = 0
    · refine calls_of_yesV sound tabP_ok specsP_ok oversP_ok c_in_y2 rfl (tellA_ok (allTold'_iff.1 ?_)) r1 hargs
      simp only [c_in_t2, om_0, om_10, om_20, om_30, om_40, om_50, om_51, om_52, om_f, F6, F11, F12, allTold', dutiesTold, factsA, factsC, factsP, factsR, AV.facts, RW.facts, inK, and_true, Q.holds', E.i, E.s, E.n, D.nat, E.den, BO.den, UO.den, TO.den, D.toInt_int, D.toList_list, D.ints_ofInts, i64min, i64max, u8min, u8max, u16min, u16max, u32min, u32max, u64min, u64max, i32min, i32max, Om.sub, selI, ints_app, ints_cut, ints_upd, ints_rep, ints_splice, ints_seg, len_ints]
      and_intros <;> first | omega | (rw [hl, h2, h3])
    · refine calls_of_yesV sound tabP_ok specsP_ok oversP_ok c_in_y1 rfl (tellA_ok (allTold'_iff.1 ?_)) r1 hargs
      simp only [c_in_t1, om_0, om_10, om_20, om_30, om_40, om_50, om_51, om_52, om_f, F6, F11, F12, allTold', dutiesTold, factsA, factsC, factsP, factsR, AV.facts, RW.facts, inK, and_true, Q.holds', E.i, E.s, E.n, D.nat, E.den, BO.den, UO.den, TO.den, D.toInt_int, D.toList_list, D.ints_ofInts, i64min, i64max, u8min, u8max, u16min, u16max, u32min, u32max, u64min, u64max, i32min, i32max, Om.sub, selI, ints_app, ints_cut, ints_upd, ints_rep, ints_splice, ints_seg, len_ints]
      and_intros <;> first | omega | (rw [hl, h2, h3])

theorem underS22 : Tryd.prog.underlying 22 = some (.slice 5) := by kernel_rfl
theorem underE5 : Tryd.prog.underlying 5 = some (.int .u8) := by kernel_rfl
theorem cellsE5 : Tryd.prog.cellsOf 5 = 1 := by kernel_rfl
theorem underI3 : Tryd.prog.underlying 3 = some (.int .i64) := by kernel_rfl
theorem len6 {l : List Value} (h : l.length = 6) : ∃ c0 c1 c2 c3 c4 c5, l = [c0, c1, c2, c3, c4, c5] := by
  match l, h with
  | [c0, c1, c2, c3, c4, c5], _ => exact ⟨_, _, _, _, _, _, rfl⟩

set_option maxRecDepth 100000 in
theorem lifted (os : Os) (started : os.Started) (H : Type) (enc : TypeId × Value → H) :
    ReturnsInHanded {} Tryd.checked os 3 .any (fun w args => (Rows.framePutsSpec.pre enc Tryd.prog Tryd.f3 [] false w args ∧ laidMetH Tryd.prog laidL w) ∧ sizedMet enc Tryd.prog Tryd.f3 (OpenSpec.ofChange Rows.framePutsSpec) false w args)
      (Rows.framePutsSpec.post enc Tryd.prog Tryd.f3 false true false false) := by
  refine returnsInHanded_of_change_and (C := Tryd.checked) (X := fun w _ => laidMetH Tryd.prog laidL w) (fun _ _ _ hh h => h.of_heap hh) own started (by kernel_rfl) Tryd.func3
    (ChangeSpec.witness_shaped (enc := enc) (C := Tryd.checked) (os := os) (X := fun w _ => laidMetH Tryd.prog laidL w) false (World.doorLaid Tryd.prog 400 os) #[.agg #[.int .i64 0, .int .i64 0, .int .i64 0, .int .i64 0, .int .i64 0, .slice none 0 0]] 8 rfl (World.shaped_of_RefB (by kernel_rfl) (by kernel_rfl)) (by kernel_rfl) (by kernel_rfl) (by kernel_rfl) (door_met os _)) ?_
  intro W base args ds gs before hval0 hW _ _ hL _
  have hval : ∀ (j : Nat) t v, Tryd.f3.params[j]? = some t → args[j]? = some v → Value.okWide Tryd.prog W .any base t v := hval0
  have hW' := hW
  have hlt := hW.lt
  obtain ⟨p, q, hA0, hV, rfl, hfz, hnd⟩ := hW
  have hA : DataW.TrodAll enc Tryd.prog W 0 (fun _ => true) true Tryd.f3.params.toList args.toList ds p := hA0
  have hAll := hA
  rw [Tryd.params3] at hA hval hAll
  obtain ⟨rfl, rfl⟩ := trodVars_none hV
  obtain ⟨pv0, d0, rfl, rfl, h0⟩ := trodAll_one hA
  obtain ⟨cs0, rfl, hl0, ht0⟩ := in_struct (L := [(3, 0, 1), (3, 1, 1), (3, 2, 1), (3, 3, 1), (3, 4, 1), (22, 5, 1)]) (n := 6) (by kernel_rfl) (by kernel_rfl) (hval 0 24 _ rfl rfl) h0
  obtain ⟨x0_0, x0_1, x0_2, x0_3, x0_4, x0_5, rfl⟩ := len6 hl0
  have q_ht0 := trod_pieces (L := [(3, 0, 1), (3, 1, 1), (3, 2, 1), (3, 3, 1), (3, 4, 1), (22, 5, 1)]) (by kernel_rfl) ht0
  obtain ⟨n0, rfl, wn0⟩ := leaf_int underI3 (show ∃ m y, DataW.trod enc Tryd.prog W 0 (fun _ => true) true m 3 [x0_0] = some y from q_ht0 (3, 0, 1) (by simp))
  obtain ⟨n1, rfl, wn1⟩ := leaf_int underI3 (show ∃ m y, DataW.trod enc Tryd.prog W 0 (fun _ => true) true m 3 [x0_1] = some y from q_ht0 (3, 1, 1) (by simp))
  obtain ⟨n2, rfl, wn2⟩ := leaf_int underI3 (show ∃ m y, DataW.trod enc Tryd.prog W 0 (fun _ => true) true m 3 [x0_2] = some y from q_ht0 (3, 2, 1) (by simp))
  obtain ⟨n3, rfl, wn3⟩ := leaf_int underI3 (show ∃ m y, DataW.trod enc Tryd.prog W 0 (fun _ => true) true m 3 [x0_3] = some y from q_ht0 (3, 3, 1) (by simp))
  obtain ⟨n4, rfl, wn4⟩ := leaf_int underI3 (show ∃ m y, DataW.trod enc Tryd.prog W 0 (fun _ => true) true m 3 [x0_4] = some y from q_ht0 (3, 4, 1) (by simp))
  have s5 := leaf_slice (k := .u8) underS22 underE5 cellsE5 (show ∃ m y, DataW.trod enc Tryd.prog W 0 (fun _ => true) true m 22 [x0_5] = some y from q_ht0 (22, 5, 1) (by simp))
  clear hA0 hval0
  have hcall : Calls Tryd.prog 3 #[.agg #[.int .i64 n0, .int .i64 n1, .int .i64 n2, .int .i64 n3, .int .i64 n4, x0_5]] W fun e w' => e = .returned (.bool true) ∧ Below W.heap.size W w' := by
    rcases s5 with rfl | ⟨a5, c5, rfl⟩ | ⟨_, _, _, _, _, s5⟩
    · exact c_emp_walk wn0 wn1 wn2 wn3 wn4 (fun _ => vr_emptyN) (globs0 _ hL)
    · exact c_emp_walk wn0 wn1 wn2 wn3 wn4 (fun _ => vr_emptyH a5 c5) (globs0 _ hL)
    · exact c_in_walk wn0 wn1 wn2 wn3 wn4 s5 (globs0 _ hL)
  refine hcall.mono fun e W' ⟨he, hg⟩ => ?_
  subst he
  exact ⟨_, rfl, _, [], _, [], _, [], hW', trodAll_cons_mk (shut_bool Tryd.underlying4 _) trodAll_mk0, trodAll_stays laid hg _ _ _ _ hAll (fun x hx => hlt x (by simpa using hx)) (by kernel_rfl), rfl, hg.frame _, fun h => by cases h⟩

theorem over : Rows.framePutsRow.holds Tryd.pinned (OpenSpec.ofChange Rows.framePutsSpec) :=
  OpenClaim.holds_of_wide 3 Tryd.f3 rfl rfl rfl rfl rfl rfl rfl ⟨rfl, rfl, rfl, rfl, rfl⟩ rfl rfl rfl rfl rfl (by kernel_rfl) Tryd.func3 (by kernel_rfl)
    (of_decide_eq_true (by kernel_rfl)) (by unfold Func.isWrapper; first | (rw [if_pos (by decide +kernel)]; kernel_rfl) | (rw [if_neg (by decide +kernel)]; exact ⟨rfl, rfl⟩))
    (fun os started H enc _ => lifted os started H enc)

/-- The statement: the tied card. -/
theorem proved : Rows.FramePutsCardSaid :=
  Claim7.holds_tied_plain_at .later [] [.wider] true (true, "6723d8c1d0b12c6a2afdd924a4dfe7f1a7ea71b0fb2d32eb5ba4caa8938006bd") false
    over (fun _ h => by cases h) (by kernel_rfl) (fun _ h => by cases h) framePuts_row_tie rfl ⟨rfl, rfl⟩ (by kernel_rfl) rfl
    (fun f fn hf hfn => by
      obtain rfl : f = 3 := Option.some.inj ((show Tryd.prog.funcNamed "satchel/satchellaw11.FramePuts" = some 3 by kernel_rfl).symm.trans hf) |>.symm
      obtain rfl : fn = Tryd.f3 := (Option.some.inj (Tryd.func3.symm.trans hfn)).symm
      exact ⟨by kernel_rfl, fun j t ht => by
        rw [Tryd.params3] at ht
        have hm : t ∈ ([24] : List TypeId) := by simpa using Array.mem_of_getElem? ht
        have hall : (([24] : List TypeId).all fun u => !Tryd.prog.wantsStandIn u) = true := by kernel_rfl
        exact (show Tryd.prog.wantsStandIn t = false by simpa using List.all_eq_true.1 hall t hm)⟩)
    (by kernel_rfl)
#print axioms proved
end Go.Proofs.YtlmcjfcfmcdcpaaDoor.framePuts
