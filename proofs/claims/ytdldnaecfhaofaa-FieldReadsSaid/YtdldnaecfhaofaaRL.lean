/-
  The law FieldReads of the layer field holds of the code: for all inputs the call returns true, and the arguments read as they did. No condition.
-/
import Derived.Test.YtdldnaecfhaofaaCo
import Derived.Test.YtdldnaecfhaofaaSycp
import Derived.Test.YtdldnaecfhaofaaSyvp
import Derived.Test.YtdldnaecfhaofaaRl
import Derived.Test.YtdldnaecfhaofaaRa
import Derived.Test.YtdldnaecfhaofaaRx
import Derived.WalkKit
import Derived.ProofKit
import Derived.OpenShut
set_option linter.unusedSimpArgs false
set_option linter.unusedVariables false
namespace Go.Proofs.Ytdldnaecfhaofaa.fieldReads
open Go.ChangeShapes Go.WideShapes Go.ChangeAt Go.RowKit Go.Ev Go.Proofs.Ytdldnaecfhaofaa.Co Go.Proofs.Ytdldnaecfhaofaa.Rl Go.Proofs.Ytdldnaecfhaofaa.Ra Go.Proofs.Ytdldnaecfhaofaa.Rx

def om (len0 cap0 : Nat) (zs0 : List Int) (dv1 : D) : Om := ⟨fun _ => .bool false, fun i => if i = 0 then .int len0 else if i = 1 then .int cap0 else if i = 2 then D.ofInts zs0 else if i = 10 then dv1 else .int 0, F⟩
theorem om_0 (len0 cap0 : Nat) (zs0 : List Int) (dv1 : D) : (om len0 cap0 zs0 dv1).d 0 = .int len0 := rfl
theorem om_1 (len0 cap0 : Nat) (zs0 : List Int) (dv1 : D) : (om len0 cap0 zs0 dv1).d 1 = .int cap0 := rfl
theorem om_2 (len0 cap0 : Nat) (zs0 : List Int) (dv1 : D) : (om len0 cap0 zs0 dv1).d 2 = D.ofInts zs0 := rfl
theorem om_10 (len0 cap0 : Nat) (zs0 : List Int) (dv1 : D) : (om len0 cap0 zs0 dv1).d 10 = dv1 := rfl
theorem om_f (len0 cap0 : Nat) (zs0 : List Int) (dv1 : D) : (om len0 cap0 zs0 dv1).f = F := rfl
theorem lens_le : ∀ {l : List D} {B : Nat}, (∀ x ∈ l, (x.toList[3]?.getD (D.int 0)).toList.length ≤ B) → lensI l ≤ (l.length : Int) * (B : Int)
  | [], B, h => by simp [lensI]
  | x :: l, B, h => by
    have h1 := h x (by simp)
    have h2 := lens_le (l := l) (B := B) (fun y hy => h y (by simp [hy]))
    simp only [lensI, List.length_cons]
    rw [show ((l.length + 1 : Nat) : Int) * (B : Int) = (l.length : Int) * B + B by rw [Int.natCast_add, Int.add_mul]; simp]
    omega
theorem lens_act {B : Nat} {a b c s t : Sh} {x : D} (h : (Sh.agg [a, b, c, .sl s, t]).lens B x) : (x.toList[3]?.getD (D.int 0)).toList.length ≤ B := by
  simp only [Sh.lens] at h
  match x.toList, h with
  | [], _ => exact Nat.zero_le _
  | [_], _ => exact Nat.zero_le _
  | [_, _], _ => exact Nat.zero_le _
  | [_, _, _], _ => exact Nat.zero_le _
  | _ :: _ :: _ :: y :: _, h =>
    simp only [Sh.lenses, Sh.lens] at h
    exact h.2.2.2.1.1
theorem lens_max {a b c s t : Sh} {d : D} (h : (Sh.sl (Sh.agg [a, b, c, .sl s, t])).lens 140737488351232 d) : lensI ((d.toList.take 41).drop 0) ≤ 41 * 140737488351232 := by
  rw [Sh.lens] at h
  have := lens_le (l := (d.toList.take 41).drop 0) (B := 140737488351232) (fun x hx => lens_act (h.2 x (List.mem_of_mem_take (List.mem_of_mem_drop hx))))
  have hl : ((d.toList.take 41).drop 0).length ≤ 41 := by simp; omega
  omega
theorem lens_top {s : Sh} {d : D} (h : (Sh.sl s).lens 140737488351232 d) : d.toList.length ≤ 140737488351232 := by
  rw [Sh.lens] at h
  exact h.1

abbrev as0 : Q × Bool := ((.le (.int 0) (.fn 30 (.bi .pair (.var 10) (.bi .pair (.int 0) (.int 0))))), true)
abbrev as1 : Q × Bool := ((.le (.bi .add (.int 0) (.fn 30 (.bi .pair (.var 10) (.bi .pair (.int 0) (.int 0))))) (.int 4611686018427387904)), true)
abbrev as2 : Q × Bool := ((.le (.un .len (.var 10)) (.int 9223372036854775807)), true)
abbrev as3 : Q × Bool := ((.fit .i64 (.un .len (.var 10))), true)
abbrev as4 : Q × Bool := ((.le (.un .len (.var 10)) (.int 40)), false)
def c_emp_t0 : List (Q × Bool) := [as0, as1, as2, as3, as4]
set_option maxRecDepth 100000 in
theorem c_emp_y0 : yesOf Try.prog (knownV (tellA c_emp_t0) tab specs overs) 8000 80 3 [.empty, .pv (.agg [.int .i64, .int .i64, .int .i64, .sl (.int .u8), .agg [.int .u8, .int .u8, .int .u8, .int .u8, .int .u8, .int .u8, .int .u8, .int .u8, .int .u8, .int .u8, .int .u8, .int .u8, .int .u8, .int .u8, .int .u8, .int .u8]]) (.var 10)] (globSt g0) = true := by kernel_rfl
abbrev as5 : Q × Bool := ((.le (.un .len (.var 10)) (.int 40)), true)
abbrev as6 : Q × Bool := ((.le (.bi .add (.int 0) (.fn 30 (.bi .pair (.var 10) (.bi .pair (.int 0) (.int 0))))) (.int 3000)), false)
def c_emp_t1 : List (Q × Bool) := [as0, as1, as2, as3, as5, as6]
set_option maxRecDepth 100000 in
theorem c_emp_y1 : yesOf Try.prog (knownV (tellA c_emp_t1) tab specs overs) 8000 80 3 [.empty, .pv (.agg [.int .i64, .int .i64, .int .i64, .sl (.int .u8), .agg [.int .u8, .int .u8, .int .u8, .int .u8, .int .u8, .int .u8, .int .u8, .int .u8, .int .u8, .int .u8, .int .u8, .int .u8, .int .u8, .int .u8, .int .u8, .int .u8]]) (.var 10)] (globSt g0) = true := by kernel_rfl
abbrev as7 : Q × Bool := ((.le (.bi .add (.int 0) (.fn 30 (.bi .pair (.var 10) (.bi .pair (.int 0) (.int 0))))) (.int 3000)), true)
abbrev as8 : Q × Bool := ((.le (.int 0) (.un .len (.var 10))), true)
def c_emp_t2 : List (Q × Bool) := [as0, as1, as2, as3, as5, as7, as8]
set_option maxRecDepth 100000 in
theorem c_emp_y2 : yesOf Try.prog (knownV (tellA c_emp_t2) tab specs overs) 8000 80 3 [.empty, .pv (.agg [.int .i64, .int .i64, .int .i64, .sl (.int .u8), .agg [.int .u8, .int .u8, .int .u8, .int .u8, .int .u8, .int .u8, .int .u8, .int .u8, .int .u8, .int .u8, .int .u8, .int .u8, .int .u8, .int .u8, .int .u8, .int .u8]]) (.var 10)] (globSt g0) = true := by kernel_rfl
set_option maxRecDepth 100000 in
set_option maxHeartbeats 6000000 in
theorem c_emp_walk {W : World} {v0 : Value} (hv0 : ∀ e : Env, VR e .empty v0) {v1 : Value} {dv1 : D} (hv1 : PC (poolW W) (.sl (.agg [.int .i64, .int .i64, .int .i64, .sl (.int .u8), .agg [.int .u8, .int .u8, .int .u8, .int .u8, .int .u8, .int .u8, .int .u8, .int .u8, .int .u8, .int .u8, .int .u8, .int .u8, .int .u8, .int .u8, .int .u8, .int .u8]])) dv1 [v1]) (hl1 : (Sh.sl (.agg [.int .i64, .int .i64, .int .i64, .sl (.int .u8), .agg [.int .u8, .int .u8, .int .u8, .int .u8, .int .u8, .int .u8, .int .u8, .int .u8, .int .u8, .int .u8, .int .u8, .int .u8, .int .u8, .int .u8, .int .u8, .int .u8]])).lens 140737488351232 dv1) (hG : GlobsR (om 0 0 [] dv1) W g0) : Calls Try.prog 3 #[v0, v1] W fun e w' => e = .returned (.bool true) ∧ Below W.heap.size W w' := by
  have r0 := Rel.globs (om 0 0 [] dv1) W g0 hG
  have x1 : VR (Env.none (om 0 0 [] dv1) W) (.pv (.agg [.int .i64, .int .i64, .int .i64, .sl (.int .u8), .agg [.int .u8, .int .u8, .int .u8, .int .u8, .int .u8, .int .u8, .int .u8, .int .u8, .int .u8, .int .u8, .int .u8, .int .u8, .int .u8, .int .u8, .int .u8, .int .u8]]) (.var 10)) v1 := vr_val hv1 rfl
  have ok1 := PC.ok _ _ _ hv1
  have hargs : VRs (Env.none (om 0 0 [] dv1) W) [.empty, .pv (.agg [.int .i64, .int .i64, .int .i64, .sl (.int .u8), .agg [.int .u8, .int .u8, .int .u8, .int .u8, .int .u8, .int .u8, .int .u8, .int .u8, .int .u8, .int .u8, .int .u8, .int .u8, .int .u8, .int .u8, .int .u8, .int .u8]]) (.var 10)] [v0, v1] := VRs_cons (hv0 _) (VRs_cons (x1) (VRs_nil))
  have g0 : dv1.ints.length = dv1.toList.length := (len_ints _).symm
  have h1 := lens_top hl1
  have h2 := lens_max hl1
  have h3 := lens_nn ((dv1.toList.take 41).drop 0)
  by_cases h : 40 < dv1.toList.length
  · refine calls_of_yesV sound tab_ok specs_ok overs_ok c_emp_y0 rfl (tellA_ok (allTold'_iff.1 ?_)) r0 hargs
    simp only [c_emp_t0, om_0, om_1, om_2, om_10, om_f, F30, Int.toNat_zero, allTold', dutiesTold, factsA, factsC, factsP, factsR, AV.facts, RW.facts, inK, and_true, Q.holds', E.i, E.s, E.n, D.nat, E.den, BO.den, UO.den, TO.den, D.toInt_int, D.toList_list, D.ints_ofInts, i64min, i64max, u8min, u8max, u16min, u16max, u32min, u32max, u64min, u64max, i32min, i32max, Om.sub, selI, ints_app, ints_cut, ints_upd, ints_rep, ints_splice, ints_seg, len_ints]
    omega
  · by_cases h4 : 3000 < lensI ((dv1.toList.take 41).drop 0)
    · refine calls_of_yesV sound tab_ok specs_ok overs_ok c_emp_y1 rfl (tellA_ok (allTold'_iff.1 ?_)) r0 hargs
      simp only [c_emp_t1, om_0, om_1, om_2, om_10, om_f, F30, Int.toNat_zero, allTold', dutiesTold, factsA, factsC, factsP, factsR, AV.facts, RW.facts, inK, and_true, Q.holds', E.i, E.s, E.n, D.nat, E.den, BO.den, UO.den, TO.den, D.toInt_int, D.toList_list, D.ints_ofInts, i64min, i64max, u8min, u8max, u16min, u16max, u32min, u32max, u64min, u64max, i32min, i32max, Om.sub, selI, ints_app, ints_cut, ints_upd, ints_rep, ints_splice, ints_seg, len_ints]
      omega
    · refine calls_of_yesV sound tab_ok specs_ok overs_ok c_emp_y2 rfl (tellA_ok (allTold'_iff.1 ?_)) r0 hargs
      simp only [c_emp_t2, om_0, om_1, om_2, om_10, om_f, F30, Int.toNat_zero, allTold', dutiesTold, factsA, factsC, factsP, factsR, AV.facts, RW.facts, inK, and_true, Q.holds', E.i, E.s, E.n, D.nat, E.den, BO.den, UO.den, TO.den, D.toInt_int, D.toList_list, D.ints_ofInts, i64min, i64max, u8min, u8max, u16min, u16max, u32min, u32max, u64min, u64max, i32min, i32max, Om.sub, selI, ints_app, ints_cut, ints_upd, ints_rep, ints_splice, ints_seg, len_ints]
      and_intros <;> first | exact True.intro | omega | (rfl; done)

abbrev as9 : Q × Bool := ((.fit .i64 (.var 0)), true)
abbrev as10 : Q × Bool := ((.le (.var 0) (.int 2000)), false)
def c_in_t0 : List (Q × Bool) := [as9, as10]
set_option maxRecDepth 100000 in
theorem c_in_y0 : yesOf Try.prog (knownV (tellA c_in_t0) tab specs overs) 8000 80 3 [.sslice 1 (.int 0) (.var 0) (.var 1) false, .pv (.agg [.int .i64, .int .i64, .int .i64, .sl (.int .u8), .agg [.int .u8, .int .u8, .int .u8, .int .u8, .int .u8, .int .u8, .int .u8, .int .u8, .int .u8, .int .u8, .int .u8, .int .u8, .int .u8, .int .u8, .int .u8, .int .u8]]) (.var 10)] ((globSt g0).newO (.eseq ⟨.u8, .var 0, .var 2⟩)) = true := by kernel_rfl
abbrev as11 : Q × Bool := ((.le (.var 0) (.int 2000)), true)
def c_in_t1 : List (Q × Bool) := [as9, as11, as0, as1, as2, as3, as4]
set_option maxRecDepth 100000 in
theorem c_in_y1 : yesOf Try.prog (knownV (tellA c_in_t1) tab specs overs) 8000 80 3 [.sslice 1 (.int 0) (.var 0) (.var 1) false, .pv (.agg [.int .i64, .int .i64, .int .i64, .sl (.int .u8), .agg [.int .u8, .int .u8, .int .u8, .int .u8, .int .u8, .int .u8, .int .u8, .int .u8, .int .u8, .int .u8, .int .u8, .int .u8, .int .u8, .int .u8, .int .u8, .int .u8]]) (.var 10)] ((globSt g0).newO (.eseq ⟨.u8, .var 0, .var 2⟩)) = true := by kernel_rfl
def c_in_t2 : List (Q × Bool) := [as9, as11, as0, as1, as2, as3, as5, as6]
set_option maxRecDepth 100000 in
theorem c_in_y2 : yesOf Try.prog (knownV (tellA c_in_t2) tab specs overs) 8000 80 3 [.sslice 1 (.int 0) (.var 0) (.var 1) false, .pv (.agg [.int .i64, .int .i64, .int .i64, .sl (.int .u8), .agg [.int .u8, .int .u8, .int .u8, .int .u8, .int .u8, .int .u8, .int .u8, .int .u8, .int .u8, .int .u8, .int .u8, .int .u8, .int .u8, .int .u8, .int .u8, .int .u8]]) (.var 10)] ((globSt g0).newO (.eseq ⟨.u8, .var 0, .var 2⟩)) = true := by kernel_rfl
abbrev as12 : Q × Bool := ((.le (.bi .add (.int 0) (.var 0)) (.var 0)), true)
abbrev as13 : Q × Bool := ((.le (.var 0) (.int 1000000)), true)
abbrev as14 : Q × Bool := ((.le (.var 0) (.bi .add (.var 0) (.int 3))), true)
abbrev as15 : Q × Bool := ((.le (.bi .mul (.var 0) (.int 2)) (.int 281474976710656)), true)
abbrev as16 : Q × Bool := ((.le (.bi .add (.var 0) (.int 3)) (.int 9223372036854775807)), true)
abbrev as17 : Q × Bool := ((.same (.var 2) (.tr .cut (.fn 6 (.bi .pair (.var 2) (.bi .pair (.int 0) (.bi .pair (.bi .add (.int 0) (.var 0)) (.int 0))))) (.int 0) (.var 0))), true)
abbrev as18 : Q × Bool := ((.le (.int 0) (.var 0)), true)
abbrev as19 : Q × Bool := ((.le (.int 1) (.var 0)), true)
abbrev as20 : Q × Bool := ((.le (.var 0) (.var 1)), true)
def c_in_t3 : List (Q × Bool) := [as9, as11, as0, as1, as2, as3, as5, as7, as12, as13, as14, as15, as16, as17, as8, as18, as19, as20]
set_option maxRecDepth 100000 in
theorem c_in_y3 : yesOf Try.prog (knownV (tellA c_in_t3) tab specs overs) 8000 80 3 [.sslice 1 (.int 0) (.var 0) (.var 1) false, .pv (.agg [.int .i64, .int .i64, .int .i64, .sl (.int .u8), .agg [.int .u8, .int .u8, .int .u8, .int .u8, .int .u8, .int .u8, .int .u8, .int .u8, .int .u8, .int .u8, .int .u8, .int .u8, .int .u8, .int .u8, .int .u8, .int .u8]]) (.var 10)] ((globSt g0).newO (.eseq ⟨.u8, .var 0, .var 2⟩)) = true := by kernel_rfl
set_option maxRecDepth 100000 in
set_option maxHeartbeats 6000000 in
theorem c_in_walk {W : World} {v0 : Value} {b0 off0 len0 cap0 : Nat} {zs0 : List Int} (h0 : InSlice W .u8 v0 b0 off0 len0 cap0 zs0) {v1 : Value} {dv1 : D} (hv1 : PC (poolW W) (.sl (.agg [.int .i64, .int .i64, .int .i64, .sl (.int .u8), .agg [.int .u8, .int .u8, .int .u8, .int .u8, .int .u8, .int .u8, .int .u8, .int .u8, .int .u8, .int .u8, .int .u8, .int .u8, .int .u8, .int .u8, .int .u8, .int .u8]])) dv1 [v1]) (hl1 : (Sh.sl (.agg [.int .i64, .int .i64, .int .i64, .sl (.int .u8), .agg [.int .u8, .int .u8, .int .u8, .int .u8, .int .u8, .int .u8, .int .u8, .int .u8, .int .u8, .int .u8, .int .u8, .int .u8, .int .u8, .int .u8, .int .u8, .int .u8]])).lens 140737488351232 dv1) (hG : GlobsR (om len0 cap0 zs0 dv1) W g0) : Calls Try.prog 3 #[v0, v1] W fun e w' => e = .returned (.bool true) ∧ Below W.heap.size W w' := by
  have r0 := Rel.globs (om len0 cap0 zs0 dv1) W g0 hG
  have x1 : VR (Env.none (om len0 cap0 zs0 dv1) W) (.pv (.agg [.int .i64, .int .i64, .int .i64, .sl (.int .u8), .agg [.int .u8, .int .u8, .int .u8, .int .u8, .int .u8, .int .u8, .int .u8, .int .u8, .int .u8, .int .u8, .int .u8, .int .u8, .int .u8, .int .u8, .int .u8, .int .u8]]) (.var 10)) v1 := vr_val hv1 rfl
  have ok1 := PC.ok _ _ _ hv1
  obtain ⟨le0, r1, x0⟩ := h0.open r0 (l := 0) (c := 1) (x := 2) rfl rfl rfl
  replace x1 := VR.mono le0 _ _ x1
  have pos0 := h0.pos
  have lec0 := h0.le
  have max0 := h0.max
  have zl0 := h0.len
  have rng0 := h0.rng
  have hargs : VRs _ [.sslice 1 (.int 0) (.var 0) (.var 1) false, .pv (.agg [.int .i64, .int .i64, .int .i64, .sl (.int .u8), .agg [.int .u8, .int .u8, .int .u8, .int .u8, .int .u8, .int .u8, .int .u8, .int .u8, .int .u8, .int .u8, .int .u8, .int .u8, .int .u8, .int .u8, .int .u8, .int .u8]]) (.var 10)] [v0, v1] := VRs_cons (x0) (VRs_cons (x1) (VRs_nil))
  have g0 : dv1.ints.length = dv1.toList.length := (len_ints _).symm
  have h1 := lens_top hl1
  have h2 := lens_max hl1
  have h3 := lens_nn ((dv1.toList.take 41).drop 0)
  by_cases hb : 2000 < len0
  · refine calls_of_yesV sound tab_ok specs_ok overs_ok c_in_y0 rfl (tellA_ok (allTold'_iff.1 ?_)) r1 hargs
    simp only [c_in_t0, om_0, om_1, om_2, om_10, om_f, allTold', dutiesTold, factsA, factsC, factsP, factsR, AV.facts, RW.facts, inK, and_true, Q.holds', E.i, E.s, E.n, D.nat, E.den, BO.den, UO.den, TO.den, D.toInt_int, D.toList_list, D.ints_ofInts, i64min, i64max, u8min, u8max, u16min, u16max, u32min, u32max, u64min, u64max, i32min, i32max, Om.sub, selI, ints_app, ints_cut, ints_upd, ints_rep, ints_splice, ints_seg, len_ints]
    omega
  · have hc := lent_cut zs0
    have hl := h0.len
    rw [hl] at hc
    by_cases h : 40 < dv1.toList.length
    · refine calls_of_yesV sound tab_ok specs_ok overs_ok c_in_y1 rfl (tellA_ok (allTold'_iff.1 ?_)) r1 hargs
      simp only [c_in_t1, om_0, om_1, om_2, om_10, om_f, F30, Int.toNat_zero, allTold', dutiesTold, factsA, factsC, factsP, factsR, AV.facts, RW.facts, inK, and_true, Q.holds', E.i, E.s, E.n, D.nat, E.den, BO.den, UO.den, TO.den, D.toInt_int, D.toList_list, D.ints_ofInts, i64min, i64max, u8min, u8max, u16min, u16max, u32min, u32max, u64min, u64max, i32min, i32max, Om.sub, selI, ints_app, ints_cut, ints_upd, ints_rep, ints_splice, ints_seg, len_ints]
      omega
    · by_cases h4 : 3000 < lensI ((dv1.toList.take 41).drop 0)
      · refine calls_of_yesV sound tab_ok specs_ok overs_ok c_in_y2 rfl (tellA_ok (allTold'_iff.1 ?_)) r1 hargs
        simp only [c_in_t2, om_0, om_1, om_2, om_10, om_f, F30, Int.toNat_zero, allTold', dutiesTold, factsA, factsC, factsP, factsR, AV.facts, RW.facts, inK, and_true, Q.holds', E.i, E.s, E.n, D.nat, E.den, BO.den, UO.den, TO.den, D.toInt_int, D.toList_list, D.ints_ofInts, i64min, i64max, u8min, u8max, u16min, u16max, u32min, u32max, u64min, u64max, i32min, i32max, Om.sub, selI, ints_app, ints_cut, ints_upd, ints_rep, ints_splice, ints_seg, len_ints]
        omega
      · refine calls_of_yesV sound tab_ok specs_ok overs_ok c_in_y3 rfl (tellA_ok (allTold'_iff.1 ?_)) r1 hargs
        simp only [c_in_t3, om_0, om_1, om_2, om_10, om_f, F30, Int.toNat_zero, F6, D.ints_ofInts, Int.zero_add, hc, allTold', dutiesTold, factsA, factsC, factsP, factsR, AV.facts, RW.facts, inK, and_true, Q.holds', E.i, E.s, E.n, D.nat, E.den, BO.den, UO.den, TO.den, D.toInt_int, D.toList_list, D.ints_ofInts, i64min, i64max, u8min, u8max, u16min, u16max, u32min, u32max, u64min, u64max, i32min, i32max, Om.sub, selI, ints_app, ints_cut, ints_upd, ints_rep, ints_splice, ints_seg, len_ints]
        and_intros <;> first | exact True.intro | omega | (rfl; done)

theorem underS22 : Try.prog.underlying 22 = some (.slice 5) := by kernel_rfl
theorem underE5 : Try.prog.underlying 5 = some (.int .u8) := by kernel_rfl
theorem cellsE5 : Try.prog.cellsOf 5 = 1 := by kernel_rfl
theorem shape23 : (Sh.sl (.agg [.int .i64, .int .i64, .int .i64, .sl (.int .u8), .agg [.int .u8, .int .u8, .int .u8, .int .u8, .int .u8, .int .u8, .int .u8, .int .u8, .int .u8, .int .u8, .int .u8, .int .u8, .int .u8, .int .u8, .int .u8, .int .u8]])).is Try.prog 23 = true := by kernel_rfl

set_option maxRecDepth 100000 in
theorem lifted (os : Os) (started : os.Started) (H : Type) (enc : TypeId × Value → H) :
    ReturnsInHanded {} Try.checked os 3 .any (Rows.fieldReadsSpec.pre6 enc Try.prog Try.f3 Rows.fieldReadsRow.domain false) (Rows.fieldReadsSpec.post enc Try.prog Try.f3 false true false false) := by
  refine returnsInHanded_of_change_sized (C := Try.checked) own started (by kernel_rfl) Try.func3
    (ChangeSpec.witness6 (enc := enc) (C := Try.checked) false ⟨#[], #[.slice none 0 0, .slice none 0 0], []⟩ 8 (by kernel_rfl) (by kernel_rfl) (by kernel_rfl) (by kernel_rfl)) ?_
  intro W base args ds gs before hval0 hW hcnd hZ _
  have hval : ∀ (j : Nat) t v, Try.f3.params[j]? = some t → args[j]? = some v → Value.okWide Try.prog W .any base t v := hval0
  have hW' := hW
  have hlt := hW.lt
  obtain ⟨p, q, hA0, hV, rfl, hfz, hnd⟩ := hW
  have hA : DataW.TrodAll enc Try.prog W 0 (fun _ => true) true Try.f3.params.toList args.toList ds p := hA0
  have hAll := hA
  rw [Try.params3] at hA hval hAll hZ
  obtain ⟨rfl, rfl⟩ := trodVars_none hV
  obtain ⟨pv0, pv1, d0, d1, p0, p1, rfl, rfl, rfl, h0, h1⟩ := trodAll_two hA
  have s0 := in_slice (k := .u8) underS22 underE5 cellsE5 (hval 0 22 _ rfl rfl) h0
  obtain ⟨dv1, hv1, hl1⟩ := in_val (s := .agg [.int .i64, .int .i64, .int .i64, .sl (.int .u8), .agg [.int .u8, .int .u8, .int .u8, .int .u8, .int .u8, .int .u8, .int .u8, .int .u8, .int .u8, .int .u8, .int .u8, .int .u8, .int .u8, .int .u8, .int .u8, .int .u8]]) shape23 (hval 1 23 _ rfl rfl) h1 (weighed hZ (j := 1) rfl rfl)
  clear hA0 hval0
  have hcall : Calls Try.prog 3 #[pv0, pv1] W fun e w' => e = .returned (.bool true) ∧ Below W.heap.size W w' := by
    rcases s0 with rfl | ⟨a0, c0, rfl⟩ | ⟨_, _, _, _, _, s0⟩
    · exact c_emp_walk (fun _ => vr_emptyN) hv1 hl1 (globs0 _ W)
    · exact c_emp_walk (fun _ => vr_emptyH a0 c0) hv1 hl1 (globs0 _ W)
    · exact c_in_walk s0 hv1 hl1 (globs0 _ W)
  refine hcall.mono fun e W' ⟨he, hg⟩ => ?_
  subst he
  exact ⟨_, rfl, _, [], _, [], _, [], hW', trodAll_cons_mk (shut_bool Try.underlying4 _) trodAll_mk0, trodAll_stays laid hg _ _ _ _ hAll (fun x hx => hlt x (by simpa using hx)) (by kernel_rfl), rfl, hg.frame _, fun h => by cases h⟩

theorem over : Rows.fieldReadsRow.holds Try.pinned (OpenSpec.ofChange Rows.fieldReadsSpec) :=
  OpenClaim.holds_of_wide 3 Try.f3 rfl rfl rfl rfl rfl rfl rfl ⟨rfl, rfl, rfl, rfl, rfl⟩ rfl rfl rfl rfl rfl (by kernel_rfl) Try.func3 (by kernel_rfl)
    (of_decide_eq_true (by kernel_rfl)) (by unfold Func.isWrapper; first | (rw [if_pos (by decide +kernel)]; kernel_rfl) | (rw [if_neg (by decide +kernel)]; exact ⟨rfl, rfl⟩))
    (fun os started H enc _ => lifted os started H enc)

/-- The statement. -/
theorem proved : Rows.FieldReadsSaid :=
  over
#print axioms proved
end Go.Proofs.Ytdldnaecfhaofaa.fieldReads
