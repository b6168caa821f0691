/-
  The law NetNone of the layer net holds of the code: for all inputs the call returns true, and the arguments read as they did. No condition.
-/
import Derived.Test.YtgjhonjdomegnaaCo
import Derived.Test.YtgjhonjdomegnaaSycp
import Derived.Test.YtgjhonjdomegnaaSyag
import Derived.Test.YtgjhonjdomegnaaCa
import Derived.WalkKit
import Derived.ProofKit
import Derived.OpenShut
set_option linter.unusedSimpArgs false
set_option linter.unusedVariables false
namespace Go.Proofs.Ytgjhonjdomegnaa.netNone
open Go.ChangeShapes Go.WideShapes Go.ChangeAt Go.RowKit Go.Ev Go.Proofs.Ytgjhonjdomegnaa.Co Go.Proofs.Ytgjhonjdomegnaa.Ca

def om (n0 : Int) (n1 : Int) (len2 cap2 : Nat) (zs2 : List Int) (n3 : Int) (n4 : Int) : Om := ⟨fun _ => .bool false, fun i => if i = 0 then .int n0 else if i = 10 then .int n1 else if i = 20 then .int len2 else if i = 21 then .int cap2 else if i = 22 then D.ofInts zs2 else if i = 30 then .int n3 else if i = 40 then .int n4 else .int 0, F⟩
theorem om_0 (n0 : Int) (n1 : Int) (len2 cap2 : Nat) (zs2 : List Int) (n3 : Int) (n4 : Int) : (om n0 n1 len2 cap2 zs2 n3 n4).d 0 = .int n0 := rfl
theorem om_10 (n0 : Int) (n1 : Int) (len2 cap2 : Nat) (zs2 : List Int) (n3 : Int) (n4 : Int) : (om n0 n1 len2 cap2 zs2 n3 n4).d 10 = .int n1 := rfl
theorem om_20 (n0 : Int) (n1 : Int) (len2 cap2 : Nat) (zs2 : List Int) (n3 : Int) (n4 : Int) : (om n0 n1 len2 cap2 zs2 n3 n4).d 20 = .int len2 := rfl
theorem om_21 (n0 : Int) (n1 : Int) (len2 cap2 : Nat) (zs2 : List Int) (n3 : Int) (n4 : Int) : (om n0 n1 len2 cap2 zs2 n3 n4).d 21 = .int cap2 := rfl
theorem om_22 (n0 : Int) (n1 : Int) (len2 cap2 : Nat) (zs2 : List Int) (n3 : Int) (n4 : Int) : (om n0 n1 len2 cap2 zs2 n3 n4).d 22 = D.ofInts zs2 := rfl
theorem om_30 (n0 : Int) (n1 : Int) (len2 cap2 : Nat) (zs2 : List Int) (n3 : Int) (n4 : Int) : (om n0 n1 len2 cap2 zs2 n3 n4).d 30 = .int n3 := rfl
theorem om_40 (n0 : Int) (n1 : Int) (len2 cap2 : Nat) (zs2 : List Int) (n3 : Int) (n4 : Int) : (om n0 n1 len2 cap2 zs2 n3 n4).d 40 = .int n4 := rfl
theorem om_f (n0 : Int) (n1 : Int) (len2 cap2 : Nat) (zs2 : List Int) (n3 : Int) (n4 : Int) : (om n0 n1 len2 cap2 zs2 n3 n4).f = F := rfl

def c_emp_t0 : List (Q × Bool) := []
set_option maxRecDepth 100000 in
theorem c_emp_y0 : yesOf Try.prog (knownV (tellA c_emp_t0) tab specs overs) 8000 80 4 [.agg [.sint .i64 (.var 0), .sint .i64 (.var 10), .empty], .sint .i64 (.var 30), .sint .i64 (.var 40)] (globSt g0) = true := by kernel_rfl
set_option maxRecDepth 100000 in
set_option maxHeartbeats 6000000 in
theorem c_emp_walk {W : World} {n0 : Int} (hn0 : inK .i64 n0) {n1 : Int} (hn1 : inK .i64 n1) {v2 : Value} (hv2 : ∀ e : Env, VR e .empty v2) {n3 : Int} (hn3 : inK .i64 n3) {n4 : Int} (hn4 : inK .i64 n4) (hG : GlobsR (om n0 n1 0 0 [] n3 n4) W g0) : Calls Try.prog 4 #[.agg #[.int .i64 n0, .int .i64 n1, v2], .int .i64 n3, .int .i64 n4] W fun e w' => e = .returned (.bool true) ∧ Below W.heap.size W w' := by
  have r0 := Rel.globs (om n0 n1 0 0 [] n3 n4) W g0 hG
  have hargs : VRs (Env.none (om n0 n1 0 0 [] n3 n4)) [.agg [.sint .i64 (.var 0), .sint .i64 (.var 10), .empty], .sint .i64 (.var 30), .sint .i64 (.var 40)] [.agg #[.int .i64 n0, .int .i64 n1, v2], .int .i64 n3, .int .i64 n4] := VRs_cons (vr_agg (VRs_cons (vr_sint (i := 0) hn0 (by rw [r0.opq]; rfl)) (VRs_cons (vr_sint (i := 10) hn1 (by rw [r0.opq]; rfl)) (VRs_cons (hv2 _) (VRs_nil))))) (VRs_cons (vr_sint (i := 30) hn3 (by rw [r0.opq]; rfl)) (VRs_cons (vr_sint (i := 40) hn4 (by rw [r0.opq]; rfl)) (VRs_nil)))
  simp only [inK, i64min, i64max, u8min, u8max, u32min, u32max, u64min, u64max] at hn0
  simp only [inK, i64min, i64max, u8min, u8max, u32min, u32max, u64min, u64max] at hn1
  simp only [inK, i64min, i64max, u8min, u8max, u32min, u32max, u64min, u64max] at hn3
  simp only [inK, i64min, i64max, u8min, u8max, u32min, u32max, u64min, u64max] at hn4
  refine calls_of_yesV sound tab_ok specs_ok overs_ok c_emp_y0 rfl (tellA_ok (allTold'_iff.1 ?_)) r0 hargs
  simp only [c_emp_t0, om_0, om_10, om_20, om_21, om_22, om_30, om_40, om_f, allTold', dutiesTold, factsA, factsC, factsP, factsR, AV.facts, RW.facts, inK, and_true, Q.holds', E.i, E.s, E.n, D.nat, E.den, BO.den, UO.den, TO.den, D.toInt_int, D.toList_list, D.ints_ofInts, i64min, i64max, u8min, u8max, u16min, u16max, u32min, u32max, u64min, u64max, i32min, i32max, Om.sub, selI, ints_app, ints_cut, ints_upd, ints_rep, ints_splice, ints_seg, len_ints]
  first | omega | trivial | done

abbrev as0 : Q × Bool := ((.fit .i64 (.var 20)), true)
abbrev as1 : Q × Bool := ((.le (.var 20) (.int 100)), false)
def c_in_t0 : List (Q × Bool) := [as0, as1]
set_option maxRecDepth 100000 in
theorem c_in_y0 : yesOf Try.prog (knownV (tellA c_in_t0) tab specs overs) 8000 80 4 [.agg [.sint .i64 (.var 0), .sint .i64 (.var 10), .sslice 1 (.int 0) (.var 20) (.var 21) false], .sint .i64 (.var 30), .sint .i64 (.var 40)] ((globSt g0).newO (.eseq ⟨.u8, .var 20, .var 22⟩)) = true := by kernel_rfl
abbrev as2 : Q × Bool := ((.le (.var 20) (.int 100)), true)
def c_in_t1 : List (Q × Bool) := [as0, as2]
set_option maxRecDepth 100000 in
theorem c_in_y1 : yesOf Try.prog (knownV (tellA c_in_t1) tab specs overs) 8000 80 4 [.agg [.sint .i64 (.var 0), .sint .i64 (.var 10), .sslice 1 (.int 0) (.var 20) (.var 21) false], .sint .i64 (.var 30), .sint .i64 (.var 40)] ((globSt g0).newO (.eseq ⟨.u8, .var 20, .var 22⟩)) = true := by kernel_rfl
set_option maxRecDepth 100000 in
set_option maxHeartbeats 6000000 in
theorem c_in_walk {W : World} {n0 : Int} (hn0 : inK .i64 n0) {n1 : Int} (hn1 : inK .i64 n1) {v2 : Value} {b2 off2 len2 cap2 : Nat} {zs2 : List Int} (h2 : InSlice W .u8 v2 b2 off2 len2 cap2 zs2) {n3 : Int} (hn3 : inK .i64 n3) {n4 : Int} (hn4 : inK .i64 n4) (hG : GlobsR (om n0 n1 len2 cap2 zs2 n3 n4) W g0) : Calls Try.prog 4 #[.agg #[.int .i64 n0, .int .i64 n1, v2], .int .i64 n3, .int .i64 n4] W fun e w' => e = .returned (.bool true) ∧ Below W.heap.size W w' := by
  have r0 := Rel.globs (om n0 n1 len2 cap2 zs2 n3 n4) W g0 hG
  obtain ⟨le2, r1, x2⟩ := h2.open r0 (l := 20) (c := 21) (x := 22) rfl rfl rfl
  have pos2 := h2.pos
  have lec2 := h2.le
  have max2 := h2.max
  have zl2 := h2.len
  have rng2 := h2.rng
  have hargs : VRs _ [.agg [.sint .i64 (.var 0), .sint .i64 (.var 10), .sslice 1 (.int 0) (.var 20) (.var 21) false], .sint .i64 (.var 30), .sint .i64 (.var 40)] [.agg #[.int .i64 n0, .int .i64 n1, v2], .int .i64 n3, .int .i64 n4] := VRs_cons (vr_agg (VRs_cons (vr_sint (i := 0) hn0 (by rw [r1.opq]; rfl)) (VRs_cons (vr_sint (i := 10) hn1 (by rw [r1.opq]; rfl)) (VRs_cons (x2) (VRs_nil))))) (VRs_cons (vr_sint (i := 30) hn3 (by rw [r1.opq]; rfl)) (VRs_cons (vr_sint (i := 40) hn4 (by rw [r1.opq]; rfl)) (VRs_nil)))
  simp only [inK, i64min, i64max, u8min, u8max, u32min, u32max, u64min, u64max] at hn0
  simp only [inK, i64min, i64max, u8min, u8max, u32min, u32max, u64min, u64max] at hn1
  simp only [inK, i64min, i64max, u8min, u8max, u32min, u32max, u64min, u64max] at hn3
  simp only [inK, i64min, i64max, u8min, u8max, u32min, u32max, u64min, u64max] at hn4
  by_cases h : 100 < len2
  · refine calls_of_yesV sound tab_ok specs_ok overs_ok c_in_y0 rfl (tellA_ok (allTold'_iff.1 ?_)) r1 hargs
    simp only [c_in_t0, om_0, om_10, om_20, om_21, om_22, om_30, om_40, om_f, allTold', dutiesTold, factsA, factsC, factsP, factsR, AV.facts, RW.facts, inK, and_true, Q.holds', E.i, E.s, E.n, D.nat, E.den, BO.den, UO.den, TO.den, D.toInt_int, D.toList_list, D.ints_ofInts, i64min, i64max, u8min, u8max, u16min, u16max, u32min, u32max, u64min, u64max, i32min, i32max, Om.sub, selI, ints_app, ints_cut, ints_upd, ints_rep, ints_splice, ints_seg, len_ints]
    omega
  · refine calls_of_yesV sound tab_ok specs_ok overs_ok c_in_y1 rfl (tellA_ok (allTold'_iff.1 ?_)) r1 hargs
    simp only [c_in_t1, om_0, om_10, om_20, om_21, om_22, om_30, om_40, om_f, allTold', dutiesTold, factsA, factsC, factsP, factsR, AV.facts, RW.facts, inK, and_true, Q.holds', E.i, E.s, E.n, D.nat, E.den, BO.den, UO.den, TO.den, D.toInt_int, D.toList_list, D.ints_ofInts, i64min, i64max, u8min, u8max, u16min, u16max, u32min, u32max, u64min, u64max, i32min, i32max, Om.sub, selI, ints_app, ints_cut, ints_upd, ints_rep, ints_splice, ints_seg, len_ints]
    first | omega | trivial | done

theorem underS33 : Try.prog.underlying 33 = some (.slice 5) := by kernel_rfl
theorem underE5 : Try.prog.underlying 5 = some (.int .u8) := by kernel_rfl
theorem cellsE5 : Try.prog.cellsOf 5 = 1 := by kernel_rfl
theorem underI3 : Try.prog.underlying 3 = some (.int .i64) := by kernel_rfl
theorem len3 {l : List Value} (h : l.length = 3) : ∃ c0 c1 c2, l = [c0, c1, c2] := by
  match l, h with
  | [c0, c1, c2], _ => exact ⟨_, _, _, rfl⟩

set_option maxRecDepth 100000 in
theorem lifted (os : Os) (started : os.Started) (H : Type) (enc : TypeId × Value → H) :
    ReturnsInHanded {} Try.checked os 4 .any (Rows.netNoneSpec.pre6 enc Try.prog Try.f4 Rows.netNoneRow.domain false) (Rows.netNoneSpec.post enc Try.prog Try.f4 false true false false) := by
  refine returnsInHanded_of_change (C := Try.checked) own started (by kernel_rfl) Try.func4
    (ChangeSpec.witness6 (enc := enc) (C := Try.checked) false ⟨#[], #[.agg #[.int .i64 0, .int .i64 0, .slice none 0 0], .int .i64 0, .int .i64 0], []⟩ 8 (by kernel_rfl) (by kernel_rfl) (by kernel_rfl) (by kernel_rfl)) ?_
  intro W base args ds gs before hval0 hW hcnd _
  have hval : ∀ (j : Nat) t v, Try.f4.params[j]? = some t → args[j]? = some v → Value.okWide Try.prog W .any base t v := hval0
  have hW' := hW
  have hlt := hW.lt
  obtain ⟨p, q, hA0, hV, rfl, hfz, hnd⟩ := hW
  have hA : DataW.TrodAll enc Try.prog W 0 (fun _ => true) true Try.f4.params.toList args.toList ds p := hA0
  have hAll := hA
  rw [Try.params4] at hA hval hAll
  obtain ⟨rfl, rfl⟩ := trodVars_none hV
  obtain ⟨pv0, pv1, pv2, d0, d1, d2, p0, p1, p2, rfl, rfl, rfl, h0, h1, h2⟩ := trodAll_three hA
  obtain ⟨cs0, rfl, hl0, ht0⟩ := in_struct (L := [(3, 0, 1), (3, 1, 1), (33, 2, 1)]) (n := 3) (by kernel_rfl) (by kernel_rfl) (hval 0 35 _ rfl rfl) h0
  obtain ⟨x0_0, x0_1, x0_2, rfl⟩ := len3 hl0
  have q_ht0 := trod_pieces (L := [(3, 0, 1), (3, 1, 1), (33, 2, 1)]) (by kernel_rfl) ht0
  obtain ⟨n0, rfl, wn0⟩ := leaf_int underI3 (show ∃ m y, DataW.trod enc Try.prog W 0 (fun _ => true) true m 3 [x0_0] = some y from q_ht0 (3, 0, 1) (by simp))
  obtain ⟨n1, rfl, wn1⟩ := leaf_int underI3 (show ∃ m y, DataW.trod enc Try.prog W 0 (fun _ => true) true m 3 [x0_1] = some y from q_ht0 (3, 1, 1) (by simp))
  have s2 := leaf_slice (k := .u8) underS33 underE5 cellsE5 (show ∃ m y, DataW.trod enc Try.prog W 0 (fun _ => true) true m 33 [x0_2] = some y from q_ht0 (33, 2, 1) (by simp))
  obtain ⟨n3, rfl, rfl, rfl, wn3⟩ := open_int underI3 (hval 1 3 _ rfl rfl) h1
  have wn3 := wf_inK wn3
  obtain ⟨n4, rfl, rfl, rfl, wn4⟩ := open_int underI3 (hval 2 3 _ rfl rfl) h2
  have wn4 := wf_inK wn4
  clear hA0 hval0
  have hcall : Calls Try.prog 4 #[.agg #[.int .i64 n0, .int .i64 n1, x0_2], .int .i64 n3, .int .i64 n4] W fun e w' => e = .returned (.bool true) ∧ Below W.heap.size W w' := by
    rcases s2 with rfl | ⟨a2, c2, rfl⟩ | ⟨_, _, _, _, _, s2⟩
    · exact c_emp_walk wn0 wn1 (fun _ => vr_emptyN) wn3 wn4 (globs0 _ W)
    · exact c_emp_walk wn0 wn1 (fun _ => vr_emptyH a2 c2) wn3 wn4 (globs0 _ W)
    · exact c_in_walk wn0 wn1 s2 wn3 wn4 (globs0 _ W)
  refine hcall.mono fun e W' ⟨he, hg⟩ => ?_
  subst he
  exact ⟨_, rfl, _, [], _, [], _, [], hW', trodAll_cons_mk (shut_bool Try.underlying4 _) trodAll_mk0, trodAll_stays laid hg _ _ _ _ hAll (fun x hx => hlt x (by simpa using hx)) (by kernel_rfl), rfl, hg.frame _, fun h => by cases h⟩

theorem over : Rows.netNoneRow.holds Try.pinned (OpenSpec.ofChange Rows.netNoneSpec) :=
  OpenClaim.holds_of_wide 4 Try.f4 rfl rfl rfl rfl rfl rfl rfl ⟨rfl, rfl, rfl, rfl, rfl⟩ rfl rfl rfl rfl rfl (by kernel_rfl) Try.func4 (by kernel_rfl)
    (of_decide_eq_true (by kernel_rfl)) (by unfold Func.isWrapper; first | (rw [if_pos (by decide +kernel)]; kernel_rfl) | (rw [if_neg (by decide +kernel)]; exact ⟨rfl, rfl⟩))
    (fun os started H enc _ => lifted os started H enc)

/-- The statement. -/
theorem proved : Rows.NetNoneSaid :=
  over
#print axioms proved
end Go.Proofs.Ytgjhonjdomegnaa.netNone
