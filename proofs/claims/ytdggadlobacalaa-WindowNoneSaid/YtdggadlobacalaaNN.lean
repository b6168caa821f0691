/-
  The law WindowNone of the layer window holds of the code: for all inputs the call returns true, and the arguments read as they did. No condition.
-/
import Derived.Test.YtdggadlobacalaaCo
import Derived.Test.YtdggadlobacalaaSycp
import Derived.Test.YtdggadlobacalaaSyag
import Derived.Test.YtdggadlobacalaaCa
import Derived.WalkKit
import Derived.ProofKit
import Derived.OpenShut
set_option linter.unusedSimpArgs false
set_option linter.unusedVariables false
namespace Go.Proofs.Ytdggadlobacalaa.windowNone
open Go.ChangeShapes Go.WideShapes Go.ChangeAt Go.RowKit Go.Ev Go.Proofs.Ytdggadlobacalaa.Co Go.Proofs.Ytdggadlobacalaa.Ca

def om (n0 : Int) (n1 : Int) (n2 : Int) (len3 cap3 : Nat) (zs3 : List Int) : Om := ⟨fun _ => .bool false, fun i => if i = 0 then .int n0 else if i = 10 then .int n1 else if i = 20 then .int n2 else if i = 30 then .int len3 else if i = 31 then .int cap3 else if i = 32 then D.ofInts zs3 else .int 0, F⟩
theorem om_0 (n0 : Int) (n1 : Int) (n2 : Int) (len3 cap3 : Nat) (zs3 : List Int) : (om n0 n1 n2 len3 cap3 zs3).d 0 = .int n0 := rfl
theorem om_10 (n0 : Int) (n1 : Int) (n2 : Int) (len3 cap3 : Nat) (zs3 : List Int) : (om n0 n1 n2 len3 cap3 zs3).d 10 = .int n1 := rfl
theorem om_20 (n0 : Int) (n1 : Int) (n2 : Int) (len3 cap3 : Nat) (zs3 : List Int) : (om n0 n1 n2 len3 cap3 zs3).d 20 = .int n2 := rfl
theorem om_30 (n0 : Int) (n1 : Int) (n2 : Int) (len3 cap3 : Nat) (zs3 : List Int) : (om n0 n1 n2 len3 cap3 zs3).d 30 = .int len3 := rfl
theorem om_31 (n0 : Int) (n1 : Int) (n2 : Int) (len3 cap3 : Nat) (zs3 : List Int) : (om n0 n1 n2 len3 cap3 zs3).d 31 = .int cap3 := rfl
theorem om_32 (n0 : Int) (n1 : Int) (n2 : Int) (len3 cap3 : Nat) (zs3 : List Int) : (om n0 n1 n2 len3 cap3 zs3).d 32 = D.ofInts zs3 := rfl
theorem om_f (n0 : Int) (n1 : Int) (n2 : Int) (len3 cap3 : Nat) (zs3 : List Int) : (om n0 n1 n2 len3 cap3 zs3).f = F := rfl

def c_emp_t0 : List (Q × Bool) := []
set_option maxRecDepth 100000 in
theorem c_emp_y0 : yesOf Try.prog (knownV (tellA c_emp_t0) tab specs overs) 8000 80 3 [.agg [.sint .i64 (.var 0), .sint .i64 (.var 10), .sint .i64 (.var 20), .empty]] (globSt g0) = true := by kernel_rfl
set_option maxRecDepth 100000 in
set_option maxHeartbeats 6000000 in
theorem c_emp_walk {W : World} {n0 : Int} (hn0 : inK .i64 n0) {n1 : Int} (hn1 : inK .i64 n1) {n2 : Int} (hn2 : inK .i64 n2) {v3 : Value} (hv3 : ∀ e : Env, VR e .empty v3) (hG : GlobsR (om n0 n1 n2 0 0 []) W g0) : Calls Try.prog 3 #[.agg #[.int .i64 n0, .int .i64 n1, .int .i64 n2, v3]] W fun e w' => e = .returned (.bool true) ∧ Below W.heap.size W w' := by
  have r0 := Rel.globs (om n0 n1 n2 0 0 []) W g0 hG
  have hargs : VRs (Env.none (om n0 n1 n2 0 0 []) W) [.agg [.sint .i64 (.var 0), .sint .i64 (.var 10), .sint .i64 (.var 20), .empty]] [.agg #[.int .i64 n0, .int .i64 n1, .int .i64 n2, v3]] := VRs_cons (vr_agg (VRs_cons (vr_sint (i := 0) hn0 (by rw [r0.opq]; rfl)) (VRs_cons (vr_sint (i := 10) hn1 (by rw [r0.opq]; rfl)) (VRs_cons (vr_sint (i := 20) hn2 (by rw [r0.opq]; rfl)) (VRs_cons (hv3 _) (VRs_nil)))))) (VRs_nil)
  simp only [inK, i64min, i64max, u8min, u8max, u32min, u32max, u64min, u64max] at hn0
  simp only [inK, i64min, i64max, u8min, u8max, u32min, u32max, u64min, u64max] at hn1
  simp only [inK, i64min, i64max, u8min, u8max, u32min, u32max, u64min, u64max] at hn2
  refine calls_of_yesV sound tab_ok specs_ok overs_ok c_emp_y0 rfl (tellA_ok (allTold'_iff.1 ?_)) r0 hargs
  simp only [c_emp_t0, om_0, om_10, om_20, om_30, om_31, om_32, om_f, allTold', dutiesTold, factsA, factsC, factsP, factsR, AV.facts, RW.facts, inK, and_true, Q.holds', E.i, E.s, E.n, D.nat, E.den, BO.den, UO.den, TO.den, D.toInt_int, D.toList_list, D.ints_ofInts, i64min, i64max, u8min, u8max, u16min, u16max, u32min, u32max, u64min, u64max, i32min, i32max, Om.sub, selI, ints_app, ints_cut, ints_upd, ints_rep, ints_splice, ints_seg, len_ints]
  first | omega | trivial | done

abbrev as0 : Q × Bool := ((.fit .i64 (.var 30)), true)
abbrev as1 : Q × Bool := ((.le (.var 30) (.int 4000)), false)
def c_in_t0 : List (Q × Bool) := [as0, as1]
set_option maxRecDepth 100000 in
theorem c_in_y0 : yesOf Try.prog (knownV (tellA c_in_t0) tab specs overs) 8000 80 3 [.agg [.sint .i64 (.var 0), .sint .i64 (.var 10), .sint .i64 (.var 20), .sslice 1 (.int 0) (.var 30) (.var 31) false]] ((globSt g0).newO (.eseq ⟨.u8, .var 30, .var 32⟩)) = true := by kernel_rfl
abbrev as2 : Q × Bool := ((.le (.var 30) (.int 4000)), true)
def c_in_t1 : List (Q × Bool) := [as0, as2]
set_option maxRecDepth 100000 in
theorem c_in_y1 : yesOf Try.prog (knownV (tellA c_in_t1) tab specs overs) 8000 80 3 [.agg [.sint .i64 (.var 0), .sint .i64 (.var 10), .sint .i64 (.var 20), .sslice 1 (.int 0) (.var 30) (.var 31) false]] ((globSt g0).newO (.eseq ⟨.u8, .var 30, .var 32⟩)) = true := by kernel_rfl
set_option maxRecDepth 100000 in
set_option maxHeartbeats 6000000 in
theorem c_in_walk {W : World} {n0 : Int} (hn0 : inK .i64 n0) {n1 : Int} (hn1 : inK .i64 n1) {n2 : Int} (hn2 : inK .i64 n2) {v3 : Value} {b3 off3 len3 cap3 : Nat} {zs3 : List Int} (h3 : InSlice W .u8 v3 b3 off3 len3 cap3 zs3) (hG : GlobsR (om n0 n1 n2 len3 cap3 zs3) W g0) : Calls Try.prog 3 #[.agg #[.int .i64 n0, .int .i64 n1, .int .i64 n2, v3]] W fun e w' => e = .returned (.bool true) ∧ Below W.heap.size W w' := by
  have r0 := Rel.globs (om n0 n1 n2 len3 cap3 zs3) W g0 hG
  obtain ⟨le3, r1, x3⟩ := h3.open r0 (l := 30) (c := 31) (x := 32) rfl rfl rfl
  have pos3 := h3.pos
  have lec3 := h3.le
  have max3 := h3.max
  have zl3 := h3.len
  have rng3 := h3.rng
  have hargs : VRs _ [.agg [.sint .i64 (.var 0), .sint .i64 (.var 10), .sint .i64 (.var 20), .sslice 1 (.int 0) (.var 30) (.var 31) false]] [.agg #[.int .i64 n0, .int .i64 n1, .int .i64 n2, v3]] := VRs_cons (vr_agg (VRs_cons (vr_sint (i := 0) hn0 (by rw [r1.opq]; rfl)) (VRs_cons (vr_sint (i := 10) hn1 (by rw [r1.opq]; rfl)) (VRs_cons (vr_sint (i := 20) hn2 (by rw [r1.opq]; rfl)) (VRs_cons (x3) (VRs_nil)))))) (VRs_nil)
  simp only [inK, i64min, i64max, u8min, u8max, u32min, u32max, u64min, u64max] at hn0
  simp only [inK, i64min, i64max, u8min, u8max, u32min, u32max, u64min, u64max] at hn1
  simp only [inK, i64min, i64max, u8min, u8max, u32min, u32max, u64min, u64max] at hn2
  by_cases h : 4000 < len3
  · refine calls_of_yesV sound tab_ok specs_ok overs_ok c_in_y0 rfl (tellA_ok (allTold'_iff.1 ?_)) r1 hargs
    simp only [c_in_t0, om_0, om_10, om_20, om_30, om_31, om_32, om_f, allTold', dutiesTold, factsA, factsC, factsP, factsR, AV.facts, RW.facts, inK, and_true, Q.holds', E.i, E.s, E.n, D.nat, E.den, BO.den, UO.den, TO.den, D.toInt_int, D.toList_list, D.ints_ofInts, i64min, i64max, u8min, u8max, u16min, u16max, u32min, u32max, u64min, u64max, i32min, i32max, Om.sub, selI, ints_app, ints_cut, ints_upd, ints_rep, ints_splice, ints_seg, len_ints]
    omega
  · refine calls_of_yesV sound tab_ok specs_ok overs_ok c_in_y1 rfl (tellA_ok (allTold'_iff.1 ?_)) r1 hargs
    simp only [c_in_t1, om_0, om_10, om_20, om_30, om_31, om_32, om_f, allTold', dutiesTold, factsA, factsC, factsP, factsR, AV.facts, RW.facts, inK, and_true, Q.holds', E.i, E.s, E.n, D.nat, E.den, BO.den, UO.den, TO.den, D.toInt_int, D.toList_list, D.ints_ofInts, i64min, i64max, u8min, u8max, u16min, u16max, u32min, u32max, u64min, u64max, i32min, i32max, Om.sub, selI, ints_app, ints_cut, ints_upd, ints_rep, ints_splice, ints_seg, len_ints]
    first | omega | trivial | done

theorem underS22 : Try.prog.underlying 22 = some (.slice 5) := by kernel_rfl
theorem underE5 : Try.prog.underlying 5 = some (.int .u8) := by kernel_rfl
theorem cellsE5 : Try.prog.cellsOf 5 = 1 := by kernel_rfl
theorem underI3 : Try.prog.underlying 3 = some (.int .i64) := by kernel_rfl
theorem len4 {l : List Value} (h : l.length = 4) : ∃ c0 c1 c2 c3, l = [c0, c1, c2, c3] := by
  match l, h with
  | [c0, c1, c2, c3], _ => exact ⟨_, _, _, _, rfl⟩

set_option maxRecDepth 100000 in
theorem lifted (os : Os) (started : os.Started) (H : Type) (enc : TypeId × Value → H) :
    ReturnsInHanded {} Try.checked os 3 .any (Rows.windowNoneSpec.pre6 enc Try.prog Try.f3 Rows.windowNoneRow.domain false) (Rows.windowNoneSpec.post enc Try.prog Try.f3 false true false false) := by
  refine returnsInHanded_of_change (C := Try.checked) own started (by kernel_rfl) Try.func3
    (ChangeSpec.witness6 (enc := enc) (C := Try.checked) false ⟨#[], #[.agg #[.int .i64 0, .int .i64 0, .int .i64 0, .slice none 0 0]], []⟩ 8 (by kernel_rfl) (by kernel_rfl) (by kernel_rfl) (by kernel_rfl)) ?_
  intro W base args ds gs before hval0 hW hcnd _
  have hval : ∀ (j : Nat) t v, Try.f3.params[j]? = some t → args[j]? = some v → Value.okWide Try.prog W .any base t v := hval0
  have hW' := hW
  have hlt := hW.lt
  obtain ⟨p, q, hA0, hV, rfl, hfz, hnd⟩ := hW
  have hA : DataW.TrodAll enc Try.prog W 0 (fun _ => true) true Try.f3.params.toList args.toList ds p := hA0
  have hAll := hA
  rw [Try.params3] at hA hval hAll
  obtain ⟨rfl, rfl⟩ := trodVars_none hV
  obtain ⟨pv0, d0, rfl, rfl, h0⟩ := trodAll_one hA
  obtain ⟨cs0, rfl, hl0, ht0⟩ := in_struct (L := [(3, 0, 1), (3, 1, 1), (3, 2, 1), (22, 3, 1)]) (n := 4) (by kernel_rfl) (by kernel_rfl) (hval 0 24 _ rfl rfl) h0
  obtain ⟨x0_0, x0_1, x0_2, x0_3, rfl⟩ := len4 hl0
  have q_ht0 := trod_pieces (L := [(3, 0, 1), (3, 1, 1), (3, 2, 1), (22, 3, 1)]) (by kernel_rfl) ht0
  obtain ⟨n0, rfl, wn0⟩ := leaf_int underI3 (show ∃ m y, DataW.trod enc Try.prog W 0 (fun _ => true) true m 3 [x0_0] = some y from q_ht0 (3, 0, 1) (by simp))
  obtain ⟨n1, rfl, wn1⟩ := leaf_int underI3 (show ∃ m y, DataW.trod enc Try.prog W 0 (fun _ => true) true m 3 [x0_1] = some y from q_ht0 (3, 1, 1) (by simp))
  obtain ⟨n2, rfl, wn2⟩ := leaf_int underI3 (show ∃ m y, DataW.trod enc Try.prog W 0 (fun _ => true) true m 3 [x0_2] = some y from q_ht0 (3, 2, 1) (by simp))
  have s3 := leaf_slice (k := .u8) underS22 underE5 cellsE5 (show ∃ m y, DataW.trod enc Try.prog W 0 (fun _ => true) true m 22 [x0_3] = some y from q_ht0 (22, 3, 1) (by simp))
  clear hA0 hval0
  have hcall : Calls Try.prog 3 #[.agg #[.int .i64 n0, .int .i64 n1, .int .i64 n2, x0_3]] W fun e w' => e = .returned (.bool true) ∧ Below W.heap.size W w' := by
    rcases s3 with rfl | ⟨a3, c3, rfl⟩ | ⟨_, _, _, _, _, s3⟩
    · exact c_emp_walk wn0 wn1 wn2 (fun _ => vr_emptyN) (globs0 _ W)
    · exact c_emp_walk wn0 wn1 wn2 (fun _ => vr_emptyH a3 c3) (globs0 _ W)
    · exact c_in_walk wn0 wn1 wn2 s3 (globs0 _ W)
  refine hcall.mono fun e W' ⟨he, hg⟩ => ?_
  subst he
  exact ⟨_, rfl, _, [], _, [], _, [], hW', trodAll_cons_mk (shut_bool Try.underlying4 _) trodAll_mk0, trodAll_stays laid hg _ _ _ _ hAll (fun x hx => hlt x (by simpa using hx)) (by kernel_rfl), rfl, hg.frame _, fun h => by cases h⟩

theorem over : Rows.windowNoneRow.holds Try.pinned (OpenSpec.ofChange Rows.windowNoneSpec) :=
  OpenClaim.holds_of_wide 3 Try.f3 rfl rfl rfl rfl rfl rfl rfl ⟨rfl, rfl, rfl, rfl, rfl⟩ rfl rfl rfl rfl rfl (by kernel_rfl) Try.func3 (by kernel_rfl)
    (of_decide_eq_true (by kernel_rfl)) (by unfold Func.isWrapper; first | (rw [if_pos (by decide +kernel)]; kernel_rfl) | (rw [if_neg (by decide +kernel)]; exact ⟨rfl, rfl⟩))
    (fun os started H enc _ => lifted os started H enc)

/-- The statement. -/
theorem proved : Rows.WindowNoneSaid :=
  over
#print axioms proved
end Go.Proofs.Ytdggadlobacalaa.windowNone
