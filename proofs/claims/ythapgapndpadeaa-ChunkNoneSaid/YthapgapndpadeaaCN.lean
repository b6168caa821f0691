/-
  The law ChunkNone of the layer chunk holds of the code: for all inputs the call returns true, and the arguments read as they did. No condition.
-/
import Derived.Test.YthapgapndpadeaaCo
import Derived.Test.YthapgapndpadeaaSycp
import Derived.Test.YthapgapndpadeaaCa
import Derived.WalkKit
import Derived.ProofKit
import Derived.OpenShut
set_option linter.unusedSimpArgs false
set_option linter.unusedVariables false
namespace Go.Proofs.Ythapgapndpadeaa.chunkNone
open Go.ChangeShapes Go.WideShapes Go.ChangeAt Go.RowKit Go.Ev Go.Proofs.Ythapgapndpadeaa.Co Go.Proofs.Ythapgapndpadeaa.Ca

def om (len0 cap0 : Nat) (zs0 : List Int) : Om := ⟨fun _ => .bool false, fun i => if i = 0 then .int len0 else if i = 1 then .int cap0 else if i = 2 then D.ofInts zs0 else .int 0, F⟩
theorem om_0 (len0 cap0 : Nat) (zs0 : List Int) : (om len0 cap0 zs0).d 0 = .int len0 := rfl
theorem om_1 (len0 cap0 : Nat) (zs0 : List Int) : (om len0 cap0 zs0).d 1 = .int cap0 := rfl
theorem om_2 (len0 cap0 : Nat) (zs0 : List Int) : (om len0 cap0 zs0).d 2 = D.ofInts zs0 := rfl
theorem om_f (len0 cap0 : Nat) (zs0 : List Int) : (om len0 cap0 zs0).f = F := rfl

def c_nil_t0 : List (Q × Bool) := []
set_option maxRecDepth 100000 in
theorem c_nil_y0 : yesOf Try.prog (knownV (tellA c_nil_t0) tab specs overs) 6000 60 5 [.nilslice] (globSt g0) = true := by kernel_rfl
set_option maxHeartbeats 6000000 in
theorem c_nil_walk {W : World}  (hG : GlobsR (om 0 0 []) W g0) : Calls Try.prog 5 #[.slice none 0 0] W fun e w' => e = .returned (.bool true) ∧ Below W.heap.size W w' := by
  have r0 := Rel.globs (om 0 0 []) W g0 hG
  have hargs : VRs (Env.none (om 0 0 [])) [.nilslice] [.slice none 0 0] := VRs_cons vr_nil (VRs_nil)
  refine calls_of_yesV sound tab_ok specs_ok overs_ok c_nil_y0 rfl (tellA_ok (allTold'_iff.1 ?_)) r0 hargs
  simp only [c_nil_t0, om_0, om_1, om_2, om_f, allTold', dutiesTold, factsA, factsP, factsR, AV.facts, RW.facts, inK, and_true, Q.holds', E.i, E.s, E.n, D.nat, E.den, BO.den, UO.den, TO.den, D.toInt_int, D.toList_list, D.ints_ofInts, i64min, i64max, u8min, u8max, u16min, u16max, u32min, u32max, u64min, u64max, i32min, i32max, Om.sub, selI, ints_app, ints_cut, ints_upd, ints_rep, ints_splice, ints_seg, len_ints]
  first | done | omega | trivial

def c_hol_t0 : List (Q × Bool) := []
set_option maxRecDepth 100000 in
theorem c_hol_y0 : yesOf Try.prog (knownV (tellA c_hol_t0) tab specs overs) 6000 60 5 [.hollow] (globSt g0) = true := by kernel_rfl
set_option maxHeartbeats 6000000 in
theorem c_hol_walk {W : World} (a0 : Addr) (c0 : Nat) (hG : GlobsR (om 0 0 []) W g0) : Calls Try.prog 5 #[.slice (some a0) 0 c0] W fun e w' => e = .returned (.bool true) ∧ Below W.heap.size W w' := by
  have r0 := Rel.globs (om 0 0 []) W g0 hG
  have hargs : VRs (Env.none (om 0 0 [])) [.hollow] [.slice (some a0) 0 c0] := VRs_cons (vr_hollow a0 c0) (VRs_nil)
  refine calls_of_yesV sound tab_ok specs_ok overs_ok c_hol_y0 rfl (tellA_ok (allTold'_iff.1 ?_)) r0 hargs
  simp only [c_hol_t0, om_0, om_1, om_2, om_f, allTold', dutiesTold, factsA, factsP, factsR, AV.facts, RW.facts, inK, and_true, Q.holds', E.i, E.s, E.n, D.nat, E.den, BO.den, UO.den, TO.den, D.toInt_int, D.toList_list, D.ints_ofInts, i64min, i64max, u8min, u8max, u16min, u16max, u32min, u32max, u64min, u64max, i32min, i32max, Om.sub, selI, ints_app, ints_cut, ints_upd, ints_rep, ints_splice, ints_seg, len_ints]
  first | done | omega | trivial

def c_in_t0 : List (Q × Bool) := [((.fit .i64 (.var 0)), true),
  ((.le (.var 0) (.int 3000)), false)]
set_option maxRecDepth 100000 in
theorem c_in_y0 : yesOf Try.prog (knownV (tellA c_in_t0) tab specs overs) 6000 60 5 [.sslice 1 (.int 0) (.var 0) (.var 1) false] ((globSt g0).newO (.eseq ⟨.u8, .var 0, .var 2⟩)) = true := by kernel_rfl
def c_in_t1 : List (Q × Bool) := [((.fit .i64 (.var 0)), true),
  ((.le (.var 0) (.int 3000)), true)]
set_option maxRecDepth 100000 in
theorem c_in_y1 : yesOf Try.prog (knownV (tellA c_in_t1) tab specs overs) 6000 60 5 [.sslice 1 (.int 0) (.var 0) (.var 1) false] ((globSt g0).newO (.eseq ⟨.u8, .var 0, .var 2⟩)) = true := by kernel_rfl
set_option maxHeartbeats 6000000 in
theorem c_in_walk {W : World} {v0 : Value} {b0 off0 len0 cap0 : Nat} {zs0 : List Int} (h0 : InSlice W .u8 v0 b0 off0 len0 cap0 zs0) (hG : GlobsR (om len0 cap0 zs0) W g0) : Calls Try.prog 5 #[v0] W fun e w' => e = .returned (.bool true) ∧ Below W.heap.size W w' := by
  have r0 := Rel.globs (om len0 cap0 zs0) W g0 hG
  obtain ⟨le0, r1, x0⟩ := h0.open r0 (l := 0) (c := 1) (x := 2) rfl rfl rfl
  have pos0 := h0.pos
  have lec0 := h0.le
  have max0 := h0.max
  have zl0 := h0.len
  have rng0 := h0.rng
  have hargs : VRs _ [.sslice 1 (.int 0) (.var 0) (.var 1) false] [v0] := VRs_cons x0 (VRs_nil)
  by_cases h : 3000 < len0
  · refine calls_of_yesV sound tab_ok specs_ok overs_ok c_in_y0 rfl (tellA_ok (allTold'_iff.1 ?_)) r1 hargs
    simp only [c_in_t0, om_0, om_1, om_2, om_f, allTold', dutiesTold, factsA, factsP, factsR, AV.facts, RW.facts, inK, and_true, Q.holds', E.i, E.s, E.n, D.nat, E.den, BO.den, UO.den, TO.den, D.toInt_int, D.toList_list, D.ints_ofInts, i64min, i64max, u8min, u8max, u16min, u16max, u32min, u32max, u64min, u64max, i32min, i32max, Om.sub, selI, ints_app, ints_cut, ints_upd, ints_rep, ints_splice, ints_seg, len_ints]
    omega
  · refine calls_of_yesV sound tab_ok specs_ok overs_ok c_in_y1 rfl (tellA_ok (allTold'_iff.1 ?_)) r1 hargs
    simp only [c_in_t1, om_0, om_1, om_2, om_f, allTold', dutiesTold, factsA, factsP, factsR, AV.facts, RW.facts, inK, and_true, Q.holds', E.i, E.s, E.n, D.nat, E.den, BO.den, UO.den, TO.den, D.toInt_int, D.toList_list, D.ints_ofInts, i64min, i64max, u8min, u8max, u16min, u16max, u32min, u32max, u64min, u64max, i32min, i32max, Om.sub, selI, ints_app, ints_cut, ints_upd, ints_rep, ints_splice, ints_seg, len_ints]
    first | omega | trivial | done

theorem underS22 : Try.prog.underlying 22 = some (.slice 5) := by kernel_rfl
theorem underE5 : Try.prog.underlying 5 = some (.int .u8) := by kernel_rfl
theorem cellsE5 : Try.prog.cellsOf 5 = 1 := by kernel_rfl

set_option maxRecDepth 100000 in
theorem lifted (os : Os) (started : os.Started) (H : Type) (enc : TypeId × Value → H) :
    ReturnsInHanded {} Try.checked os 5 .any (Rows.chunkNoneSpec.pre6 enc Try.prog Try.f5 Rows.chunkNoneRow.domain false) (Rows.chunkNoneSpec.post enc Try.prog Try.f5 false true false false) := by
  refine returnsInHanded_of_change (C := Try.checked) own started (by kernel_rfl) Try.func5
    (ChangeSpec.witness6 (enc := enc) (C := Try.checked) false ⟨#[], #[.slice none 0 0], []⟩ 8 (by kernel_rfl) (by kernel_rfl) (by kernel_rfl) (by kernel_rfl)) ?_
  intro W base args ds gs before hval0 hW hcnd _
  have hval : ∀ (j : Nat) t v, Try.f5.params[j]? = some t → args[j]? = some v → Value.okWide Try.prog W .any base t v := hval0
  have hW' := hW
  have hlt := hW.lt
  obtain ⟨p, q, hA0, hV, rfl, hfz, hnd⟩ := hW
  have hA : DataW.TrodAll enc Try.prog W 0 (fun _ => true) true Try.f5.params.toList args.toList ds p := hA0
  have hAll := hA
  rw [Try.params5] at hA hval hAll
  obtain ⟨rfl, rfl⟩ := trodVars_none hV
  obtain ⟨v0, d0, rfl, rfl, h0⟩ := trodAll_one hA
  have s0 := in_slice (k := .u8) underS22 underE5 cellsE5 (hval 0 22 _ rfl rfl) h0
  clear hA0 hval0
  have hcall : Calls Try.prog 5 #[v0] W fun e w' => e = .returned (.bool true) ∧ Below W.heap.size W w' := by
    rcases s0 with rfl | ⟨a0, c0, rfl⟩ | ⟨_, _, _, _, _, s0⟩
    · exact c_nil_walk  (globs0 _ W)
    · exact c_hol_walk a0 c0 (globs0 _ W)
    · exact c_in_walk s0 (globs0 _ W)
  refine hcall.mono fun e W' ⟨he, hg⟩ => ?_
  subst he
  exact ⟨_, rfl, _, [], _, [], _, [], hW', trodAll_cons_mk (shut_bool Try.underlying4 _) trodAll_mk0, trodAll_stays laid hg _ _ _ _ hAll (fun x hx => hlt x (by simpa using hx)) (by kernel_rfl), rfl, hg.frame _, fun h => by cases h⟩

theorem over : Rows.chunkNoneRow.holds Try.pinned (OpenSpec.ofChange Rows.chunkNoneSpec) :=
  OpenClaim.holds_of_wide 5 Try.f5 rfl rfl rfl rfl rfl rfl rfl ⟨rfl, rfl, rfl, rfl, rfl⟩ rfl rfl rfl rfl rfl (by kernel_rfl) Try.func5 (by kernel_rfl)
    (of_decide_eq_true (by kernel_rfl)) (by unfold Func.isWrapper; first | (rw [if_pos (by decide +kernel)]; kernel_rfl) | (rw [if_neg (by decide +kernel)]; exact ⟨rfl, rfl⟩))
    (fun os started H enc _ => lifted os started H enc)

/-- The statement. -/
theorem proved : Rows.ChunkNoneSaid :=
  over
#print axioms proved
end Go.Proofs.Ythapgapndpadeaa.chunkNone
