/-
 The law InboxNone of the layer inbox holds of the code: for all inputs the call returns true, and the arguments read as they did. No condition.
-/
import Derived.Test.YtehhckeklnhifaaCo
import Derived.Test.YtehhckeklnhifaaSycp
import Derived.Test.YtehhckeklnhifaaCa
import Derived.WalkKit
import Derived.ProofKit
import Derived.OpenShut
set_option linter.unusedSimpArgs false
set_option linter.unusedVariables false
namespace Go.Proofs.Ytehhckeklnhifaa.inboxNone
open Go.ChangeShapes Go.WideShapes Go.ChangeAt Go.RowKit Go.Ev Go.Proofs.Ytehhckeklnhifaa.Co Go.Proofs.Ytehhckeklnhifaa.Ca

def om (n0 : Int) : Om := ⟨fun _ => .bool false, fun i => if i = 0 then .int n0 else .int 0, F⟩
theorem om_0 (n0 : Int) : (om n0).d 0 = .int n0 := rfl
theorem om_f (n0 : Int) : (om n0).f = F := rfl

def c_t0 : List (Q × Bool) := []
set_option maxRecDepth 100000 in
theorem c_y0 : yesOf Try.prog (knownV (tellA c_t0) tab specs overs) 8000 80 4 [.sint .i64 (.var 0)] (globSt g0) = true := by kernel_rfl
set_option maxRecDepth 100000 in
set_option maxHeartbeats 6000000 in
theorem c_walk {W : World} {n0 : Int} (hn0 : inK .i64 n0) (hG : GlobsR (om n0) W g0) : Calls Try.prog 4 #[.int .i64 n0] W fun e w' => e = .returned (.bool true) ∧ Below W.heap.size W w' := by
 have r0 := Rel.globs (om n0) W g0 hG
 have hargs : VRs (Env.none (om n0) W) [.sint .i64 (.var 0)] [.int .i64 n0] := VRs_cons (vr_sint (i := 0) hn0 (by rw [r0.opq]; rfl)) (VRs_nil)
 simp only [inK, i64min, i64max, u8min, u8max, u32min, u32max, u64min, u64max] at hn0
 refine calls_of_yesV sound tab_ok specs_ok overs_ok c_y0 rfl (tellA_ok (allTold'_iff.1 ?_)) r0 hargs
 simp only [c_t0, om_0, om_f, allTold', dutiesTold, factsA, factsC, factsP, factsR, AV.facts, RW.facts, inK, and_true, Q.holds', E.i, E.s, E.n, D.nat, E.den, BO.den, UO.den, TO.den, D.toInt_int, D.toList_list, D.ints_ofInts, i64min, i64max, u8min, u8max, u16min, u16max, u32min, u32max, u64min, u64max, i32min, i32max, Om.sub, selI, ints_app, ints_cut, ints_upd, ints_rep, ints_splice, ints_seg, len_ints]
 first | omega | trivial | done

theorem underI3 : Try.prog.underlying 3 = some (.int .i64) := by kernel_rfl

set_option maxRecDepth 100000 in
theorem lifted (os : Os) (started : os.Started) (H : Type) (enc : TypeId × Value → H) :
  ReturnsInHanded {} Try.checked os 4 .any (Rows.inboxNoneSpec.pre6 enc Try.prog Try.f4 Rows.inboxNoneRow.domain false) (Rows.inboxNoneSpec.post enc Try.prog Try.f4 false true false false) := by
 refine returnsInHanded_of_change (C := Try.checked) own started (by kernel_rfl) Try.func4
  (ChangeSpec.witness6 (enc := enc) (C := Try.checked) false ⟨#[], #[.int .i64 0], []⟩ 8 (by kernel_rfl) (by kernel_rfl) (by kernel_rfl) (by kernel_rfl)) ?_
 intro W base args ds gs before hval0 hW hcnd _
 have hval : ∀ (j : Nat) t v, Try.f4.params[j]? = some t → args[j]? = some v → Value.okWide Try.prog W .any base t v := hval0
 have hW' := hW
 have hlt := hW.lt
 obtain ⟨p, q, hA0, hV, rfl, hfz, hnd⟩ := hW
 have hA : DataW.TrodAll enc Try.prog W 0 (fun _ => true) true Try.f4.params.toList args.toList ds p := hA0
 have hAll := hA
 rw [Try.params4] at hA hval hAll
 obtain ⟨rfl, rfl⟩ := trodVars_none hV
 obtain ⟨pv0, d0, rfl, rfl, h0⟩ := trodAll_one hA
 obtain ⟨n0, rfl, rfl, rfl, wn0⟩ := open_int underI3 (hval 0 3 _ rfl rfl) h0
 have wn0 := wf_inK wn0
 clear hA0 hval0
 have hcall : Calls Try.prog 4 #[.int .i64 n0] W fun e w' => e = .returned (.bool true) ∧ Below W.heap.size W w' := by
  exact c_walk wn0 (globs0 _ W)
 refine hcall.mono fun e W' ⟨he, hg⟩ => ?_
 subst he
 exact ⟨_, rfl, _, [], _, [], _, [], hW', trodAll_cons_mk (shut_bool Try.underlying4 _) trodAll_mk0, trodAll_stays laid hg _ _ _ _ hAll (fun x hx => hlt x (by simp at hx)) (by kernel_rfl), rfl, hg.frame _, fun h => by cases h⟩

theorem over : Rows.inboxNoneRow.holds Try.pinned (OpenSpec.ofChange Rows.inboxNoneSpec) :=
 OpenClaim.holds_of_wide 4 Try.f4 rfl rfl rfl rfl rfl rfl rfl ⟨rfl, rfl, rfl, rfl, rfl⟩ rfl rfl rfl rfl rfl (by kernel_rfl) Try.func4 (by kernel_rfl)
  (of_decide_eq_true (by kernel_rfl)) (by unfold Func.isWrapper; first | (rw [if_pos (by decide +kernel)]; kernel_rfl) | (rw [if_neg (by decide +kernel)]; exact ⟨rfl, rfl⟩))
  (fun os started H enc _ => lifted os started H enc)

/-- The statement. -/
theorem proved : Rows.InboxNoneSaid :=
 over
#print axioms proved
end Go.Proofs.Ytehhckeklnhifaa.inboxNone
