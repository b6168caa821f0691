/-
 The law ChunkWhole of the layer chunk holds of the code: for all inputs the call returns true, and the arguments read as they did. No condition.
-/
import Derived.Test.YtnejoiklnkaanaaCo
import Derived.Test.YtnejoiklnkaanaaSycp
import Derived.Test.YtnejoiklnkaanaaGc
import Derived.Test.YtnejoiklnkaanaaGa
import Derived.Test.YtnejoiklnkaanaaGb
import Derived.WalkKit
import Derived.ProofKit
import Derived.OpenShut
set_option linter.unusedSimpArgs false
set_option linter.unusedVariables false
namespace Go.Proofs.Ytnejoiklnkaanaa.chunkWhole
open Go.ChangeShapes Go.WideShapes Go.ChangeAt Go.RowKit Go.Ev Go.Proofs.Ytnejoiklnkaanaa.Co Go.Proofs.Ytnejoiklnkaanaa.Gc Go.Proofs.Ytnejoiklnkaanaa.Ga Go.Proofs.Ytnejoiklnkaanaa.Gb

def om (len0 cap0 : Nat) (zs0 : List Int) : Om := ⟨fun _ => .bool false, fun i => if i = 0 then .int len0 else if i = 1 then .int cap0 else if i = 2 then D.ofInts zs0 else .int 0, F⟩
theorem om_0 (len0 cap0 : Nat) (zs0 : List Int) : (om len0 cap0 zs0).d 0 = .int len0 := rfl
theorem om_1 (len0 cap0 : Nat) (zs0 : List Int) : (om len0 cap0 zs0).d 1 = .int cap0 := rfl
theorem om_2 (len0 cap0 : Nat) (zs0 : List Int) : (om len0 cap0 zs0).d 2 = D.ofInts zs0 := rfl
theorem om_f (len0 cap0 : Nat) (zs0 : List Int) : (om len0 cap0 zs0).f = F := rfl

def c_emp_t0 : List (Q × Bool) := []
set_option maxRecDepth 100000 in
theorem c_emp_y0 : yesOf Try.prog (knownV (tellA c_emp_t0) tabW specsW oversW) 8000 80 3 [.empty] (globSt g0) = true := by kernel_rfl
set_option maxRecDepth 100000 in
set_option maxHeartbeats 6000000 in
theorem c_emp_walk {W : World} {v0 : Value} (hv0 : ∀ e : Env, VR e .empty v0) (hG : GlobsR (om 0 0 []) W g0) : Calls Try.prog 3 #[v0] W fun e w' => e = .returned (.bool true) ∧ Below W.heap.size W w' := by
 have r0 := Rel.globs (om 0 0 []) W g0 hG
 have hargs : VRs (Env.none (om 0 0 []) W) [.empty] [v0] := VRs_cons (hv0 _) (VRs_nil)
 refine calls_of_yesV sound tabW_ok specsW_ok oversW_ok c_emp_y0 rfl (tellA_ok (allTold'_iff.1 ?_)) r0 hargs
 simp only [c_emp_t0, om_0, om_1, om_2, om_f, tl]
 first | omega | trivial | done

abbrev as0 : Q × Bool := ((.fit .i64 (.var 0)), true)
abbrev as1 : Q × Bool := ((.le (.var 0) (.int 10000)), false)
def c_in_t0 : List (Q × Bool) := [as0, as1]
set_option maxRecDepth 100000 in
theorem c_in_y0 : yesOf Try.prog (knownV (tellA c_in_t0) tabW specsW oversW) 8000 80 3 [.sslice 1 (.int 0) (.var 0) (.var 1) false] ((globSt g0).newO (.eseq ⟨.u8, .var 0, .var 2⟩)) = true := by kernel_rfl
abbrev as2 : Q × Bool := ((.le (.var 0) (.int 10000)), true)
abbrev as3 : Q × Bool := ((.le (.bi .add (.int 0) (.var 0)) (.var 0)), true)
abbrev as4 : Q × Bool := ((.le (.var 0) (.int 20000)), true)
abbrev as5 : Q × Bool := ((.le (.int 1) (.var 0)), true)
abbrev as6 : Q × Bool := ((.le (.int 0) (.un .len (.fn 33 (.bi .pair (.var 2) (.bi .pair (.int 0) (.bi .pair (.var 0) (.int 0))))))), true)
abbrev as7 : Q × Bool := ((.le (.un .len (.fn 33 (.bi .pair (.var 2) (.bi .pair (.int 0) (.bi .pair (.var 0) (.int 0)))))) (.int 20001)), true)
abbrev as8 : Q × Bool := ((.eq (.fn 35 (.bi .pair (.fn 33 (.bi .pair (.var 2) (.bi .pair (.int 0) (.bi .pair (.var 0) (.int 0))))) (.bi .pair (.int 0) (.int 0)))) (.int 1)), true)
abbrev as9 : Q × Bool := ((.le (.un .len (.fn 34 (.bi .pair (.fn 33 (.bi .pair (.var 2) (.bi .pair (.int 0) (.bi .pair (.var 0) (.int 0))))) (.bi .pair (.un .len (.fn 33 (.bi .pair (.var 2) (.bi .pair (.int 0) (.bi .pair (.var 0) (.int 0)))))) (.int 0))))) (.int 20000)), true)
abbrev as10 : Q × Bool := ((.le (.int 1) (.un .len (.fn 33 (.bi .pair (.var 2) (.bi .pair (.int 0) (.bi .pair (.var 0) (.int 0))))))), true)
abbrev as11 : Q × Bool := ((.same (.fn 34 (.bi .pair (.fn 33 (.bi .pair (.var 2) (.bi .pair (.int 0) (.bi .pair (.var 0) (.int 0))))) (.bi .pair (.un .len (.fn 33 (.bi .pair (.var 2) (.bi .pair (.int 0) (.bi .pair (.var 0) (.int 0)))))) (.int 0)))) (.var 2)), true)
def c_in_t1 : List (Q × Bool) := [as0, as2, as3, as4, as5, as6, as7, as8, as9, as10, as11]
set_option maxRecDepth 100000 in
theorem c_in_y1 : yesOf Try.prog (knownV (tellA c_in_t1) tabW specsW oversW) 8000 80 3 [.sslice 1 (.int 0) (.var 0) (.var 1) false] ((globSt g0).newO (.eseq ⟨.u8, .var 0, .var 2⟩)) = true := by kernel_rfl
set_option maxRecDepth 100000 in
set_option maxHeartbeats 6000000 in
theorem c_in_walk {W : World} {v0 : Value} {b0 off0 len0 cap0 : Nat} {zs0 : List Int} (h0 : InSlice W .u8 v0 b0 off0 len0 cap0 zs0) (hG : GlobsR (om len0 cap0 zs0) W g0) : Calls Try.prog 3 #[v0] W fun e w' => e = .returned (.bool true) ∧ Below W.heap.size W w' := by
 have r0 := Rel.globs (om len0 cap0 zs0) W g0 hG
 obtain ⟨le0, r1, x0⟩ := h0.open r0 (l := 0) (c := 1) (x := 2) rfl rfl rfl
 have pos0 := h0.pos
 have lec0 := h0.le
 have max0 := h0.max
 have zl0 := h0.len
 have rng0 := h0.rng
 have hargs : VRs _ [.sslice 1 (.int 0) (.var 0) (.var 1) false] [v0] := VRs_cons (x0) (VRs_nil)
 by_cases h : 10000 < len0
 ·refine calls_of_yesV sound tabW_ok specsW_ok oversW_ok c_in_y0 rfl (tellA_ok (allTold'_iff.1 ?_)) r1 hargs
  simp only [c_in_t0, om_0, om_1, om_2, om_f, tl]
  omega
 ·have hz := h0.len
  have hp := h0.pos
  have e2 : (D.ofInts zs0).ints = zs0 := D.ints_ofInts zs0
  obtain ⟨a1, a2, a3⟩ := all_fit (D.ofInts zs0) (o := 0) (t := len0) (by omega) (by omega) (by rw [e2]; omega)
  rw [e2, Int.zero_add, prt_all (by omega)] at a1
  have ha : 0 < (allC (D.ofInts zs0) 0 len0).length := by
   rcases Nat.eq_zero_or_pos (allC (D.ofInts zs0) 0 len0).length with g | g
   ·rw [List.eq_nil_of_length_eq_zero g] at a1
    have := congrArg List.length a1
    simp only [catL, List.flatMap_nil, List.length_nil] at this
    omega
   ·exact g
  have at1 : (allC (D.ofInts zs0) 0 len0).take ((allC (D.ofInts zs0) 0 len0).length : Int).toNat = allC (D.ofInts zs0) 0 len0 := List.take_of_length_le (by omega)
  have ad : (allC (D.ofInts zs0) 0 len0).drop (Int.toNat 0) = allC (D.ofInts zs0) 0 len0 := rfl
  have al := congrArg List.length a1
  refine calls_of_yesV sound tabW_ok specsW_ok oversW_ok c_in_y1 rfl (tellA_ok (allTold'_iff.1 ?_)) r1 hargs
  simp only [c_in_t1, om_0, om_1, om_2, om_f, F33, F34, F35, at1, ad, a1, tl]
  and_intros <;> first | omega | exact one_to a2

theorem underS22 : Try.prog.underlying 22 = some (.slice 5) := by kernel_rfl
theorem underE5 : Try.prog.underlying 5 = some (.int .u8) := by kernel_rfl
theorem cellsE5 : Try.prog.cellsOf 5 = 1 := by kernel_rfl

set_option maxRecDepth 100000 in
theorem lifted (os : Os) (started : os.Started) (H : Type) (enc : TypeId × Value → H) :
  ReturnsInHanded {} Try.checked os 3 .any (Rows.chunkWholeSpec.pre6 enc Try.prog Try.f3 Rows.chunkWholeRow.domain false) (Rows.chunkWholeSpec.post enc Try.prog Try.f3 false true false false) := by
 refine returnsInHanded_of_change (C := Try.checked) own started (by kernel_rfl) Try.func3
  (ChangeSpec.witness6 (enc := enc) (C := Try.checked) false ⟨#[], #[.slice none 0 0], []⟩ 8 (by kernel_rfl) (by kernel_rfl) (by kernel_rfl) (by kernel_rfl)) ?_
 intro W base args ds gs before hval0 hW hcnd _
 have hval : ∀ (j : Nat) t v, Try.f3.params[j]? = some t → args[j]? = some v → Value.okWide Try.prog W .any base t v := hval0
 have hW' := hW
 have hlt := hW.lt
 obtain ⟨p, q, hA0, hV, rfl, hfz, hnd⟩ := hW
 have hA : DataW.TrodAll enc Try.prog W 0 (fun _ => true) true Try.f3.params.toList args.toList ds p := hA0
 have hAll := hA
 rw [Try.params3] at hA hval hAll
 obtain ⟨rfl, rfl⟩ := trodVars_none hV
 obtain ⟨pv0, d0, rfl, rfl, h0⟩ := trodAll_one hA
 have s0 := in_slice (k := .u8) underS22 underE5 cellsE5 (hval 0 22 _ rfl rfl) h0
 clear hA0 hval0
 have hcall : Calls Try.prog 3 #[pv0] W fun e w' => e = .returned (.bool true) ∧ Below W.heap.size W w' := by
  rcases s0 with rfl | ⟨a0, c0, rfl⟩ | ⟨_, _, _, _, _, s0⟩
  ·exact c_emp_walk (fun _ => vr_emptyN) (globs0 _ W)
  ·exact c_emp_walk (fun _ => vr_emptyH a0 c0) (globs0 _ W)
  ·exact c_in_walk s0 (globs0 _ W)
 refine hcall.mono fun e W' ⟨he, hg⟩ => ?_
 subst he
 exact ⟨_, rfl, _, [], _, [], _, [], hW', trodAll_cons_mk (shut_bool Try.underlying4 _) trodAll_mk0, trodAll_stays laid hg _ _ _ _ hAll (fun x hx => hlt x (by simpa using hx)) (by kernel_rfl), rfl, hg.frame _, fun h => by cases h⟩

theorem over : Rows.chunkWholeRow.holds Try.pinned (OpenSpec.ofChange Rows.chunkWholeSpec) :=
 OpenClaim.holds_of_wide 3 Try.f3 rfl rfl rfl rfl rfl rfl rfl ⟨rfl, rfl, rfl, rfl, rfl⟩ rfl rfl rfl rfl rfl (by kernel_rfl) Try.func3 (by kernel_rfl)
  (of_decide_eq_true (by kernel_rfl)) (by unfold Func.isWrapper; first | (rw [if_pos (by decide +kernel)]; kernel_rfl) | (rw [if_neg (by decide +kernel)]; exact ⟨rfl, rfl⟩))
  (fun os started H enc _ => lifted os started H enc)

theorem proved : Rows.ChunkWholeSaid :=
 over
#print axioms proved
end Go.Proofs.Ytnejoiklnkaanaa.chunkWhole
