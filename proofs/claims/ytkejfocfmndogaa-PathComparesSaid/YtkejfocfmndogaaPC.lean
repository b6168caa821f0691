/-
 The law PathCompares of the layer path holds of the code: for all inputs the call returns true, and the arguments read as they did. No condition.
-/
import Derived.Test.YtkejfocfmndogaaCo
import Derived.Test.YtkejfocfmndogaaSycp
import Derived.Test.YtkejfocfmndogaaPw
import Derived.Test.YtkejfocfmndogaaPa
import Derived.Test.YtkejfocfmndogaaPb
import Derived.Test.YtkejfocfmndogaaPc
import Derived.Test.YtkejfocfmndogaaPd
import Derived.Test.YtkejfocfmndogaaPe
import Derived.Test.YtkejfocfmndogaaPf
import Derived.Test.YtkejfocfmndogaaPh
import Derived.Test.YtkejfocfmndogaaPr
import Derived.Test.YtkejfocfmndogaaPs
import Derived.Test.YtkejfocfmndogaaPt
import Derived.WalkKit
import Derived.ProofKit
import Derived.OpenShut
set_option linter.unusedSimpArgs false
set_option linter.unusedVariables false
namespace Go.Proofs.Ytkejfocfmndogaa.pathCompares
open Go.ChangeShapes Go.WideShapes Go.ChangeAt Go.RowKit Go.Ev Go.Proofs.Ytkejfocfmndogaa.Co Go.Proofs.Ytkejfocfmndogaa.Pw Go.Proofs.Ytkejfocfmndogaa.Pa Go.Proofs.Ytkejfocfmndogaa.Pb Go.Proofs.Ytkejfocfmndogaa.Pc Go.Proofs.Ytkejfocfmndogaa.Pd Go.Proofs.Ytkejfocfmndogaa.Pe Go.Proofs.Ytkejfocfmndogaa.Pf Go.Proofs.Ytkejfocfmndogaa.Ph Go.Proofs.Ytkejfocfmndogaa.Pr Go.Proofs.Ytkejfocfmndogaa.Ps Go.Proofs.Ytkejfocfmndogaa.Pt

def om (s0 : ByteArray) (s1 : ByteArray) : Om := ⟨fun _ => .bool false, fun i => if i = 0 then .int s0.size else if i = 2 then D.ofInts (strE s0) else if i = 10 then .int s1.size else if i = 12 then D.ofInts (strE s1) else .int 0, F⟩
theorem om_0 (s0 : ByteArray) (s1 : ByteArray) : (om s0 s1).d 0 = .int s0.size := rfl
theorem om_2 (s0 : ByteArray) (s1 : ByteArray) : (om s0 s1).d 2 = D.ofInts (strE s0) := rfl
theorem om_10 (s0 : ByteArray) (s1 : ByteArray) : (om s0 s1).d 10 = .int s1.size := rfl
theorem om_12 (s0 : ByteArray) (s1 : ByteArray) : (om s0 s1).d 12 = D.ofInts (strE s1) := rfl
theorem om_f (s0 : ByteArray) (s1 : ByteArray) : (om s0 s1).f = F := rfl
theorem one_not {b : Bool} : (if b = true then (1 : Int) else 0) ≠ 1 ↔ ¬ b = true := by cases b <;> simp

abbrev as0 : Q × Bool := ((.fit .i64 (.var 0)), true)
abbrev as1 : Q × Bool := ((.le (.var 0) (.int 400)), false)
def c_t0 : List (Q × Bool) := [as0, as1]
set_option maxRecDepth 100000 in
theorem c_y0 : yesOf Try.prog (knownV (tellA c_t0) tabC specsC oversC) 8000 80 4 [.sstr (.var 0) (.var 2), .sstr (.var 10) (.var 12)] (globSt g0) = true := by kernel_rfl
abbrev as2 : Q × Bool := ((.le (.var 0) (.int 400)), true)
abbrev as3 : Q × Bool := ((.fit .i64 (.var 10)), true)
abbrev as4 : Q × Bool := ((.le (.var 10) (.int 400)), false)
def c_t1 : List (Q × Bool) := [as0, as2, as3, as4]
set_option maxRecDepth 100000 in
theorem c_y1 : yesOf Try.prog (knownV (tellA c_t1) tabC specsC oversC) 8000 80 4 [.sstr (.var 0) (.var 2), .sstr (.var 10) (.var 12)] (globSt g0) = true := by kernel_rfl
abbrev as5 : Q × Bool := ((.le (.var 10) (.int 400)), true)
abbrev as6 : Q × Bool := ((.le (.var 0) (.int 100000000000000)), true)
abbrev as7 : Q × Bool := ((.le (.var 10) (.int 100000000000000)), true)
abbrev as8 : Q × Bool := ((.eq (.fn 53 (.bi .pair (.var 2) (.bi .pair (.var 12) (.int 0)))) (.int 1)), true)
def c_t2 : List (Q × Bool) := [as0, as2, as3, as5, as6, as7, as8]
set_option maxRecDepth 100000 in
theorem c_y2 : yesOf Try.prog (knownV (tellA c_t2) tabC specsC oversC) 8000 80 4 [.sstr (.var 0) (.var 2), .sstr (.var 10) (.var 12)] (globSt g0) = true := by kernel_rfl
abbrev as9 : Q × Bool := ((.eq (.fn 53 (.bi .pair (.var 2) (.bi .pair (.var 12) (.int 0)))) (.int 1)), false)
def c_t3 : List (Q × Bool) := [as0, as2, as3, as5, as6, as7, as9]
set_option maxRecDepth 100000 in
theorem c_y3 : yesOf Try.prog (knownV (tellA c_t3) tabC specsC oversC) 8000 80 4 [.sstr (.var 0) (.var 2), .sstr (.var 10) (.var 12)] (globSt g0) = true := by kernel_rfl
set_option maxRecDepth 100000 in
set_option maxHeartbeats 6000000 in
theorem c_walk {W : World} {s0 : ByteArray} (max0 : s0.size ≤ 9223372036854775807) {s1 : ByteArray} (max1 : s1.size ≤ 9223372036854775807) (hG : GlobsR (om s0 s1) W g0) : Calls Try.prog 4 #[.string s0, .string s1] W fun e w' => e = .returned (.bool true) ∧ Below W.heap.size W w' := by
 have r0 := Rel.globs (om s0 s1) W g0 hG
 have hargs : VRs (Env.none (om s0 s1) W) [.sstr (.var 0) (.var 2), .sstr (.var 10) (.var 12)] [.string s0, .string s1] := VRs_cons (vr_str (l := 0) (x := 2) (by rw [r0.opq]; rfl) (by rw [r0.opq]; rfl)) (VRs_cons (vr_str (l := 10) (x := 12) (by rw [r0.opq]; rfl) (by rw [r0.opq]; rfl)) (VRs_nil))
 have zl0 := strE_length s0
 have rng0 := strE_in s0
 have zl1 := strE_length s1
 have rng1 := strE_in s1
 by_cases n0 : 400 < s0.size
 ·refine calls_of_yesV sound tabC_ok specsC_ok oversC_ok c_y0 rfl (tellA_ok (allTold'_iff.1 ?_)) r0 hargs
  simp only [c_t0, om_0, om_2, om_10, om_12, om_f, F40, F45, F52, F53, one_iff, one_not, show Int.toNat 0 = 0 from rfl, List.drop_zero, ints_take, tl]
  and_intros <;> first | assumption | omega
 by_cases n1 : 400 < s1.size
 ·refine calls_of_yesV sound tabC_ok specsC_ok oversC_ok c_y1 rfl (tellA_ok (allTold'_iff.1 ?_)) r0 hargs
  simp only [c_t1, om_0, om_2, om_10, om_12, om_f, F40, F45, F52, F53, one_iff, one_not, show Int.toNat 0 = 0 from rfl, List.drop_zero, ints_take, tl]
  and_intros <;> first | assumption | omega
 by_cases u : undF (strE s0) (strE s1) = true
 ·refine calls_of_yesV sound tabC_ok specsC_ok oversC_ok c_y2 rfl (tellA_ok (allTold'_iff.1 ?_)) r0 hargs
  simp only [c_t2, om_0, om_2, om_10, om_12, om_f, F40, F45, F52, F53, one_iff, one_not, show Int.toNat 0 = 0 from rfl, List.drop_zero, ints_take, tl]
  and_intros <;> first | assumption | omega
 refine calls_of_yesV sound tabC_ok specsC_ok oversC_ok c_y3 rfl (tellA_ok (allTold'_iff.1 ?_)) r0 hargs
 simp only [c_t3, om_0, om_2, om_10, om_12, om_f, F40, F45, F52, F53, one_iff, one_not, show Int.toNat 0 = 0 from rfl, List.drop_zero, ints_take, tl]
 and_intros <;> first | assumption | omega

theorem underStr9 : Try.prog.underlying 9 = some .string := by kernel_rfl

set_option maxRecDepth 100000 in
theorem lifted (os : Os) (started : os.Started) (H : Type) (enc : TypeId × Value → H) :
  ReturnsInHanded {} Try.checked os 4 .any (Rows.pathComparesSpec.pre6 enc Try.prog Try.f4 Rows.pathComparesRow.domain false) (Rows.pathComparesSpec.post enc Try.prog Try.f4 false true false false) := by
 refine returnsInHanded_of_change (C := Try.checked) own started (by kernel_rfl) Try.func4
  (ChangeSpec.witness6 (enc := enc) (C := Try.checked) false ⟨#[], #[.string ByteArray.empty, .string ByteArray.empty], []⟩ 8 (by kernel_rfl) (by kernel_rfl) (by kernel_rfl) (by kernel_rfl)) ?_
 intro W base args ds gs before hval0 hW hcnd _
 have hval : ∀ (j : Nat) t v, Try.f4.params[j]? = some t → args[j]? = some v → Value.okWide Try.prog W .any base t v := hval0
 have hW' := hW
 have hlt := hW.lt
 obtain ⟨p, q, hA0, hV, rfl, hfz, hnd⟩ := hW
 have hA : DataW.TrodAll enc Try.prog W 0 (fun _ => true) true Try.f4.params.toList args.toList ds p := hA0
 have hAll := hA
 rw [Try.params4] at hA hval hAll
 obtain ⟨rfl, rfl⟩ := trodVars_none hV
 obtain ⟨pv0, pv1, d0, d1, p0, p1, rfl, rfl, rfl, h0, h1⟩ := trodAll_two hA
 obtain ⟨s0, rfl, rfl, max0⟩ := in_str underStr9 (hval 0 9 _ rfl rfl) h0
 obtain ⟨s1, rfl, rfl, max1⟩ := in_str underStr9 (hval 1 9 _ rfl rfl) h1
 clear hA0 hval0
 have hcall : Calls Try.prog 4 #[.string s0, .string s1] W fun e w' => e = .returned (.bool true) ∧ Below W.heap.size W w' := by
  exact c_walk max0 max1 (globs0 _ W)
 refine hcall.mono fun e W' ⟨he, hg⟩ => ?_
 subst he
 exact ⟨_, rfl, _, [], _, [], _, [], hW', trodAll_cons_mk (shut_bool Try.underlying4 _) trodAll_mk0, trodAll_stays laid hg _ _ _ _ hAll (fun x hx => hlt x (by simp at hx)) (by kernel_rfl), rfl, hg.frame _, fun h => by cases h⟩

theorem over : Rows.pathComparesRow.holds Try.pinned (OpenSpec.ofChange Rows.pathComparesSpec) :=
 OpenClaim.holds_of_wide 4 Try.f4 rfl rfl rfl rfl rfl rfl rfl ⟨rfl, rfl, rfl, rfl, rfl⟩ rfl rfl rfl rfl rfl (by kernel_rfl) Try.func4 (by kernel_rfl)
  (of_decide_eq_true (by kernel_rfl)) (by unfold Func.isWrapper; first | (rw [if_pos (by decide +kernel)]; kernel_rfl) | (rw [if_neg (by decide +kernel)]; exact ⟨rfl, rfl⟩))
  (fun os started H enc _ => lifted os started H enc)

theorem proved : Rows.PathComparesSaid :=
 over
#print axioms proved
end Go.Proofs.Ytkejfocfmndogaa.pathCompares
