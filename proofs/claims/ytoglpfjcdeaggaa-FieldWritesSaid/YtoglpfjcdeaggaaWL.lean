/-
  The law FieldWrites of the layer field holds of the code: for all inputs the call returns true, and the arguments read as they did. No condition.
-/
import Derived.Test.YtoglpfjcdeaggaaCo
import Derived.Test.YtoglpfjcdeaggaaSycp
import Derived.Test.YtoglpfjcdeaggaaSyvp
import Derived.Test.YtoglpfjcdeaggaaWb
import Derived.Test.YtoglpfjcdeaggaaWa
import Derived.WalkKit
import Derived.ProofKit
import Derived.OpenShut
set_option linter.unusedSimpArgs false
set_option linter.unusedVariables false
namespace Go.Proofs.Ytoglpfjcdeaggaa.fieldWrites
open Go.ChangeShapes Go.WideShapes Go.ChangeAt Go.RowKit Go.Ev Go.Proofs.Ytoglpfjcdeaggaa.Co Go.Proofs.Ytoglpfjcdeaggaa.Wb Go.Proofs.Ytoglpfjcdeaggaa.Wa

def om (dv0 : D) : Om := ⟨fun _ => .bool false, fun i => if i = 0 then dv0 else .int 0, F⟩
theorem om_0 (dv0 : D) : (om dv0).d 0 = dv0 := rfl
theorem om_f (dv0 : D) : (om dv0).f = F := rfl
theorem lens_le : ∀ {l : List D} {B : Nat}, (∀ x ∈ l, (x.toList[3]?.getD (D.int 0)).toList.length ≤ B) → lensI l ≤ (l.length : Int) * (B : Int)
  | [], B, h => by simp [lensI]
  | x :: l, B, h => by
    have h1 := h x (by simp)
    have h2 := lens_le (l := l) (B := B) (fun y hy => h y (by simp [hy]))
    simp only [lensI, List.length_cons]
    rw [show ((l.length + 1 : Nat) : Int) * (B : Int) = (l.length : Int) * B + B by rw [Int.natCast_add, Int.add_mul]; simp]
    omega
theorem lens_act {B : Nat} {a b c s t : Sh} {x : D} (h : (Sh.agg [a, b, c, .sl s, t]).lens B x) : (x.toList[3]?.getD (D.int 0)).toList.length ≤ B := by
  simp only [Sh.lens] at h
  match x.toList, h with
  | [], _ => exact Nat.zero_le _
  | [_], _ => exact Nat.zero_le _
  | [_, _], _ => exact Nat.zero_le _
  | [_, _, _], _ => exact Nat.zero_le _
  | _ :: _ :: _ :: y :: _, h =>
    simp only [Sh.lenses, Sh.lens] at h
    exact h.2.2.2.1.1
theorem lens_max {a b c s t : Sh} {d : D} (h : (Sh.sl (Sh.agg [a, b, c, .sl s, t])).lens 140737488351232 d) : lensI ((d.toList.take 41).drop 0) ≤ 41 * 140737488351232 := by
  rw [Sh.lens] at h
  have := lens_le (l := (d.toList.take 41).drop 0) (B := 140737488351232) (fun x hx => lens_act (h.2 x (List.mem_of_mem_take (List.mem_of_mem_drop hx))))
  have hl : ((d.toList.take 41).drop 0).length ≤ 41 := by simp; omega
  omega
theorem lens_top {s : Sh} {d : D} (h : (Sh.sl s).lens 140737488351232 d) : d.toList.length ≤ 140737488351232 := by
  rw [Sh.lens] at h
  exact h.1

abbrev as0 : Q × Bool := ((.le (.int 0) (.fn 30 (.bi .pair (.var 0) (.bi .pair (.int 0) (.int 0))))), true)
abbrev as1 : Q × Bool := ((.le (.bi .add (.int 0) (.fn 30 (.bi .pair (.var 0) (.bi .pair (.int 0) (.int 0))))) (.int 4611686018427387904)), true)
abbrev as2 : Q × Bool := ((.le (.un .len (.var 0)) (.int 9223372036854775807)), true)
abbrev as3 : Q × Bool := ((.fit .i64 (.un .len (.var 0))), true)
abbrev as4 : Q × Bool := ((.le (.un .len (.var 0)) (.int 40)), false)
def c_t0 : List (Q × Bool) := [as0, as1, as2, as3, as4]
set_option maxRecDepth 100000 in
theorem c_y0 : yesOf Try.prog (knownV (tellA c_t0) tab specs overs) 8000 80 3 [.pv (.agg [.int .i64, .int .i64, .int .i64, .sl (.int .u8), .agg [.int .u8, .int .u8, .int .u8, .int .u8, .int .u8, .int .u8, .int .u8, .int .u8, .int .u8, .int .u8, .int .u8, .int .u8, .int .u8, .int .u8, .int .u8, .int .u8]]) (.var 0)] (globSt g0) = true := by kernel_rfl
abbrev as5 : Q × Bool := ((.le (.un .len (.var 0)) (.int 40)), true)
abbrev as6 : Q × Bool := ((.le (.bi .add (.int 0) (.fn 30 (.bi .pair (.var 0) (.bi .pair (.int 0) (.int 0))))) (.int 3000)), false)
def c_t1 : List (Q × Bool) := [as0, as1, as2, as3, as5, as6]
set_option maxRecDepth 100000 in
theorem c_y1 : yesOf Try.prog (knownV (tellA c_t1) tab specs overs) 8000 80 3 [.pv (.agg [.int .i64, .int .i64, .int .i64, .sl (.int .u8), .agg [.int .u8, .int .u8, .int .u8, .int .u8, .int .u8, .int .u8, .int .u8, .int .u8, .int .u8, .int .u8, .int .u8, .int .u8, .int .u8, .int .u8, .int .u8, .int .u8]]) (.var 0)] (globSt g0) = true := by kernel_rfl
abbrev as7 : Q × Bool := ((.le (.bi .add (.int 0) (.fn 30 (.bi .pair (.var 0) (.bi .pair (.int 0) (.int 0))))) (.int 3000)), true)
abbrev as8 : Q × Bool := ((.le (.int 0) (.un .len (.var 0))), true)
abbrev as9 : Q × Bool := ((.le (.bi .add (.int 0) (.fn 30 (.bi .pair (.var 0) (.bi .pair (.int 0) (.int 0))))) (.bi .add (.int 3000) (.bi .mul (.int 21) (.int 0)))), true)
def c_t2 : List (Q × Bool) := [as0, as1, as2, as3, as5, as7, as8, as9]
set_option maxRecDepth 100000 in
theorem c_y2 : yesOf Try.prog (knownV (tellA c_t2) tab specs overs) 8000 80 3 [.pv (.agg [.int .i64, .int .i64, .int .i64, .sl (.int .u8), .agg [.int .u8, .int .u8, .int .u8, .int .u8, .int .u8, .int .u8, .int .u8, .int .u8, .int .u8, .int .u8, .int .u8, .int .u8, .int .u8, .int .u8, .int .u8, .int .u8]]) (.var 0)] (globSt g0) = true := by kernel_rfl
set_option maxRecDepth 100000 in
set_option maxHeartbeats 6000000 in
theorem c_walk {W : World} {v0 : Value} {dv0 : D} (hv0 : PC (poolW W) (.sl (.agg [.int .i64, .int .i64, .int .i64, .sl (.int .u8), .agg [.int .u8, .int .u8, .int .u8, .int .u8, .int .u8, .int .u8, .int .u8, .int .u8, .int .u8, .int .u8, .int .u8, .int .u8, .int .u8, .int .u8, .int .u8, .int .u8]])) dv0 [v0]) (hl0 : (Sh.sl (.agg [.int .i64, .int .i64, .int .i64, .sl (.int .u8), .agg [.int .u8, .int .u8, .int .u8, .int .u8, .int .u8, .int .u8, .int .u8, .int .u8, .int .u8, .int .u8, .int .u8, .int .u8, .int .u8, .int .u8, .int .u8, .int .u8]])).lens 140737488351232 dv0) (hG : GlobsR (om dv0) W g0) : Calls Try.prog 3 #[v0] W fun e w' => e = .returned (.bool true) ∧ Below W.heap.size W w' := by
  have r0 := Rel.globs (om dv0) W g0 hG
  have x0 : VR (Env.none (om dv0) W) (.pv (.agg [.int .i64, .int .i64, .int .i64, .sl (.int .u8), .agg [.int .u8, .int .u8, .int .u8, .int .u8, .int .u8, .int .u8, .int .u8, .int .u8, .int .u8, .int .u8, .int .u8, .int .u8, .int .u8, .int .u8, .int .u8, .int .u8]]) (.var 0)) v0 := vr_val hv0 rfl
  have ok0 := PC.ok _ _ _ hv0
  have hargs : VRs (Env.none (om dv0) W) [.pv (.agg [.int .i64, .int .i64, .int .i64, .sl (.int .u8), .agg [.int .u8, .int .u8, .int .u8, .int .u8, .int .u8, .int .u8, .int .u8, .int .u8, .int .u8, .int .u8, .int .u8, .int .u8, .int .u8, .int .u8, .int .u8, .int .u8]]) (.var 0)] [v0] := VRs_cons (x0) (VRs_nil)
  have g0 : dv0.ints.length = dv0.toList.length := (len_ints _).symm
  have h1 := lens_top hl0
  have h2 := lens_max hl0
  have h3 := lens_nn ((dv0.toList.take 41).drop 0)
  by_cases h : 40 < dv0.toList.length
  · refine calls_of_yesV sound tab_ok specs_ok overs_ok c_y0 rfl (tellA_ok (allTold'_iff.1 ?_)) r0 hargs
    simp only [c_t0, om_0, om_f, F30, Int.toNat_zero, allTold', dutiesTold, factsA, factsC, factsP, factsR, AV.facts, RW.facts, inK, and_true, Q.holds', E.i, E.s, E.n, D.nat, E.den, BO.den, UO.den, TO.den, D.toInt_int, D.toList_list, D.ints_ofInts, i64min, i64max, u8min, u8max, u16min, u16max, u32min, u32max, u64min, u64max, i32min, i32max, Om.sub, selI, ints_app, ints_cut, ints_upd, ints_rep, ints_splice, ints_seg, len_ints]
    omega
  · by_cases h4 : 3000 < lensI ((dv0.toList.take 41).drop 0)
    · refine calls_of_yesV sound tab_ok specs_ok overs_ok c_y1 rfl (tellA_ok (allTold'_iff.1 ?_)) r0 hargs
      simp only [c_t1, om_0, om_f, F30, Int.toNat_zero, allTold', dutiesTold, factsA, factsC, factsP, factsR, AV.facts, RW.facts, inK, and_true, Q.holds', E.i, E.s, E.n, D.nat, E.den, BO.den, UO.den, TO.den, D.toInt_int, D.toList_list, D.ints_ofInts, i64min, i64max, u8min, u8max, u16min, u16max, u32min, u32max, u64min, u64max, i32min, i32max, Om.sub, selI, ints_app, ints_cut, ints_upd, ints_rep, ints_splice, ints_seg, len_ints]
      omega
    · refine calls_of_yesV sound tab_ok specs_ok overs_ok c_y2 rfl (tellA_ok (allTold'_iff.1 ?_)) r0 hargs
      simp only [c_t2, om_0, om_f, F30, Int.toNat_zero, allTold', dutiesTold, factsA, factsC, factsP, factsR, AV.facts, RW.facts, inK, and_true, Q.holds', E.i, E.s, E.n, D.nat, E.den, BO.den, UO.den, TO.den, D.toInt_int, D.toList_list, D.ints_ofInts, i64min, i64max, u8min, u8max, u16min, u16max, u32min, u32max, u64min, u64max, i32min, i32max, Om.sub, selI, ints_app, ints_cut, ints_upd, ints_rep, ints_splice, ints_seg, len_ints]
      and_intros <;> first | omega | (rfl; done)

theorem shape22 : (Sh.sl (.agg [.int .i64, .int .i64, .int .i64, .sl (.int .u8), .agg [.int .u8, .int .u8, .int .u8, .int .u8, .int .u8, .int .u8, .int .u8, .int .u8, .int .u8, .int .u8, .int .u8, .int .u8, .int .u8, .int .u8, .int .u8, .int .u8]])).is Try.prog 22 = true := by kernel_rfl

set_option maxRecDepth 100000 in
theorem lifted (os : Os) (started : os.Started) (H : Type) (enc : TypeId × Value → H) :
    ReturnsInHanded {} Try.checked os 3 .any (Rows.fieldWritesSpec.pre6 enc Try.prog Try.f3 Rows.fieldWritesRow.domain false) (Rows.fieldWritesSpec.post enc Try.prog Try.f3 false true false false) := by
  refine returnsInHanded_of_change_sized (C := Try.checked) own started (by kernel_rfl) Try.func3
    (ChangeSpec.witness6 (enc := enc) (C := Try.checked) false ⟨#[], #[.slice none 0 0], []⟩ 8 (by kernel_rfl) (by kernel_rfl) (by kernel_rfl) (by kernel_rfl)) ?_
  intro W base args ds gs before hval0 hW hcnd hZ _
  have hval : ∀ (j : Nat) t v, Try.f3.params[j]? = some t → args[j]? = some v → Value.okWide Try.prog W .any base t v := hval0
  have hW' := hW
  have hlt := hW.lt
  obtain ⟨p, q, hA0, hV, rfl, hfz, hnd⟩ := hW
  have hA : DataW.TrodAll enc Try.prog W 0 (fun _ => true) true Try.f3.params.toList args.toList ds p := hA0
  have hAll := hA
  rw [Try.params3] at hA hval hAll hZ
  obtain ⟨rfl, rfl⟩ := trodVars_none hV
  obtain ⟨pv0, d0, rfl, rfl, h0⟩ := trodAll_one hA
  obtain ⟨dv0, hv0, hl0⟩ := in_val (s := .agg [.int .i64, .int .i64, .int .i64, .sl (.int .u8), .agg [.int .u8, .int .u8, .int .u8, .int .u8, .int .u8, .int .u8, .int .u8, .int .u8, .int .u8, .int .u8, .int .u8, .int .u8, .int .u8, .int .u8, .int .u8, .int .u8]]) shape22 (hval 0 22 _ rfl rfl) h0 (weighed hZ (j := 0) rfl rfl)
  clear hA0 hval0
  have hcall : Calls Try.prog 3 #[pv0] W fun e w' => e = .returned (.bool true) ∧ Below W.heap.size W w' := by
    exact c_walk hv0 hl0 (globs0 _ W)
  refine hcall.mono fun e W' ⟨he, hg⟩ => ?_
  subst he
  exact ⟨_, rfl, _, [], _, [], _, [], hW', trodAll_cons_mk (shut_bool Try.underlying4 _) trodAll_mk0, trodAll_stays laid hg _ _ _ _ hAll (fun x hx => hlt x (by simpa using hx)) (by kernel_rfl), rfl, hg.frame _, fun h => by cases h⟩

theorem over : Rows.fieldWritesRow.holds Try.pinned (OpenSpec.ofChange Rows.fieldWritesSpec) :=
  OpenClaim.holds_of_wide 3 Try.f3 rfl rfl rfl rfl rfl rfl rfl ⟨rfl, rfl, rfl, rfl, rfl⟩ rfl rfl rfl rfl rfl (by kernel_rfl) Try.func3 (by kernel_rfl)
    (of_decide_eq_true (by kernel_rfl)) (by unfold Func.isWrapper; first | (rw [if_pos (by decide +kernel)]; kernel_rfl) | (rw [if_neg (by decide +kernel)]; exact ⟨rfl, rfl⟩))
    (fun os started H enc _ => lifted os started H enc)

/-- The statement. -/
theorem proved : Rows.FieldWritesSaid :=
  over
#print axioms proved
end Go.Proofs.Ytoglpfjcdeaggaa.fieldWrites
