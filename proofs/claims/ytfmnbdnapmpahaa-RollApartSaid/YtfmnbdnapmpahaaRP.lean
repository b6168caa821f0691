/-
  The law RollApart of the layer roll holds of the code: for all inputs the call returns true, and the arguments read as they did. No condition.
-/
import Derived.Test.YtfmnbdnapmpahaaCo
import Derived.Test.YtfmnbdnapmpahaaSylm
import Derived.Test.YtfmnbdnapmpahaaRa
import Derived.WalkKit
import Derived.ProofKit
import Derived.OpenShut
set_option linter.unusedSimpArgs false
set_option linter.unusedVariables false
namespace Go.Proofs.Ytfmnbdnapmpahaa.rollApart
open Go.ChangeShapes Go.WideShapes Go.ChangeAt Go.RowKit Go.Ev Go.Proofs.Ytfmnbdnapmpahaa.Co Go.Proofs.Ytfmnbdnapmpahaa.Ra

def om (len0 cap0 : Nat) (zs0 : List Int) (n1 : Int) (n2 : Int) : Om := ⟨fun _ => .bool false, fun i => if i = 0 then .int len0 else if i = 1 then .int cap0 else if i = 2 then D.ofInts zs0 else if i = 10 then .int n1 else if i = 20 then .int n2 else .int 0, F⟩
theorem om_0 (len0 cap0 : Nat) (zs0 : List Int) (n1 : Int) (n2 : Int) : (om len0 cap0 zs0 n1 n2).d 0 = .int len0 := rfl
theorem om_1 (len0 cap0 : Nat) (zs0 : List Int) (n1 : Int) (n2 : Int) : (om len0 cap0 zs0 n1 n2).d 1 = .int cap0 := rfl
theorem om_2 (len0 cap0 : Nat) (zs0 : List Int) (n1 : Int) (n2 : Int) : (om len0 cap0 zs0 n1 n2).d 2 = D.ofInts zs0 := rfl
theorem om_10 (len0 cap0 : Nat) (zs0 : List Int) (n1 : Int) (n2 : Int) : (om len0 cap0 zs0 n1 n2).d 10 = .int n1 := rfl
theorem om_20 (len0 cap0 : Nat) (zs0 : List Int) (n1 : Int) (n2 : Int) : (om len0 cap0 zs0 n1 n2).d 20 = .int n2 := rfl
theorem om_f (len0 cap0 : Nat) (zs0 : List Int) (n1 : Int) (n2 : Int) : (om len0 cap0 zs0 n1 n2).f = F := rfl

def c_nil_t0 : List (Q × Bool) := []
set_option maxRecDepth 100000 in
theorem c_nil_y0 : yesOf Try.prog (knownV (tellA c_nil_t0) tab specs overs) 6000 60 8 [.nilslice, .sint .i64 (.var 10), .sint .u8 (.var 20)] (globSt g0) = true := by kernel_rfl
theorem c_nil_walk {W : World} {n1 : Int} (hn1 : inK .i64 n1) {n2 : Int} (hn2 : inK .u8 n2) (hG : GlobsR (om 0 0 [] n1 n2) W g0) : Calls Try.prog 8 #[.slice none 0 0, .int .i64 n1, .int .u8 n2] W fun e w' => e = .returned (.bool true) ∧ Below W.heap.size W w' := by
  have r0 := Rel.globs (om 0 0 [] n1 n2) W g0 hG
  have hargs : VRs (Env.none (om 0 0 [] n1 n2)) [.nilslice, .sint .i64 (.var 10), .sint .u8 (.var 20)] [.slice none 0 0, .int .i64 n1, .int .u8 n2] := VRs_cons vr_nil (VRs_cons (vr_sint (i := 10) hn1 (by rw [r0.opq]; rfl)) (VRs_cons (vr_sint (i := 20) hn2 (by rw [r0.opq]; rfl)) (VRs_nil)))
  simp only [inK, i64min, i64max, u8min, u8max, u32min, u32max, u64min, u64max] at hn1
  simp only [inK, i64min, i64max, u8min, u8max, u32min, u32max, u64min, u64max] at hn2
  refine calls_of_yesV sound tab_ok specs_ok overs_ok c_nil_y0 rfl (tellA_ok (allTold'_iff.1 ?_)) r0 hargs
  simp only [c_nil_t0, om_0, om_1, om_2, om_10, om_20, om_f, allTold', dutiesTold, factsA, factsP, factsR, AV.facts, RW.facts, inK, and_true, Q.holds', E.i, E.s, E.n, D.nat, E.den, BO.den, UO.den, TO.den, D.toInt_int, D.toList_list, D.ints_ofInts, i64min, i64max, u8min, u8max, u16min, u16max, u32min, u32max, u64min, u64max, i32min, i32max, Om.sub, selI, ints_app, ints_cut, ints_upd, ints_rep, ints_splice, len_ints]
  first | done | omega | trivial

def c_hol_t0 : List (Q × Bool) := []
set_option maxRecDepth 100000 in
theorem c_hol_y0 : yesOf Try.prog (knownV (tellA c_hol_t0) tab specs overs) 6000 60 8 [.hollow, .sint .i64 (.var 10), .sint .u8 (.var 20)] (globSt g0) = true := by kernel_rfl
theorem c_hol_walk {W : World} (a0 : Addr) (c0 : Nat) {n1 : Int} (hn1 : inK .i64 n1) {n2 : Int} (hn2 : inK .u8 n2) (hG : GlobsR (om 0 0 [] n1 n2) W g0) : Calls Try.prog 8 #[.slice (some a0) 0 c0, .int .i64 n1, .int .u8 n2] W fun e w' => e = .returned (.bool true) ∧ Below W.heap.size W w' := by
  have r0 := Rel.globs (om 0 0 [] n1 n2) W g0 hG
  have hargs : VRs (Env.none (om 0 0 [] n1 n2)) [.hollow, .sint .i64 (.var 10), .sint .u8 (.var 20)] [.slice (some a0) 0 c0, .int .i64 n1, .int .u8 n2] := VRs_cons (vr_hollow a0 c0) (VRs_cons (vr_sint (i := 10) hn1 (by rw [r0.opq]; rfl)) (VRs_cons (vr_sint (i := 20) hn2 (by rw [r0.opq]; rfl)) (VRs_nil)))
  simp only [inK, i64min, i64max, u8min, u8max, u32min, u32max, u64min, u64max] at hn1
  simp only [inK, i64min, i64max, u8min, u8max, u32min, u32max, u64min, u64max] at hn2
  refine calls_of_yesV sound tab_ok specs_ok overs_ok c_hol_y0 rfl (tellA_ok (allTold'_iff.1 ?_)) r0 hargs
  simp only [c_hol_t0, om_0, om_1, om_2, om_10, om_20, om_f, allTold', dutiesTold, factsA, factsP, factsR, AV.facts, RW.facts, inK, and_true, Q.holds', E.i, E.s, E.n, D.nat, E.den, BO.den, UO.den, TO.den, D.toInt_int, D.toList_list, D.ints_ofInts, i64min, i64max, u8min, u8max, u16min, u16max, u32min, u32max, u64min, u64max, i32min, i32max, Om.sub, selI, ints_app, ints_cut, ints_upd, ints_rep, ints_splice, len_ints]
  first | done | omega | trivial

def c_in_t0 : List (Q × Bool) := [((.fit .i64 (.var 0)), true),
  ((.eq (.var 0) (.int 0)), false),
  ((.le (.var 0) (.int 1000)), false)]
set_option maxRecDepth 100000 in
theorem c_in_y0 : yesOf Try.prog (knownV (tellA c_in_t0) tab specs overs) 6000 60 8 [.sslice 1 (.int 0) (.var 0) (.var 1) false, .sint .i64 (.var 10), .sint .u8 (.var 20)] ((globSt g0).newO (.eseq ⟨.u8, .var 0, .var 2⟩)) = true := by kernel_rfl
def c_in_t1 : List (Q × Bool) := [((.fit .i64 (.var 0)), true),
  ((.eq (.var 0) (.int 0)), false),
  ((.le (.var 0) (.int 1000)), true),
  ((.le (.int 1) (.var 0)), true),
  ((.le (.bi .mul (.var 0) (.int 2)) (.int 281474976710656)), true),
  ((.le (.int 0) (.fn 7 (.bi .pair (.var 10) (.bi .pair (.var 0) (.int 0))))), true),
  ((.le (.var 0) (.fn 7 (.bi .pair (.var 10) (.bi .pair (.var 0) (.int 0))))), false),
  ((.eq (.bi .sel (.var 2) (.fn 7 (.bi .pair (.var 10) (.bi .pair (.var 0) (.int 0))))) (.var 20)), false),
  ((.le (.bi .add (.int 0) (.var 0)) (.var 0)), true),
  ((.le (.var 0) (.int 1000000)), true),
  ((.eq (.fn 2 (.bi .pair (.tr .upd (.var 2) (.fn 7 (.bi .pair (.var 10) (.bi .pair (.var 0) (.int 0)))) (.var 20)) (.bi .pair (.int 0) (.bi .pair (.bi .add (.int 0) (.var 0)) (.int 0))))) (.fn 2 (.bi .pair (.var 2) (.bi .pair (.int 0) (.bi .pair (.bi .add (.int 0) (.var 0)) (.int 0)))))), false),
  ((.eq (.bi (.iop .mul .u32) (.bi (.iop .add .u32) (.bi (.iop .mul .u32) (.int 2) (.var 20)) (.int 1)) (.int 2654435761)) (.bi (.iop .mul .u32) (.bi (.iop .add .u32) (.bi (.iop .mul .u32) (.int 2) (.bi .sel (.var 2) (.fn 7 (.bi .pair (.var 10) (.bi .pair (.var 0) (.int 0)))))) (.int 1)) (.int 2654435761))), false),
  ((.eq (.bi (.iop .rem .u32) (.bi (.iop .mul .u32) (.bi (.iop .add .u32) (.bi (.iop .mul .u32) (.int 2) (.var 20)) (.int 1)) (.int 2654435761)) (.int 2)) (.int 1)), true)]
set_option maxRecDepth 100000 in
theorem c_in_y1 : yesOf Try.prog (knownV (tellA c_in_t1) tab specs overs) 6000 60 8 [.sslice 1 (.int 0) (.var 0) (.var 1) false, .sint .i64 (.var 10), .sint .u8 (.var 20)] ((globSt g0).newO (.eseq ⟨.u8, .var 0, .var 2⟩)) = true := by kernel_rfl
def c_in_t2 : List (Q × Bool) := [((.fit .i64 (.var 0)), true),
  ((.eq (.var 0) (.int 0)), false),
  ((.le (.var 0) (.int 1000)), true),
  ((.le (.int 1) (.var 0)), true),
  ((.le (.bi .mul (.var 0) (.int 2)) (.int 281474976710656)), true),
  ((.le (.int 0) (.fn 7 (.bi .pair (.var 10) (.bi .pair (.var 0) (.int 0))))), true),
  ((.le (.var 0) (.fn 7 (.bi .pair (.var 10) (.bi .pair (.var 0) (.int 0))))), false),
  ((.eq (.bi .sel (.var 2) (.fn 7 (.bi .pair (.var 10) (.bi .pair (.var 0) (.int 0))))) (.var 20)), true),
  ((.le (.bi .add (.int 0) (.var 0)) (.var 0)), true),
  ((.le (.var 0) (.int 1000000)), true),
  ((.eq (.fn 2 (.bi .pair (.tr .upd (.var 2) (.fn 7 (.bi .pair (.var 10) (.bi .pair (.var 0) (.int 0)))) (.var 20)) (.bi .pair (.int 0) (.bi .pair (.bi .add (.int 0) (.var 0)) (.int 0))))) (.fn 2 (.bi .pair (.var 2) (.bi .pair (.int 0) (.bi .pair (.bi .add (.int 0) (.var 0)) (.int 0)))))), true),
  ((.eq (.bi (.iop .mul .u32) (.bi (.iop .add .u32) (.bi (.iop .mul .u32) (.int 2) (.var 20)) (.int 1)) (.int 2654435761)) (.bi (.iop .mul .u32) (.bi (.iop .add .u32) (.bi (.iop .mul .u32) (.int 2) (.bi .sel (.var 2) (.fn 7 (.bi .pair (.var 10) (.bi .pair (.var 0) (.int 0)))))) (.int 1)) (.int 2654435761))), true),
  ((.eq (.bi (.iop .rem .u32) (.bi (.iop .mul .u32) (.bi (.iop .add .u32) (.bi (.iop .mul .u32) (.int 2) (.var 20)) (.int 1)) (.int 2654435761)) (.int 2)) (.int 1)), true)]
set_option maxRecDepth 100000 in
theorem c_in_y2 : yesOf Try.prog (knownV (tellA c_in_t2) tab specs overs) 6000 60 8 [.sslice 1 (.int 0) (.var 0) (.var 1) false, .sint .i64 (.var 10), .sint .u8 (.var 20)] ((globSt g0).newO (.eseq ⟨.u8, .var 0, .var 2⟩)) = true := by kernel_rfl
theorem c_in_walk {W : World} {v0 : Value} {b0 off0 len0 cap0 : Nat} {zs0 : List Int} (h0 : InSlice W .u8 v0 b0 off0 len0 cap0 zs0) {n1 : Int} (hn1 : inK .i64 n1) {n2 : Int} (hn2 : inK .u8 n2) (hG : GlobsR (om len0 cap0 zs0 n1 n2) W g0) : Calls Try.prog 8 #[v0, .int .i64 n1, .int .u8 n2] W fun e w' => e = .returned (.bool true) ∧ Below W.heap.size W w' := by
  have r0 := Rel.globs (om len0 cap0 zs0 n1 n2) W g0 hG
  obtain ⟨le0, r1, x0⟩ := h0.open r0 (l := 0) (c := 1) (x := 2) rfl rfl rfl
  have pos0 := h0.pos
  have lec0 := h0.le
  have max0 := h0.max
  have zl0 := h0.len
  have rng0 := h0.rng
  have hargs : VRs _ [.sslice 1 (.int 0) (.var 0) (.var 1) false, .sint .i64 (.var 10), .sint .u8 (.var 20)] [v0, .int .i64 n1, .int .u8 n2] := VRs_cons x0 (VRs_cons (vr_sint (i := 10) hn1 (by rw [r1.opq]; rfl)) (VRs_cons (vr_sint (i := 20) hn2 (by rw [r1.opq]; rfl)) (VRs_nil)))
  simp only [inK, i64min, i64max, u8min, u8max, u32min, u32max, u64min, u64max] at hn1
  simp only [inK, i64min, i64max, u8min, u8max, u32min, u32max, u64min, u64max] at hn2
  by_cases h : 1000 < len0
  · refine calls_of_yesV sound tab_ok specs_ok overs_ok c_in_y0 rfl (tellA_ok (allTold'_iff.1 ?_)) r1 hargs
    simp only [c_in_t0, om_0, om_1, om_2, om_10, om_20, om_f, allTold', dutiesTold, factsA, factsP, factsR, AV.facts, RW.facts, inK, and_true, Q.holds', E.i, E.s, E.n, D.nat, E.den, BO.den, UO.den, TO.den, D.toInt_int, D.toList_list, D.ints_ofInts, i64min, i64max, u8min, u8max, u16min, u16max, u32min, u32max, u64min, u64max, i32min, i32max, Om.sub, selI, ints_app, ints_cut, ints_upd, ints_rep, ints_splice, len_ints]
    omega
  · have hk := emod_in (x := n1) (n := (len0 : Int)) (by omega)
    have ho := wI_odd hn2
    have ho2 : iopI .rem .u32 (wI n2) 2 = 1 := by rw [rem_emod _ (by have := wI_in n2; omega)]; exact ho
    unfold wI at ho2
    have p0 : prt zs0 0 len0 = zs0 := prt_all (by omega)
    have p1 : ∀ k c, prt (zs0.set k c) 0 len0 = zs0.set k c := fun k c => prt_all (by simp; omega)
    have rb : ∀ x ∈ zs0, 0 ≤ x ∧ x ≤ 255 := fun x hx => rng0 x hx
    have hki : (n1 % (len0 : Int)).toNat < zs0.length := by omega
    have hb := rb _ (List.getElem_mem hki)
    by_cases g : (zs0[(n1 % (len0 : Int)).toNat]?).getD 0 = n2
    · refine calls_of_yesV sound tab_ok specs_ok overs_ok c_in_y2 rfl (tellA_ok (allTold'_iff.1 ?_)) r1 hargs
      simp only [c_in_t2, om_0, om_1, om_2, om_10, om_20, om_f, F2, F7, Int.zero_add, allTold', dutiesTold, factsA, factsP, factsR, AV.facts, RW.facts, inK, and_true, Q.holds', E.i, E.s, E.n, D.nat, E.den, BO.den, UO.den, TO.den, D.toInt_int, D.toList_list, D.ints_ofInts, i64min, i64max, u8min, u8max, u16min, u16max, u32min, u32max, u64min, u64max, i32min, i32max, Om.sub, selI, ints_app, ints_cut, ints_upd, ints_rep, ints_splice, len_ints]
      simp only [p0, p1, set_same hki g, g, ho2, and_true, true_and]
      omega
    · have h1 : sumN 0 (zs0.set (n1 % (len0 : Int)).toNat n2) ≠ sumN 0 zs0 := fun x => g (sum_set hki rb hn2 x)
      have h2 : wI n2 ≠ wI ((zs0[(n1 % (len0 : Int)).toNat]?).getD 0) := fun x => g (wI_inj hn2 (by rw [List.getElem?_eq_getElem hki]; exact hb) x).symm
      unfold wI at h2
      refine calls_of_yesV sound tab_ok specs_ok overs_ok c_in_y1 rfl (tellA_ok (allTold'_iff.1 ?_)) r1 hargs
      simp only [c_in_t1, om_0, om_1, om_2, om_10, om_20, om_f, F2, F7, Int.zero_add, allTold', dutiesTold, factsA, factsP, factsR, AV.facts, RW.facts, inK, and_true, Q.holds', E.i, E.s, E.n, D.nat, E.den, BO.den, UO.den, TO.den, D.toInt_int, D.toList_list, D.ints_ofInts, i64min, i64max, u8min, u8max, u16min, u16max, u32min, u32max, u64min, u64max, i32min, i32max, Om.sub, selI, ints_app, ints_cut, ints_upd, ints_rep, ints_splice, len_ints]
      simp only [p0, p1, h1, h2, g, ho2, and_true, true_and, decide_false]
      omega

theorem underS22 : Try.prog.underlying 22 = some (.slice 5) := by kernel_rfl
theorem underE5 : Try.prog.underlying 5 = some (.int .u8) := by kernel_rfl
theorem cellsE5 : Try.prog.cellsOf 5 = 1 := by kernel_rfl
theorem underI3 : Try.prog.underlying 3 = some (.int .i64) := by kernel_rfl
theorem underI5 : Try.prog.underlying 5 = some (.int .u8) := by kernel_rfl

set_option maxRecDepth 100000 in
theorem lifted (os : Os) (started : os.Started) (H : Type) (enc : TypeId × Value → H) :
    ReturnsInHanded {} Try.checked os 8 .any (Rows.rollApartSpec.pre6 enc Try.prog Try.f8 Rows.rollApartRow.domain false) (Rows.rollApartSpec.post enc Try.prog Try.f8 false true false false) := by
  refine returnsInHanded_of_change (C := Try.checked) own started (by kernel_rfl) Try.func8
    (ChangeSpec.witness6 (enc := enc) (C := Try.checked) false ⟨#[], #[.slice none 0 0, .int .i64 0, .int .u8 0], []⟩ 8 (by kernel_rfl) (by kernel_rfl) (by kernel_rfl) (by kernel_rfl)) ?_
  intro W base args ds gs before hval0 hW hcnd _
  have hval : ∀ (j : Nat) t v, Try.f8.params[j]? = some t → args[j]? = some v → Value.okWide Try.prog W .any base t v := hval0
  have hW' := hW
  have hlt := hW.lt
  obtain ⟨p, q, hA0, hV, rfl, hfz, hnd⟩ := hW
  have hA : DataW.TrodAll enc Try.prog W 0 (fun _ => true) true Try.f8.params.toList args.toList ds p := hA0
  have hAll := hA
  rw [Try.params8] at hA hval hAll
  obtain ⟨rfl, rfl⟩ := trodVars_none hV
  obtain ⟨v0, v1, v2, d0, d1, d2, p0, p1, p2, rfl, rfl, rfl, h0, h1, h2⟩ := trodAll_three hA
  have s0 := in_slice (k := .u8) underS22 underE5 cellsE5 (hval 0 22 _ rfl rfl) h0
  obtain ⟨n1, rfl, rfl, rfl, wn1⟩ := open_int underI3 (hval 1 3 _ rfl rfl) h1
  have wn1 := wf_inK wn1
  obtain ⟨n2, rfl, rfl, rfl, wn2⟩ := open_int underI5 (hval 2 5 _ rfl rfl) h2
  have wn2 := wf_inK wn2
  clear hA0 hval0
  have hcall : Calls Try.prog 8 #[v0, .int .i64 n1, .int .u8 n2] W fun e w' => e = .returned (.bool true) ∧ Below W.heap.size W w' := by
    rcases s0 with rfl | ⟨a0, c0, rfl⟩ | ⟨_, _, _, _, _, s0⟩
    · exact c_nil_walk wn1 wn2 (globs0 _ W)
    · exact c_hol_walk a0 c0 wn1 wn2 (globs0 _ W)
    · exact c_in_walk s0 wn1 wn2 (globs0 _ W)
  refine hcall.mono fun e W' ⟨he, hg⟩ => ?_
  subst he
  exact ⟨_, rfl, _, [], _, [], _, [], hW', trodAll_cons_mk (shut_bool Try.underlying4 _) trodAll_mk0, trodAll_stays laid hg _ _ _ _ hAll (fun x hx => hlt x (by simpa using hx)) (by kernel_rfl), rfl, hg.frame _, fun h => by cases h⟩

theorem over : Rows.rollApartRow.holds Try.pinned (OpenSpec.ofChange Rows.rollApartSpec) :=
  OpenClaim.holds_of_wide 8 Try.f8 rfl rfl rfl rfl rfl rfl rfl ⟨rfl, rfl, rfl, rfl, rfl⟩ rfl rfl rfl rfl rfl (by kernel_rfl) Try.func8 (by kernel_rfl)
    (of_decide_eq_true (by kernel_rfl)) (by unfold Func.isWrapper; first | (rw [if_pos (by decide +kernel)]; kernel_rfl) | (rw [if_neg (by decide +kernel)]; exact ⟨rfl, rfl⟩))
    (fun os started H enc _ => lifted os started H enc)

/-- The statement. -/
theorem proved : Rows.RollApartSaid :=
  over
#print axioms proved
end Go.Proofs.Ytfmnbdnapmpahaa.rollApart
