/-
  The law FrameReads of the layer frame holds of the code: for all inputs the call returns true, and the arguments read as they did. No condition; the package variables that it reads are as the program's text lays them (the card ties them).
-/
import Derived.Test.YtlmcjfcfmcdcpaaDoorCo
import Derived.Test.YtlmcjfcfmcdcpaaDoorSycp
import Derived.Test.YtlmcjfcfmcdcpaaDoorQr
import Derived.Test.YtlmcjfcfmcdcpaaDoorGa
import Derived.Test.YtlmcjfcfmcdcpaaDoorG2
import Derived.Test.YtlmcjfcfmcdcpaaDoorGm
import Derived.Test.YtlmcjfcfmcdcpaaDoorFl
import Derived.Test.YtlmcjfcfmcdcpaaDoorFb
import Derived.Test.YtlmcjfcfmcdcpaaDoorF3
import Derived.Test.YtlmcjfcfmcdcpaaDoorFc
import Derived.Test.YtlmcjfcfmcdcpaaDoorF5
import Derived.Test.YtlmcjfcfmcdcpaaDoorF9
import Derived.Test.YtlmcjfcfmcdcpaaDoorF4
import Derived.Test.YtlmcjfcfmcdcpaaDoorFr
import Derived.Test.YtlmcjfcfmcdcpaaDoorCards
import Derived.Test.YtlmcjfcfmcdcpaaDoorTie
import Derived.SevenTiedAt
import Derived.WalkKit
import Derived.ProofKit
import Derived.OpenShut
set_option linter.unusedSimpArgs false
set_option linter.unusedVariables false
namespace Go.Proofs.YtlmcjfcfmcdcpaaDoor.frameReads
open Go.ChangeShapes Go.WideShapes Go.ChangeAt Go.RowKit Go.Ev Go.Proofs.YtlmcjfcfmcdcpaaDoor.Co Go.Proofs.YtlmcjfcfmcdcpaaDoor.Qr Go.Proofs.YtlmcjfcfmcdcpaaDoor.Ga Go.Proofs.YtlmcjfcfmcdcpaaDoor.G2 Go.Proofs.YtlmcjfcfmcdcpaaDoor.Gm Go.Proofs.YtlmcjfcfmcdcpaaDoor.Fl Go.Proofs.YtlmcjfcfmcdcpaaDoor.Fb Go.Proofs.YtlmcjfcfmcdcpaaDoor.F3 Go.Proofs.YtlmcjfcfmcdcpaaDoor.Fc Go.Proofs.YtlmcjfcfmcdcpaaDoor.F5 Go.Proofs.YtlmcjfcfmcdcpaaDoor.F9 Go.Proofs.YtlmcjfcfmcdcpaaDoor.F4 Go.Proofs.YtlmcjfcfmcdcpaaDoor.Fr

def om (len0 cap0 : Nat) (zs0 : List Int) : Om := ⟨fun _ => .bool false, fun i => if i = 0 then .int len0 else if i = 1 then .int cap0 else if i = 2 then D.ofInts zs0 else .int 0, F⟩
theorem om_0 (len0 cap0 : Nat) (zs0 : List Int) : (om len0 cap0 zs0).d 0 = .int len0 := rfl
theorem om_1 (len0 cap0 : Nat) (zs0 : List Int) : (om len0 cap0 zs0).d 1 = .int cap0 := rfl
theorem om_2 (len0 cap0 : Nat) (zs0 : List Int) : (om len0 cap0 zs0).d 2 = D.ofInts zs0 := rfl
theorem om_f (len0 cap0 : Nat) (zs0 : List Int) : (om len0 cap0 zs0).f = F := rfl

theorem prt_lent3 {P : List Int} {a b : Int} (h : b ≤ P.length) : prt (lentI P) a b = prt P a b := by
  unfold prt lentI
  rw [List.take_append_of_le_length (by omega)]
theorem read_26 {z : List Int} (h : readI z = 0) : 26 ≤ (z.length : Int) := by
  unfold readI at h
  by_cases h1 : 1426 < (z.length : Int)
  · omega
  · rw [if_neg h1] at h
    by_cases h2 : (z.length : Int) < 26
    · rw [if_pos h2] at h; omega
    · omega

abbrev as0 : Q × Bool := ((.le (.bi .add (.int 0) (.int 0)) (.int 3)), true)
abbrev as1 : Q × Bool := ((.eq (.fn 16 (.bi .pair (.lits [160, 161, 162]) (.bi .pair (.int 0) (.bi .pair (.bi .add (.int 0) (.int 0)) (.int 0))))) (.int 0)), false)
abbrev as2 : Q × Bool := ((.eq (.fn 16 (.bi .pair (.lits [160, 161, 162]) (.bi .pair (.int 0) (.bi .pair (.bi .add (.int 0) (.int 0)) (.int 0))))) (.int 4)), true)
def c_emp_t0 : List (Q × Bool) := [as0, as1, as2]
set_option maxRecDepth 100000 in
theorem c_emp_y0 : yesOf Tryd.prog (knownV (tellA c_emp_t0) tabR specsR oversR) 8000 80 4 [.empty] (globSt g0) = true := by kernel_rfl
set_option maxRecDepth 100000 in
set_option maxHeartbeats 6000000 in
theorem c_emp_walk {W : World} {v0 : Value} (hv0 : ∀ e : Env, VR e .empty v0) (hG : GlobsR (om 0 0 []) W g0) : Calls Tryd.prog 4 #[v0] W fun e w' => e = .returned (.bool true) ∧ Below W.heap.size W w' := by
  have r0 := Rel.globs (om 0 0 []) W g0 hG
  have hargs : VRs (Env.none (om 0 0 [])) [.empty] [v0] := VRs_cons (hv0 _) (VRs_nil)
  refine calls_of_yesV sound tabR_ok specsR_ok oversR_ok c_emp_y0 rfl (tellA_ok (allTold'_iff.1 ?_)) r0 hargs
  simp only [c_emp_t0, om_0, om_1, om_2, om_f, allTold', dutiesTold, factsA, factsC, factsP, factsR, AV.facts, RW.facts, inK, and_true, Q.holds', E.i, E.s, E.n, D.nat, E.den, BO.den, UO.den, TO.den, D.toInt_int, D.toList_list, D.ints_ofInts, i64min, i64max, u8min, u8max, u16min, u16max, u32min, u32max, u64min, u64max, i32min, i32max, Om.sub, selI, ints_app, ints_cut, ints_upd, ints_rep, ints_splice, ints_seg, len_ints]
  first | done | omega | trivial

abbrev as3 : Q × Bool := ((.fit .i64 (.var 0)), true)
abbrev as4 : Q × Bool := ((.le (.var 0) (.int 2000)), false)
def c_in_t0 : List (Q × Bool) := [as3, as4]
set_option maxRecDepth 100000 in
theorem c_in_y0 : yesOf Tryd.prog (knownV (tellA c_in_t0) tabR specsR oversR) 8000 80 4 [.sslice 1 (.int 0) (.var 0) (.var 1) false] ((globSt g0).newO (.eseq ⟨.u8, .var 0, .var 2⟩)) = true := by kernel_rfl
abbrev as5 : Q × Bool := ((.le (.var 0) (.int 2000)), true)
abbrev as6 : Q × Bool := ((.le (.bi .add (.int 0) (.var 0)) (.var 0)), true)
abbrev as7 : Q × Bool := ((.le (.var 0) (.int 1000000)), true)
abbrev as8 : Q × Bool := ((.le (.bi .add (.int 0) (.var 0)) (.bi .add (.var 0) (.int 3))), true)
abbrev as9 : Q × Bool := ((.eq (.fn 16 (.bi .pair (.fn 6 (.bi .pair (.var 2) (.bi .pair (.int 0) (.bi .pair (.bi .add (.int 0) (.var 0)) (.int 0))))) (.bi .pair (.int 0) (.bi .pair (.bi .add (.int 0) (.var 0)) (.int 0))))) (.int 0)), false)
abbrev as10 : Q × Bool := ((.eq (.fn 16 (.bi .pair (.var 2) (.bi .pair (.int 0) (.bi .pair (.bi .add (.int 0) (.var 0)) (.int 0))))) (.int 0)), false)
abbrev as11 : Q × Bool := ((.eq (.fn 16 (.bi .pair (.fn 6 (.bi .pair (.var 2) (.bi .pair (.int 0) (.bi .pair (.bi .add (.int 0) (.var 0)) (.int 0))))) (.bi .pair (.int 0) (.bi .pair (.bi .add (.int 0) (.var 0)) (.int 0))))) (.fn 16 (.bi .pair (.var 2) (.bi .pair (.int 0) (.bi .pair (.bi .add (.int 0) (.var 0)) (.int 0)))))), true)
abbrev as12 : Q × Bool := ((.le (.bi .add (.var 0) (.int 3)) (.int 9223372036854775807)), true)
def c_in_t1 : List (Q × Bool) := [as3, as5, as6, as7, as8, as9, as10, as11, as12]
set_option maxRecDepth 100000 in
theorem c_in_y1 : yesOf Tryd.prog (knownV (tellA c_in_t1) tabR specsR oversR) 8000 80 4 [.sslice 1 (.int 0) (.var 0) (.var 1) false] ((globSt g0).newO (.eseq ⟨.u8, .var 0, .var 2⟩)) = true := by kernel_rfl
abbrev as13 : Q × Bool := ((.eq (.fn 16 (.bi .pair (.fn 6 (.bi .pair (.var 2) (.bi .pair (.int 0) (.bi .pair (.bi .add (.int 0) (.var 0)) (.int 0))))) (.bi .pair (.int 0) (.bi .pair (.bi .add (.int 0) (.var 0)) (.int 0))))) (.int 0)), true)
abbrev as14 : Q × Bool := ((.eq (.fn 16 (.bi .pair (.var 2) (.bi .pair (.int 0) (.bi .pair (.bi .add (.int 0) (.var 0)) (.int 0))))) (.int 0)), true)
abbrev as15 : Q × Bool := ((.eq (.fn 15 (.bi .pair (.fn 6 (.bi .pair (.var 2) (.bi .pair (.int 0) (.bi .pair (.bi .add (.int 0) (.var 0)) (.int 0))))) (.bi .pair (.bi .add (.int 0) (.int 3)) (.bi .pair (.bi .add (.int 0) (.int 4)) (.int 0))))) (.fn 15 (.bi .pair (.var 2) (.bi .pair (.bi .add (.int 0) (.int 3)) (.bi .pair (.bi .add (.int 0) (.int 4)) (.int 0)))))), true)
abbrev as16 : Q × Bool := ((.eq (.fn 15 (.bi .pair (.fn 6 (.bi .pair (.var 2) (.bi .pair (.int 0) (.bi .pair (.bi .add (.int 0) (.var 0)) (.int 0))))) (.bi .pair (.bi .add (.int 0) (.int 4)) (.bi .pair (.bi .add (.int 0) (.int 8)) (.int 0))))) (.fn 15 (.bi .pair (.var 2) (.bi .pair (.bi .add (.int 0) (.int 4)) (.bi .pair (.bi .add (.int 0) (.int 8)) (.int 0)))))), true)
abbrev as17 : Q × Bool := ((.eq (.fn 15 (.bi .pair (.fn 6 (.bi .pair (.var 2) (.bi .pair (.int 0) (.bi .pair (.bi .add (.int 0) (.var 0)) (.int 0))))) (.bi .pair (.bi .add (.int 0) (.int 8)) (.bi .pair (.bi .add (.int 0) (.int 12)) (.int 0))))) (.fn 15 (.bi .pair (.var 2) (.bi .pair (.bi .add (.int 0) (.int 8)) (.bi .pair (.bi .add (.int 0) (.int 12)) (.int 0)))))), true)
abbrev as18 : Q × Bool := ((.eq (.fn 15 (.bi .pair (.fn 6 (.bi .pair (.var 2) (.bi .pair (.int 0) (.bi .pair (.bi .add (.int 0) (.var 0)) (.int 0))))) (.bi .pair (.bi .add (.int 0) (.int 12)) (.bi .pair (.bi .add (.int 0) (.int 16)) (.int 0))))) (.fn 15 (.bi .pair (.var 2) (.bi .pair (.bi .add (.int 0) (.int 12)) (.bi .pair (.bi .add (.int 0) (.int 16)) (.int 0)))))), true)
abbrev as19 : Q × Bool := ((.eq (.fn 15 (.bi .pair (.fn 6 (.bi .pair (.var 2) (.bi .pair (.int 0) (.bi .pair (.bi .add (.int 0) (.var 0)) (.int 0))))) (.bi .pair (.bi .add (.int 0) (.int 16)) (.bi .pair (.bi .add (.int 0) (.int 20)) (.int 0))))) (.fn 15 (.bi .pair (.var 2) (.bi .pair (.bi .add (.int 0) (.int 16)) (.bi .pair (.bi .add (.int 0) (.int 20)) (.int 0)))))), true)
abbrev as20 : Q × Bool := ((.same (.tr .cut (.tr .cut (.fn 6 (.bi .pair (.var 2) (.bi .pair (.int 0) (.bi .pair (.bi .add (.int 0) (.var 0)) (.int 0))))) (.int 0) (.bi .add (.int 0) (.bi .add (.var 0) (.int (-4))))) (.int 22) (.bi .add (.var 0) (.int (-4)))) (.tr .cut (.var 2) (.bi .add (.int 0) (.int 22)) (.bi .add (.int 0) (.bi .add (.var 0) (.int (-4)))))), true)
def c_in_t2 : List (Q × Bool) := [as3, as5, as6, as7, as8, as13, as14, as15, as16, as17, as18, as19, as20, as12]
set_option maxRecDepth 100000 in
theorem c_in_y2 : yesOf Tryd.prog (knownV (tellA c_in_t2) tabR specsR oversR) 8000 80 4 [.sslice 1 (.int 0) (.var 0) (.var 1) false] ((globSt g0).newO (.eseq ⟨.u8, .var 0, .var 2⟩)) = true := by kernel_rfl
set_option maxRecDepth 100000 in
set_option maxHeartbeats 6000000 in
theorem c_in_walk {W : World} {v0 : Value} {b0 off0 len0 cap0 : Nat} {zs0 : List Int} (h0 : InSlice W .u8 v0 b0 off0 len0 cap0 zs0) (hG : GlobsR (om len0 cap0 zs0) W g0) : Calls Tryd.prog 4 #[v0] W fun e w' => e = .returned (.bool true) ∧ Below W.heap.size W w' := by
  have r0 := Rel.globs (om len0 cap0 zs0) W g0 hG
  obtain ⟨le0, r1, x0⟩ := h0.open r0 (l := 0) (c := 1) (x := 2) rfl rfl rfl
  have pos0 := h0.pos
  have lec0 := h0.le
  have max0 := h0.max
  have zl0 := h0.len
  have rng0 := h0.rng
  have hargs : VRs _ [.sslice 1 (.int 0) (.var 0) (.var 1) false] [v0] := VRs_cons (x0) (VRs_nil)
  by_cases h : 2000 < len0
  · refine calls_of_yesV sound tabR_ok specsR_ok oversR_ok c_in_y0 rfl (tellA_ok (allTold'_iff.1 ?_)) r1 hargs
    simp only [c_in_t0, om_0, om_1, om_2, om_f, allTold', dutiesTold, factsA, factsC, factsP, factsR, AV.facts, RW.facts, inK, and_true, Q.holds', E.i, E.s, E.n, D.nat, E.den, BO.den, UO.den, TO.den, D.toInt_int, D.toList_list, D.ints_ofInts, i64min, i64max, u8min, u8max, u16min, u16max, u32min, u32max, u64min, u64max, i32min, i32max, Om.sub, selI, ints_app, ints_cut, ints_upd, ints_rep, ints_splice, ints_seg, len_ints]
    omega
  have lz : lentI (prt zs0 0 (len0 : Int)) = lentI zs0 := by rw [prt_all (x := zs0) (by omega)]
  have h2 : prt (lentI zs0) 0 (len0 : Int) = zs0 := prt_lent (by omega)
  have h3 : prt zs0 0 (len0 : Int) = zs0 := prt_all (by omega)
  by_cases g : readI zs0 = 0
  · have g26 := read_26 g
    have e : ∀ a b : Int, b ≤ (len0 : Int) → prt (lentI zs0) a b = prt zs0 a b := fun a b hb => prt_lent3 (by omega)
    have bd : prt (prt zs0 0 ((len0 : Int) + -4)) 22 ((len0 : Int) + -4) = prt zs0 22 ((len0 : Int) + -4) := by
      have h9 := prt_prt (x := zs0) (o := 0) (l := (len0 : Int) + -4) (a := 22) (b := (len0 : Int) + -4) (by omega) (by omega) (by omega) (by omega)
      simp only [Int.zero_add] at h9
      exact h9
    refine calls_of_yesV sound tabR_ok specsR_ok oversR_ok c_in_y2 rfl (tellA_ok (allTold'_iff.1 ?_)) r1 hargs
    simp only [c_in_t2, om_0, om_1, om_2, om_f, F6, F15, F16, ints_list, List.map_drop, List.map_take, map_ints, allTold', dutiesTold, factsA, factsC, factsP, factsR, AV.facts, RW.facts, inK, and_true, Q.holds', E.i, E.s, E.n, D.nat, E.den, BO.den, UO.den, TO.den, D.toInt_int, D.toList_list, D.ints_ofInts, i64min, i64max, u8min, u8max, u16min, u16max, u32min, u32max, u64min, u64max, i32min, i32max, Om.sub, selI, ints_app, ints_cut, ints_upd, ints_rep, ints_splice, ints_seg, len_ints]
    simp only [cut_prt, Int.zero_add, lz, h2, h3, e 3 4 (by omega), e 4 8 (by omega), e 8 12 (by omega), e 12 16 (by omega), e 16 20 (by omega), e 0 ((len0 : Int) + -4) (by omega), bd]
    all_goals (and_intros <;> first | omega | exact g | trivial | skip)
  · refine calls_of_yesV sound tabR_ok specsR_ok oversR_ok c_in_y1 rfl (tellA_ok (allTold'_iff.1 ?_)) r1 hargs
    simp only [c_in_t1, om_0, om_1, om_2, om_f, F6, F15, F16, allTold', dutiesTold, factsA, factsC, factsP, factsR, AV.facts, RW.facts, inK, and_true, Q.holds', E.i, E.s, E.n, D.nat, E.den, BO.den, UO.den, TO.den, D.toInt_int, D.toList_list, D.ints_ofInts, i64min, i64max, u8min, u8max, u16min, u16max, u32min, u32max, u64min, u64max, i32min, i32max, Om.sub, selI, ints_app, ints_cut, ints_upd, ints_rep, ints_splice, ints_seg, len_ints]
    simp only [Int.zero_add, lz, h2, h3]
    all_goals (and_intros <;> first | omega | exact g | trivial | skip)

theorem underS22 : Tryd.prog.underlying 22 = some (.slice 5) := by kernel_rfl
theorem underE5 : Tryd.prog.underlying 5 = some (.int .u8) := by kernel_rfl
theorem cellsE5 : Tryd.prog.cellsOf 5 = 1 := by kernel_rfl

set_option maxRecDepth 100000 in
theorem lifted (os : Os) (started : os.Started) (H : Type) (enc : TypeId × Value → H) :
    ReturnsInHanded {} Tryd.checked os 4 .any (fun w args => (Rows.frameReadsSpec.pre enc Tryd.prog Tryd.f4 [] false w args ∧ laidMetH Tryd.prog laidL w) ∧ sizedMet enc Tryd.prog Tryd.f4 (OpenSpec.ofChange Rows.frameReadsSpec) false w args)
      (Rows.frameReadsSpec.post enc Tryd.prog Tryd.f4 false true false false) := by
  refine returnsInHanded_of_change_and (C := Tryd.checked) (X := fun w _ => laidMetH Tryd.prog laidL w) (fun _ _ _ hh h => h.of_heap hh) own started (by kernel_rfl) Tryd.func4
    (ChangeSpec.witness_shaped (enc := enc) (C := Tryd.checked) (os := os) (X := fun w _ => laidMetH Tryd.prog laidL w) false (World.doorLaid Tryd.prog 400 os) #[.slice none 0 0] 8 rfl (World.shaped_of_RefB (by kernel_rfl) (by kernel_rfl)) (by kernel_rfl) (by kernel_rfl) (by kernel_rfl) (door_met os _)) ?_
  intro W base args ds gs before hval0 hW _ _ hL _
  have hval : ∀ (j : Nat) t v, Tryd.f4.params[j]? = some t → args[j]? = some v → Value.okWide Tryd.prog W .any base t v := hval0
  have hW' := hW
  have hlt := hW.lt
  obtain ⟨p, q, hA0, hV, rfl, hfz, hnd⟩ := hW
  have hA : DataW.TrodAll enc Tryd.prog W 0 (fun _ => true) true Tryd.f4.params.toList args.toList ds p := hA0
  have hAll := hA
  rw [Tryd.params4] at hA hval hAll
  obtain ⟨rfl, rfl⟩ := trodVars_none hV
  obtain ⟨pv0, d0, rfl, rfl, h0⟩ := trodAll_one hA
  have s0 := in_slice (k := .u8) underS22 underE5 cellsE5 (hval 0 22 _ rfl rfl) h0
  clear hA0 hval0
  have hcall : Calls Tryd.prog 4 #[pv0] W fun e w' => e = .returned (.bool true) ∧ Below W.heap.size W w' := by
    rcases s0 with rfl | ⟨a0, c0, rfl⟩ | ⟨_, _, _, _, _, s0⟩
    · exact c_emp_walk (fun _ => vr_emptyN) (globs0 _ hL)
    · exact c_emp_walk (fun _ => vr_emptyH a0 c0) (globs0 _ hL)
    · exact c_in_walk s0 (globs0 _ hL)
  refine hcall.mono fun e W' ⟨he, hg⟩ => ?_
  subst he
  exact ⟨_, rfl, _, [], _, [], _, [], hW', trodAll_cons_mk (shut_bool Tryd.underlying4 _) trodAll_mk0, trodAll_stays laid hg _ _ _ _ hAll (fun x hx => hlt x (by simpa using hx)) (by kernel_rfl), rfl, hg.frame _, fun h => by cases h⟩

theorem over : Rows.frameReadsRow.holds Tryd.pinned (OpenSpec.ofChange Rows.frameReadsSpec) :=
  OpenClaim.holds_of_wide 4 Tryd.f4 rfl rfl rfl rfl rfl rfl rfl ⟨rfl, rfl, rfl, rfl, rfl⟩ rfl rfl rfl rfl rfl (by kernel_rfl) Tryd.func4 (by kernel_rfl)
    (of_decide_eq_true (by kernel_rfl)) (by unfold Func.isWrapper; first | (rw [if_pos (by decide +kernel)]; kernel_rfl) | (rw [if_neg (by decide +kernel)]; exact ⟨rfl, rfl⟩))
    (fun os started H enc _ => lifted os started H enc)

/-- The statement: the tied card. -/
theorem proved : Rows.FrameReadsCardSaid :=
  Claim7.holds_tied_plain_at .later [] [.wider] true (true, "6723d8c1d0b12c6a2afdd924a4dfe7f1a7ea71b0fb2d32eb5ba4caa8938006bd") false
    over (fun _ h => by cases h) (by kernel_rfl) (fun _ h => by cases h) frameReads_row_tie rfl ⟨rfl, rfl⟩ (by kernel_rfl) rfl
    (fun f fn hf hfn => by
      obtain rfl : f = 4 := Option.some.inj ((show Tryd.prog.funcNamed "satchel/satchellaw11.FrameReads" = some 4 by kernel_rfl).symm.trans hf) |>.symm
      obtain rfl : fn = Tryd.f4 := (Option.some.inj (Tryd.func4.symm.trans hfn)).symm
      exact ⟨by kernel_rfl, fun j t ht => by
        rw [Tryd.params4] at ht
        have hm : t ∈ ([22] : List TypeId) := by simpa using Array.mem_of_getElem? ht
        have hall : (([22] : List TypeId).all fun u => !Tryd.prog.wantsStandIn u) = true := by kernel_rfl
        exact (show Tryd.prog.wantsStandIn t = false by simpa using List.all_eq_true.1 hall t hm)⟩)
    (by kernel_rfl)
#print axioms proved
end Go.Proofs.YtlmcjfcfmcdcpaaDoor.frameReads
