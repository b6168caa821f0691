/-
 The law PackHonest of the layer pack holds of the code: for all inputs the call returns true, and the arguments read as they did. No condition; the package variables that it reads are as the program's text lays them (the card ties them).
-/
import Derived.Test.YtidjfojcifjdjaaDoorCo
import Derived.Test.YtidjfojcifjdjaaDoorSycp
import Derived.Test.YtidjfojcifjdjaaDoorQh
import Derived.Test.YtidjfojcifjdjaaDoorP0
import Derived.Test.YtidjfojcifjdjaaDoorPa
import Derived.Test.YtidjfojcifjdjaaDoorPm
import Derived.Test.YtidjfojcifjdjaaDoorPl
import Derived.Test.YtidjfojcifjdjaaDoorPu
import Derived.Test.YtidjfojcifjdjaaDoorPq
import Derived.Test.YtidjfojcifjdjaaDoorPg
import Derived.Test.YtidjfojcifjdjaaDoorPb
import Derived.Test.YtidjfojcifjdjaaDoorPb2
import Derived.Test.YtidjfojcifjdjaaDoorPs
import Derived.Test.YtidjfojcifjdjaaDoorPt2
import Derived.Test.YtidjfojcifjdjaaDoorPh1
import Derived.Test.YtidjfojcifjdjaaDoorPw
import Derived.Test.YtidjfojcifjdjaaDoorCards
import Derived.Test.YtidjfojcifjdjaaDoorTie
import Derived.SevenTiedAt
import Derived.WalkKit
import Derived.ProofKit
import Derived.OpenShut
set_option linter.unusedSimpArgs false
set_option linter.unusedVariables false
namespace Go.Proofs.YtidjfojcifjdjaaDoor.packHonest
open Go.ChangeShapes Go.WideShapes Go.ChangeAt Go.RowKit Go.Ev Go.Proofs.YtidjfojcifjdjaaDoor.Co Go.Proofs.YtidjfojcifjdjaaDoor.Qh Go.Proofs.YtidjfojcifjdjaaDoor.P0 Go.Proofs.YtidjfojcifjdjaaDoor.Pa Go.Proofs.YtidjfojcifjdjaaDoor.Pm Go.Proofs.YtidjfojcifjdjaaDoor.Pl Go.Proofs.YtidjfojcifjdjaaDoor.Pn Go.Proofs.YtidjfojcifjdjaaDoor.Pt3 Go.Proofs.YtidjfojcifjdjaaDoor.Pu Go.Proofs.YtidjfojcifjdjaaDoor.Puo Go.Proofs.YtidjfojcifjdjaaDoor.Pq Go.Proofs.YtidjfojcifjdjaaDoor.Pqo Go.Proofs.YtidjfojcifjdjaaDoor.Pg Go.Proofs.YtidjfojcifjdjaaDoor.Pb Go.Proofs.YtidjfojcifjdjaaDoor.Pb2 Go.Proofs.YtidjfojcifjdjaaDoor.Ps4 Go.Proofs.YtidjfojcifjdjaaDoor.Ps Go.Proofs.YtidjfojcifjdjaaDoor.Pc4 Go.Proofs.YtidjfojcifjdjaaDoor.Pt2 Go.Proofs.YtidjfojcifjdjaaDoor.Ph1 Go.Proofs.YtidjfojcifjdjaaDoor.Pw

def om (len0 cap0 : Nat) (zs0 : List Int) : Om := ⟨fun _ => .bool false, fun i => if i = 0 then .int len0 else if i = 1 then .int cap0 else if i = 2 then D.ofInts zs0 else .int 0, F⟩
theorem om_0 (len0 cap0 : Nat) (zs0 : List Int) : (om len0 cap0 zs0).d 0 = .int len0 := rfl
theorem om_1 (len0 cap0 : Nat) (zs0 : List Int) : (om len0 cap0 zs0).d 1 = .int cap0 := rfl
theorem om_2 (len0 cap0 : Nat) (zs0 : List Int) : (om len0 cap0 zs0).d 2 = D.ofInts zs0 := rfl
theorem om_f (len0 cap0 : Nat) (zs0 : List Int) : (om len0 cap0 zs0).f = F := rfl

def c_emp_t0 : List (Q × Bool) := []
set_option maxRecDepth 100000 in
theorem c_emp_y0 : yesOf Tryd.prog (knownV (tellA c_emp_t0) tabS specsS oversS) 8000 80 9 [.empty] (globSt g0) = true := by kernel_rfl
set_option maxRecDepth 100000 in
set_option maxHeartbeats 6000000 in
theorem c_emp_walk {W : World} {v0 : Value} (hv0 : ∀ e : Env, VR e .empty v0) (hG : GlobsR (om 0 0 []) W g0) : Calls Tryd.prog 9 #[v0] W fun e w' => e = .returned (.bool true) ∧ Below W.heap.size W w' := by
 have r0 := Rel.globs (om 0 0 []) W g0 hG
 have hargs : VRs (Env.none (om 0 0 []) W) [.empty] [v0] := VRs_cons (hv0 _) (VRs_nil)
 refine calls_of_yesV sound tabS_ok specsS_ok oversS_ok c_emp_y0 rfl (tellA_ok (allTold'_iff.1 ?_)) r0 hargs
 simp only [c_emp_t0, om_0, om_1, om_2, om_f, tl]

abbrev as0 : Q × Bool := ((.fit .i64 (.var 0)), true)
abbrev as1 : Q × Bool := ((.le (.var 0) (.int 6000)), false)
def c_in_t0 : List (Q × Bool) := [as0, as1]
set_option maxRecDepth 100000 in
theorem c_in_y0 : yesOf Tryd.prog (knownV (tellA c_in_t0) tabS specsS oversS) 8000 80 9 [.sslice 1 (.int 0) (.var 0) (.var 1) false] ((globSt g0).newO (.eseq ⟨.u8, .var 0, .var 2⟩)) = true := by kernel_rfl
abbrev as2 : Q × Bool := ((.le (.var 0) (.int 6000)), true)
abbrev as3 : Q × Bool := ((.le (.bi .add (.int 0) (.var 0)) (.var 0)), true)
abbrev as4 : Q × Bool := ((.le (.var 0) (.int 20000)), true)
abbrev as5 : Q × Bool := ((.same (.un .code (.var 2)) (.un .code (.fn 16 (.bi .pair (.int 56) (.bi .pair (.var 2) (.int 0)))))), true)
abbrev as6 : Q × Bool := ((.eq (.fn 68 (.bi .pair (.var 2) (.bi .pair (.int 0) (.bi .pair (.var 0) (.bi .pair (.int 0) (.int 0)))))) (.int 0)), true)
abbrev as7 : Q × Bool := ((.le (.int 1) (.un .len (.fn 65 (.bi .pair (.var 2) (.bi .pair (.int 0) (.bi .pair (.var 0) (.bi .pair (.int 0) (.int 0)))))))), false)
abbrev as8 : Q × Bool := ((.le (.int 0) (.fn 66 (.bi .pair (.var 2) (.bi .pair (.int 0) (.bi .pair (.var 0) (.bi .pair (.int 0) (.int 0))))))), true)
abbrev as9 : Q × Bool := ((.le (.fn 66 (.bi .pair (.var 2) (.bi .pair (.int 0) (.bi .pair (.var 0) (.bi .pair (.int 0) (.int 0)))))) (.var 0)), true)
abbrev as10 : Q × Bool := ((.le (.int 0) (.fn 67 (.bi .pair (.var 2) (.bi .pair (.int 0) (.bi .pair (.var 0) (.bi .pair (.int 0) (.int 0))))))), true)
abbrev as11 : Q × Bool := ((.eq (.fn 66 (.bi .pair (.var 2) (.bi .pair (.int 0) (.bi .pair (.var 0) (.bi .pair (.int 0) (.int 0)))))) (.var 0)), true)
def c_in_t1 : List (Q × Bool) := [as0, as2, as3, as4, as5, as6, as7, as8, as9, as10, as11]
set_option maxRecDepth 100000 in
theorem c_in_y1 : yesOf Tryd.prog (knownV (tellA c_in_t1) tabS specsS oversS) 8000 80 9 [.sslice 1 (.int 0) (.var 0) (.var 1) false] ((globSt g0).newO (.eseq ⟨.u8, .var 0, .var 2⟩)) = true := by kernel_rfl
abbrev as12 : Q × Bool := ((.le (.int 1) (.un .len (.fn 65 (.bi .pair (.var 2) (.bi .pair (.int 0) (.bi .pair (.var 0) (.bi .pair (.int 0) (.int 0)))))))), true)
abbrev as13 : Q × Bool := ((.le (.int 0) (.un .len (.fn 65 (.bi .pair (.var 2) (.bi .pair (.int 0) (.bi .pair (.var 0) (.bi .pair (.int 0) (.int 0)))))))), true)
abbrev as14 : Q × Bool := ((.eq (.int 0) (.fn 80 (.bi .pair (.fn 65 (.bi .pair (.var 2) (.bi .pair (.int 0) (.bi .pair (.var 0) (.bi .pair (.int 0) (.int 0)))))) (.bi .pair (.int 0) (.int 0))))), true)
abbrev as15 : Q × Bool := ((.le (.fn 80 (.bi .pair (.fn 65 (.bi .pair (.var 2) (.bi .pair (.int 0) (.bi .pair (.var 0) (.bi .pair (.int 0) (.int 0)))))) (.bi .pair (.un .len (.fn 65 (.bi .pair (.var 2) (.bi .pair (.int 0) (.bi .pair (.var 0) (.bi .pair (.int 0) (.int 0))))))) (.int 0)))) (.fn 66 (.bi .pair (.var 2) (.bi .pair (.int 0) (.bi .pair (.var 0) (.bi .pair (.int 0) (.int 0))))))), true)
def c_in_t2 : List (Q × Bool) := [as0, as2, as3, as4, as5, as6, as12, as13, as14, as15, as9, as10, as11]
set_option maxRecDepth 100000 in
theorem c_in_y2 : yesOf Tryd.prog (knownV (tellA c_in_t2) tabS specsS oversS) 8000 80 9 [.sslice 1 (.int 0) (.var 0) (.var 1) false] ((globSt g0).newO (.eseq ⟨.u8, .var 0, .var 2⟩)) = true := by kernel_rfl
abbrev as16 : Q × Bool := ((.eq (.fn 68 (.bi .pair (.var 2) (.bi .pair (.int 0) (.bi .pair (.var 0) (.bi .pair (.int 0) (.int 0)))))) (.int 0)), false)
abbrev as17 : Q × Bool := ((.eq (.fn 79 (.bi .pair (.var 2) (.bi .pair (.int 0) (.bi .pair (.var 0) (.bi .pair (.int 0) (.int 0)))))) (.int 0)), false)
abbrev as18 : Q × Bool := ((.eq (.fn 66 (.bi .pair (.var 2) (.bi .pair (.int 0) (.bi .pair (.var 0) (.bi .pair (.int 0) (.int 0)))))) (.var 0)), false)
abbrev as19 : Q × Bool := ((.le (.int 0) (.fn 79 (.bi .pair (.var 2) (.bi .pair (.int 0) (.bi .pair (.var 0) (.bi .pair (.int 0) (.int 0))))))), true)
abbrev as20 : Q × Bool := ((.le (.fn 79 (.bi .pair (.var 2) (.bi .pair (.int 0) (.bi .pair (.var 0) (.bi .pair (.int 0) (.int 0)))))) (.int 2)), true)
def c_in_t3 : List (Q × Bool) := [as0, as2, as3, as4, as5, as16, as7, as8, as9, as10, as17, as18, as19, as20]
set_option maxRecDepth 100000 in
theorem c_in_y3 : yesOf Tryd.prog (knownV (tellA c_in_t3) tabS specsS oversS) 8000 80 9 [.sslice 1 (.int 0) (.var 0) (.var 1) false] ((globSt g0).newO (.eseq ⟨.u8, .var 0, .var 2⟩)) = true := by kernel_rfl
def c_in_t4 : List (Q × Bool) := [as0, as2, as3, as4, as5, as16, as12, as13, as14, as15, as9, as10, as17, as18, as19, as20]
set_option maxRecDepth 100000 in
theorem c_in_y4 : yesOf Tryd.prog (knownV (tellA c_in_t4) tabS specsS oversS) 8000 80 9 [.sslice 1 (.int 0) (.var 0) (.var 1) false] ((globSt g0).newO (.eseq ⟨.u8, .var 0, .var 2⟩)) = true := by kernel_rfl
set_option maxRecDepth 100000 in
set_option maxHeartbeats 6000000 in
theorem c_in_walk {W : World} {v0 : Value} {b0 off0 len0 cap0 : Nat} {zs0 : List Int} (h0 : InSlice W .u8 v0 b0 off0 len0 cap0 zs0) (hG : GlobsR (om len0 cap0 zs0) W g0) : Calls Tryd.prog 9 #[v0] W fun e w' => e = .returned (.bool true) ∧ Below W.heap.size W w' := by
 have r0 := Rel.globs (om len0 cap0 zs0) W g0 hG
 obtain ⟨le0, r1, x0⟩ := h0.open r0 (l := 0) (c := 1) (x := 2) rfl rfl rfl
 have pos0 := h0.pos
 have lec0 := h0.le
 have max0 := h0.max
 have zl0 := h0.len
 have rng0 := h0.rng
 have hargs : VRs _ [.sslice 1 (.int 0) (.var 0) (.var 1) false] [v0] := VRs_cons (x0) (VRs_nil)
 by_cases h : 6000 < len0
 ·refine calls_of_yesV sound tabS_ok specsS_ok oversS_ok c_in_y0 rfl (tellA_ok (allTold'_iff.1 ?_)) r1 hargs
  simp only [c_in_t0, om_0, om_1, om_2, om_f, tl]
  omega
 ·have hz := prt_length (x := zs0) (o := 0) (t := 0 + len0) (by omega) (by omega) (by omega)
  have hj := scanI_in (x := zs0) (o := 0) (l := len0) (p := 0) (by omega) (by omega) (by omega) (by omega)
  have hw := scan_whole (prt zs0 0 (0 + (len0 : Int))) ((prt zs0 0 (0 + (len0 : Int))).length + 1) 0 (by omega) (by omega) (by omega)
  have hc := chain_end (scan_chain (prt zs0 0 (0 + (len0 : Int))) ((prt zs0 0 (0 + (len0 : Int))).length + 1) 0 (by omega))
  rw [show scanN ((prt zs0 0 (0 + (len0 : Int))).length + 1) (prt zs0 0 (0 + (len0 : Int))) 0 = scanI (prt zs0 0 (0 + (len0 : Int))) 0 from rfl] at hw hc
  have hr := rest_in (n := (scanI (prt zs0 0 (0 + (len0 : Int))) 0).rest) (by omega)
  by_cases w : (scanI (prt zs0 0 (0 + (len0 : Int))) 0).rest = 0
  ·have hw := hw.1 w
   by_cases f : 1 ≤ ((scanI (prt zs0 0 (0 + (len0 : Int))) 0).l.length : Int)
   ·refine calls_of_yesV sound tabS_ok specsS_ok oversS_ok c_in_y2 rfl (tellA_ok (allTold'_iff.1 ?_)) r1 hargs
    simp only [c_in_t2, om_0, om_1, om_2, om_f, F65, F66, F67, F68, F79, F80, F16, ints_list, List.length_map, endH_zero, D.toList_list, D.ints_ofInts, tl]
    first | omega | (simp only [and_true, true_and]; omega) | (and_intros <;> first | exact True.intro | rfl | omega | (simp; done))
   ·refine calls_of_yesV sound tabS_ok specsS_ok oversS_ok c_in_y1 rfl (tellA_ok (allTold'_iff.1 ?_)) r1 hargs
    simp only [c_in_t1, om_0, om_1, om_2, om_f, F65, F66, F67, F68, F79, F80, F16, ints_list, List.length_map, endH_zero, D.toList_list, D.ints_ofInts, tl]
    first | omega | (simp only [and_true, true_and]; omega) | (and_intros <;> first | exact True.intro | rfl | omega | (simp; done))
  ·have hw : ¬ (scanI (prt zs0 0 (0 + (len0 : Int))) 0).size = (prt zs0 0 (0 + (len0 : Int))).length := fun h => w (hw.2 h)
   have hr := hr w
   by_cases f : 1 ≤ ((scanI (prt zs0 0 (0 + (len0 : Int))) 0).l.length : Int)
   ·refine calls_of_yesV sound tabS_ok specsS_ok oversS_ok c_in_y4 rfl (tellA_ok (allTold'_iff.1 ?_)) r1 hargs
    simp only [c_in_t4, om_0, om_1, om_2, om_f, F65, F66, F67, F68, F79, F80, F16, ints_list, List.length_map, endH_zero, D.toList_list, D.ints_ofInts, tl]
    first | omega | (simp only [and_true, true_and]; omega) | (and_intros <;> first | exact True.intro | rfl | omega | (simp; done))
   ·refine calls_of_yesV sound tabS_ok specsS_ok oversS_ok c_in_y3 rfl (tellA_ok (allTold'_iff.1 ?_)) r1 hargs
    simp only [c_in_t3, om_0, om_1, om_2, om_f, F65, F66, F67, F68, F79, F80, F16, ints_list, List.length_map, endH_zero, D.toList_list, D.ints_ofInts, tl]
    first | omega | (simp only [and_true, true_and]; omega) | (and_intros <;> first | exact True.intro | rfl | omega | (simp; done))

theorem underS22 : Tryd.prog.underlying 22 = some (.slice 5) := by kernel_rfl
theorem underE5 : Tryd.prog.underlying 5 = some (.int .u8) := by kernel_rfl
theorem cellsE5 : Tryd.prog.cellsOf 5 = 1 := by kernel_rfl

set_option maxRecDepth 100000 in
theorem lifted (os : Os) (started : os.Started) (H : Type) (enc : TypeId × Value → H) :
  ReturnsInHanded {} Tryd.checked os 9 .any (fun w args => (Rows.packHonestSpec.pre enc Tryd.prog Tryd.f9 [] false w args ∧ laidMetH Tryd.prog laidL w) ∧ sizedMet enc Tryd.prog Tryd.f9 (OpenSpec.ofChange Rows.packHonestSpec) false w args)
   (Rows.packHonestSpec.post enc Tryd.prog Tryd.f9 false true false false) := by
 refine returnsInHanded_of_change_and (C := Tryd.checked) (X := fun w _ => laidMetH Tryd.prog laidL w) (fun _ _ _ hh h => h.of_heap hh) own started (by kernel_rfl) Tryd.func9
  (ChangeSpec.witness_shaped (enc := enc) (C := Tryd.checked) (os := os) (X := fun w _ => laidMetH Tryd.prog laidL w) false (World.doorLaid Tryd.prog 400 os) #[.slice none 0 0] 8 rfl (World.shaped_of_RefB (by kernel_rfl) (by kernel_rfl)) (by kernel_rfl) (by kernel_rfl) (by kernel_rfl) (door_met os _)) ?_
 intro W base args ds gs before hval0 hW _ _ hL _
 have hval : ∀ (j : Nat) t v, Tryd.f9.params[j]? = some t → args[j]? = some v → Value.okWide Tryd.prog W .any base t v := hval0
 have hW' := hW
 have hlt := hW.lt
 obtain ⟨p, q, hA0, hV, rfl, hfz, hnd⟩ := hW
 have hA : DataW.TrodAll enc Tryd.prog W 0 (fun _ => true) true Tryd.f9.params.toList args.toList ds p := hA0
 have hAll := hA
 rw [Tryd.params9] at hA hval hAll
 obtain ⟨rfl, rfl⟩ := trodVars_none hV
 obtain ⟨pv0, d0, rfl, rfl, h0⟩ := trodAll_one hA
 have s0 := in_slice (k := .u8) underS22 underE5 cellsE5 (hval 0 22 _ rfl rfl) h0
 clear hA0 hval0
 have hcall : Calls Tryd.prog 9 #[pv0] W fun e w' => e = .returned (.bool true) ∧ Below W.heap.size W w' := by
  rcases s0 with rfl | ⟨a0, c0, rfl⟩ | ⟨_, _, _, _, _, s0⟩
  ·exact c_emp_walk (fun _ => vr_emptyN) (globs0 _ hL)
  ·exact c_emp_walk (fun _ => vr_emptyH a0 c0) (globs0 _ hL)
  ·exact c_in_walk s0 (globs0 _ hL)
 refine hcall.mono fun e W' ⟨he, hg⟩ => ?_
 subst he
 exact ⟨_, rfl, _, [], _, [], _, [], hW', trodAll_cons_mk (shut_bool Tryd.underlying4 _) trodAll_mk0, trodAll_stays laid hg _ _ _ _ hAll (fun x hx => hlt x (by simpa using hx)) (by kernel_rfl), rfl, hg.frame _, fun h => by cases h⟩

theorem over : Rows.packHonestRow.holds Tryd.pinned (OpenSpec.ofChange Rows.packHonestSpec) :=
 OpenClaim.holds_of_wide 9 Tryd.f9 rfl rfl rfl rfl rfl rfl rfl ⟨rfl, rfl, rfl, rfl, rfl⟩ rfl rfl rfl rfl rfl (by kernel_rfl) Tryd.func9 (by kernel_rfl)
  (of_decide_eq_true (by kernel_rfl)) (by unfold Func.isWrapper; first | (rw [if_pos (by decide +kernel)]; kernel_rfl) | (rw [if_neg (by decide +kernel)]; exact ⟨rfl, rfl⟩))
  (fun os started H enc _ => lifted os started H enc)

theorem proved : Rows.PackHonestCardSaid :=
 Claim7.holds_tied_plain_at .later [] [.data] true (true, "52efef33b2a9fb46a90e9c7ce2784e6524408f1832c9027874ac55aeda9878d3") false
  over (fun _ h => by cases h) (by kernel_rfl) (fun _ h => by cases h) packHonest_row_tie rfl ⟨rfl, rfl⟩ (by kernel_rfl) rfl
  (fun f fn hf hfn => by
   obtain rfl : f = 9 := Option.some.inj ((show Tryd.prog.funcNamed "satchel/satchellaw17.PackHonest" = some 9 by kernel_rfl).symm.trans hf) |>.symm
   obtain rfl : fn = Tryd.f9 := (Option.some.inj (Tryd.func9.symm.trans hfn)).symm
   exact ⟨by kernel_rfl, fun j t ht => by
    rw [Tryd.params9] at ht
    have hm : t ∈ ([22] : List TypeId) := by simpa using Array.mem_of_getElem? ht
    have hall : (([22] : List TypeId).all fun u => !Tryd.prog.wantsStandIn u) = true := by kernel_rfl
    exact (show Tryd.prog.wantsStandIn t = false by simpa using List.all_eq_true.1 hall t hm)⟩)
  (by kernel_rfl)
#print axioms proved
end Go.Proofs.YtidjfojcifjdjaaDoor.packHonest
