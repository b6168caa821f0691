/-
  The law DigestSums of the layer digest holds of the code: for all inputs the call returns true, and the arguments read as they did. No condition; the package variables that it reads are as the program's text lays them (the card ties them).
-/
import Derived.Test.YtblgmhghpcpmdaaDoorCo
import Derived.Test.YtblgmhghpcpmdaaDoorSycp
import Derived.Test.YtblgmhghpcpmdaaDoorDs
import Derived.Test.YtblgmhghpcpmdaaDoorDp
import Derived.Test.YtblgmhghpcpmdaaDoorDu
import Derived.Test.YtblgmhghpcpmdaaDoorDq
import Derived.Test.YtblgmhghpcpmdaaDoorDr
import Derived.Test.YtblgmhghpcpmdaaDoorCards
import Derived.Test.YtblgmhghpcpmdaaDoorTie
import Derived.SevenTiedAt
import Derived.WalkKit
import Derived.ProofKit
import Derived.OpenShut
set_option linter.unusedSimpArgs false
set_option linter.unusedVariables false
namespace Go.Proofs.YtblgmhghpcpmdaaDoor.digestSums
open Go.ChangeShapes Go.WideShapes Go.ChangeAt Go.RowKit Go.Ev Go.Proofs.YtblgmhghpcpmdaaDoor.Co Go.Proofs.YtblgmhghpcpmdaaDoor.Ds Go.Proofs.YtblgmhghpcpmdaaDoor.Dp Go.Proofs.YtblgmhghpcpmdaaDoor.Du Go.Proofs.YtblgmhghpcpmdaaDoor.Dq Go.Proofs.YtblgmhghpcpmdaaDoor.Dr

def om (len0 cap0 : Nat) (zs0 : List Int) : Om := ⟨fun _ => .bool false, fun i => if i = 0 then .int len0 else if i = 1 then .int cap0 else if i = 2 then D.ofInts zs0 else .int 0, F⟩
theorem om_0 (len0 cap0 : Nat) (zs0 : List Int) : (om len0 cap0 zs0).d 0 = .int len0 := rfl
theorem om_1 (len0 cap0 : Nat) (zs0 : List Int) : (om len0 cap0 zs0).d 1 = .int cap0 := rfl
theorem om_2 (len0 cap0 : Nat) (zs0 : List Int) : (om len0 cap0 zs0).d 2 = D.ofInts zs0 := rfl
theorem om_f (len0 cap0 : Nat) (zs0 : List Int) : (om len0 cap0 zs0).f = F := rfl

abbrev as0 : Q × Bool := ((.le (.bi .add (.int 0) (.int 0)) (.int 3)), true)
abbrev as1 : Q × Bool := ((.eq (.bi .sel (.fn 10 (.bi .pair (.lits [160, 161, 162]) (.bi .pair (.int 0) (.bi .pair (.int 0) (.int 0))))) (.int 0)) (.bi .sel (.fn 10 (.bi .pair (.lits []) (.bi .pair (.int 0) (.bi .pair (.int 0) (.int 0))))) (.int 0))), true)
abbrev as2 : Q × Bool := ((.eq (.bi .sel (.fn 10 (.bi .pair (.lits [160, 161, 162]) (.bi .pair (.int 0) (.bi .pair (.int 0) (.int 0))))) (.int 1)) (.bi .sel (.fn 10 (.bi .pair (.lits []) (.bi .pair (.int 0) (.bi .pair (.int 0) (.int 0))))) (.int 1))), true)
abbrev as3 : Q × Bool := ((.eq (.bi .sel (.fn 10 (.bi .pair (.lits [160, 161, 162]) (.bi .pair (.int 0) (.bi .pair (.int 0) (.int 0))))) (.int 2)) (.bi .sel (.fn 10 (.bi .pair (.lits []) (.bi .pair (.int 0) (.bi .pair (.int 0) (.int 0))))) (.int 2))), true)
abbrev as4 : Q × Bool := ((.eq (.bi .sel (.fn 10 (.bi .pair (.lits [160, 161, 162]) (.bi .pair (.int 0) (.bi .pair (.int 0) (.int 0))))) (.int 3)) (.bi .sel (.fn 10 (.bi .pair (.lits []) (.bi .pair (.int 0) (.bi .pair (.int 0) (.int 0))))) (.int 3))), true)
abbrev as5 : Q × Bool := ((.eq (.bi .sel (.fn 10 (.bi .pair (.lits [160, 161, 162]) (.bi .pair (.int 0) (.bi .pair (.int 0) (.int 0))))) (.int 4)) (.bi .sel (.fn 10 (.bi .pair (.lits []) (.bi .pair (.int 0) (.bi .pair (.int 0) (.int 0))))) (.int 4))), true)
abbrev as6 : Q × Bool := ((.eq (.bi .sel (.fn 10 (.bi .pair (.lits [160, 161, 162]) (.bi .pair (.int 0) (.bi .pair (.int 0) (.int 0))))) (.int 5)) (.bi .sel (.fn 10 (.bi .pair (.lits []) (.bi .pair (.int 0) (.bi .pair (.int 0) (.int 0))))) (.int 5))), true)
abbrev as7 : Q × Bool := ((.eq (.bi .sel (.fn 10 (.bi .pair (.lits [160, 161, 162]) (.bi .pair (.int 0) (.bi .pair (.int 0) (.int 0))))) (.int 6)) (.bi .sel (.fn 10 (.bi .pair (.lits []) (.bi .pair (.int 0) (.bi .pair (.int 0) (.int 0))))) (.int 6))), true)
abbrev as8 : Q × Bool := ((.eq (.bi .sel (.fn 10 (.bi .pair (.lits [160, 161, 162]) (.bi .pair (.int 0) (.bi .pair (.int 0) (.int 0))))) (.int 7)) (.bi .sel (.fn 10 (.bi .pair (.lits []) (.bi .pair (.int 0) (.bi .pair (.int 0) (.int 0))))) (.int 7))), true)
abbrev as9 : Q × Bool := ((.eq (.bi .sel (.fn 10 (.bi .pair (.lits [160, 161, 162]) (.bi .pair (.int 0) (.bi .pair (.int 0) (.int 0))))) (.int 8)) (.bi .sel (.fn 10 (.bi .pair (.lits []) (.bi .pair (.int 0) (.bi .pair (.int 0) (.int 0))))) (.int 8))), true)
abbrev as10 : Q × Bool := ((.eq (.bi .sel (.fn 10 (.bi .pair (.lits [160, 161, 162]) (.bi .pair (.int 0) (.bi .pair (.int 0) (.int 0))))) (.int 9)) (.bi .sel (.fn 10 (.bi .pair (.lits []) (.bi .pair (.int 0) (.bi .pair (.int 0) (.int 0))))) (.int 9))), true)
abbrev as11 : Q × Bool := ((.eq (.bi .sel (.fn 10 (.bi .pair (.lits [160, 161, 162]) (.bi .pair (.int 0) (.bi .pair (.int 0) (.int 0))))) (.int 10)) (.bi .sel (.fn 10 (.bi .pair (.lits []) (.bi .pair (.int 0) (.bi .pair (.int 0) (.int 0))))) (.int 10))), true)
abbrev as12 : Q × Bool := ((.eq (.bi .sel (.fn 10 (.bi .pair (.lits [160, 161, 162]) (.bi .pair (.int 0) (.bi .pair (.int 0) (.int 0))))) (.int 11)) (.bi .sel (.fn 10 (.bi .pair (.lits []) (.bi .pair (.int 0) (.bi .pair (.int 0) (.int 0))))) (.int 11))), true)
abbrev as13 : Q × Bool := ((.eq (.bi .sel (.fn 10 (.bi .pair (.lits [160, 161, 162]) (.bi .pair (.int 0) (.bi .pair (.int 0) (.int 0))))) (.int 12)) (.bi .sel (.fn 10 (.bi .pair (.lits []) (.bi .pair (.int 0) (.bi .pair (.int 0) (.int 0))))) (.int 12))), true)
abbrev as14 : Q × Bool := ((.eq (.bi .sel (.fn 10 (.bi .pair (.lits [160, 161, 162]) (.bi .pair (.int 0) (.bi .pair (.int 0) (.int 0))))) (.int 13)) (.bi .sel (.fn 10 (.bi .pair (.lits []) (.bi .pair (.int 0) (.bi .pair (.int 0) (.int 0))))) (.int 13))), true)
abbrev as15 : Q × Bool := ((.eq (.bi .sel (.fn 10 (.bi .pair (.lits [160, 161, 162]) (.bi .pair (.int 0) (.bi .pair (.int 0) (.int 0))))) (.int 14)) (.bi .sel (.fn 10 (.bi .pair (.lits []) (.bi .pair (.int 0) (.bi .pair (.int 0) (.int 0))))) (.int 14))), true)
abbrev as16 : Q × Bool := ((.eq (.bi .sel (.fn 10 (.bi .pair (.lits [160, 161, 162]) (.bi .pair (.int 0) (.bi .pair (.int 0) (.int 0))))) (.int 15)) (.bi .sel (.fn 10 (.bi .pair (.lits []) (.bi .pair (.int 0) (.bi .pair (.int 0) (.int 0))))) (.int 15))), true)
abbrev as17 : Q × Bool := ((.eq (.bi .sel (.fn 10 (.bi .pair (.lits [160, 161, 162]) (.bi .pair (.int 0) (.bi .pair (.int 0) (.int 0))))) (.int 16)) (.bi .sel (.fn 10 (.bi .pair (.lits []) (.bi .pair (.int 0) (.bi .pair (.int 0) (.int 0))))) (.int 16))), true)
abbrev as18 : Q × Bool := ((.eq (.bi .sel (.fn 10 (.bi .pair (.lits [160, 161, 162]) (.bi .pair (.int 0) (.bi .pair (.int 0) (.int 0))))) (.int 17)) (.bi .sel (.fn 10 (.bi .pair (.lits []) (.bi .pair (.int 0) (.bi .pair (.int 0) (.int 0))))) (.int 17))), true)
abbrev as19 : Q × Bool := ((.eq (.bi .sel (.fn 10 (.bi .pair (.lits [160, 161, 162]) (.bi .pair (.int 0) (.bi .pair (.int 0) (.int 0))))) (.int 18)) (.bi .sel (.fn 10 (.bi .pair (.lits []) (.bi .pair (.int 0) (.bi .pair (.int 0) (.int 0))))) (.int 18))), true)
abbrev as20 : Q × Bool := ((.eq (.bi .sel (.fn 10 (.bi .pair (.lits [160, 161, 162]) (.bi .pair (.int 0) (.bi .pair (.int 0) (.int 0))))) (.int 19)) (.bi .sel (.fn 10 (.bi .pair (.lits []) (.bi .pair (.int 0) (.bi .pair (.int 0) (.int 0))))) (.int 19))), true)
abbrev as21 : Q × Bool := ((.eq (.bi .sel (.fn 10 (.bi .pair (.lits [160, 161, 162]) (.bi .pair (.int 0) (.bi .pair (.int 0) (.int 0))))) (.int 20)) (.bi .sel (.fn 10 (.bi .pair (.lits []) (.bi .pair (.int 0) (.bi .pair (.int 0) (.int 0))))) (.int 20))), true)
abbrev as22 : Q × Bool := ((.eq (.bi .sel (.fn 10 (.bi .pair (.lits [160, 161, 162]) (.bi .pair (.int 0) (.bi .pair (.int 0) (.int 0))))) (.int 21)) (.bi .sel (.fn 10 (.bi .pair (.lits []) (.bi .pair (.int 0) (.bi .pair (.int 0) (.int 0))))) (.int 21))), true)
abbrev as23 : Q × Bool := ((.eq (.bi .sel (.fn 10 (.bi .pair (.lits [160, 161, 162]) (.bi .pair (.int 0) (.bi .pair (.int 0) (.int 0))))) (.int 22)) (.bi .sel (.fn 10 (.bi .pair (.lits []) (.bi .pair (.int 0) (.bi .pair (.int 0) (.int 0))))) (.int 22))), true)
abbrev as24 : Q × Bool := ((.eq (.bi .sel (.fn 10 (.bi .pair (.lits [160, 161, 162]) (.bi .pair (.int 0) (.bi .pair (.int 0) (.int 0))))) (.int 23)) (.bi .sel (.fn 10 (.bi .pair (.lits []) (.bi .pair (.int 0) (.bi .pair (.int 0) (.int 0))))) (.int 23))), true)
abbrev as25 : Q × Bool := ((.eq (.bi .sel (.fn 10 (.bi .pair (.lits [160, 161, 162]) (.bi .pair (.int 0) (.bi .pair (.int 0) (.int 0))))) (.int 24)) (.bi .sel (.fn 10 (.bi .pair (.lits []) (.bi .pair (.int 0) (.bi .pair (.int 0) (.int 0))))) (.int 24))), true)
abbrev as26 : Q × Bool := ((.eq (.bi .sel (.fn 10 (.bi .pair (.lits [160, 161, 162]) (.bi .pair (.int 0) (.bi .pair (.int 0) (.int 0))))) (.int 25)) (.bi .sel (.fn 10 (.bi .pair (.lits []) (.bi .pair (.int 0) (.bi .pair (.int 0) (.int 0))))) (.int 25))), true)
abbrev as27 : Q × Bool := ((.eq (.bi .sel (.fn 10 (.bi .pair (.lits [160, 161, 162]) (.bi .pair (.int 0) (.bi .pair (.int 0) (.int 0))))) (.int 26)) (.bi .sel (.fn 10 (.bi .pair (.lits []) (.bi .pair (.int 0) (.bi .pair (.int 0) (.int 0))))) (.int 26))), true)
abbrev as28 : Q × Bool := ((.eq (.bi .sel (.fn 10 (.bi .pair (.lits [160, 161, 162]) (.bi .pair (.int 0) (.bi .pair (.int 0) (.int 0))))) (.int 27)) (.bi .sel (.fn 10 (.bi .pair (.lits []) (.bi .pair (.int 0) (.bi .pair (.int 0) (.int 0))))) (.int 27))), true)
abbrev as29 : Q × Bool := ((.eq (.bi .sel (.fn 10 (.bi .pair (.lits [160, 161, 162]) (.bi .pair (.int 0) (.bi .pair (.int 0) (.int 0))))) (.int 28)) (.bi .sel (.fn 10 (.bi .pair (.lits []) (.bi .pair (.int 0) (.bi .pair (.int 0) (.int 0))))) (.int 28))), true)
abbrev as30 : Q × Bool := ((.eq (.bi .sel (.fn 10 (.bi .pair (.lits [160, 161, 162]) (.bi .pair (.int 0) (.bi .pair (.int 0) (.int 0))))) (.int 29)) (.bi .sel (.fn 10 (.bi .pair (.lits []) (.bi .pair (.int 0) (.bi .pair (.int 0) (.int 0))))) (.int 29))), true)
abbrev as31 : Q × Bool := ((.eq (.bi .sel (.fn 10 (.bi .pair (.lits [160, 161, 162]) (.bi .pair (.int 0) (.bi .pair (.int 0) (.int 0))))) (.int 30)) (.bi .sel (.fn 10 (.bi .pair (.lits []) (.bi .pair (.int 0) (.bi .pair (.int 0) (.int 0))))) (.int 30))), true)
abbrev as32 : Q × Bool := ((.eq (.bi .sel (.fn 10 (.bi .pair (.lits [160, 161, 162]) (.bi .pair (.int 0) (.bi .pair (.int 0) (.int 0))))) (.int 31)) (.bi .sel (.fn 10 (.bi .pair (.lits []) (.bi .pair (.int 0) (.bi .pair (.int 0) (.int 0))))) (.int 31))), true)
def c_emp_t0 : List (Q × Bool) := [as0, as1, as2, as3, as4, as5, as6, as7, as8, as9, as10, as11, as12, as13, as14, as15, as16, as17, as18, as19, as20, as21, as22, as23, as24, as25, as26, as27, as28, as29, as30, as31, as32]
set_option maxRecDepth 100000 in
theorem c_emp_y0 : yesOf Tryd.prog (knownV (tellA c_emp_t0) tabS specsS oversS) 8000 80 3 [.empty] (globSt g0) = true := by kernel_rfl
set_option maxRecDepth 100000 in
set_option maxHeartbeats 6000000 in
theorem c_emp_walk {W : World} {v0 : Value} (hv0 : ∀ e : Env, VR e .empty v0) (hG : GlobsR (om 0 0 []) W g0) : Calls Tryd.prog 3 #[v0] W fun e w' => e = .returned (.bool true) ∧ Below W.heap.size W w' := by
  have r0 := Rel.globs (om 0 0 []) W g0 hG
  have hargs : VRs (Env.none (om 0 0 [])) [.empty] [v0] := VRs_cons (hv0 _) (VRs_nil)
  refine calls_of_yesV sound tabS_ok specsS_ok oversS_ok c_emp_y0 rfl (tellA_ok (allTold'_iff.1 ?_)) r0 hargs
  simp only [c_emp_t0, om_0, om_1, om_2, om_f, F10, allTold', dutiesTold, factsA, factsC, factsP, factsR, AV.facts, RW.facts, inK, and_true, Q.holds', E.i, E.s, E.n, D.nat, E.den, BO.den, UO.den, TO.den, D.toInt_int, D.toList_list, D.ints_ofInts, i64min, i64max, u8min, u8max, u16min, u16max, u32min, u32max, u64min, u64max, i32min, i32max, Om.sub, selI, ints_app, ints_cut, ints_upd, ints_rep, ints_splice, ints_seg, len_ints]
  have e : ∀ X : List Int, prt X 0 (0 + 0) = [] := fun X => prt_nil (by omega) (by omega)
  and_intros <;> first | omega | (rw [e, e])

abbrev as33 : Q × Bool := ((.fit .i64 (.var 0)), true)
abbrev as34 : Q × Bool := ((.le (.var 0) (.int 2000)), false)
def c_in_t0 : List (Q × Bool) := [as33, as34]
set_option maxRecDepth 100000 in
theorem c_in_y0 : yesOf Tryd.prog (knownV (tellA c_in_t0) tabS specsS oversS) 8000 80 3 [.sslice 1 (.int 0) (.var 0) (.var 1) false] ((globSt g0).newO (.eseq ⟨.u8, .var 0, .var 2⟩)) = true := by kernel_rfl
abbrev as35 : Q × Bool := ((.le (.var 0) (.int 2000)), true)
abbrev as36 : Q × Bool := ((.le (.bi .add (.int 0) (.var 0)) (.var 0)), true)
abbrev as37 : Q × Bool := ((.le (.var 0) (.int 1000000)), true)
abbrev as38 : Q × Bool := ((.le (.bi .add (.int 0) (.var 0)) (.bi .add (.var 0) (.int 3))), true)
abbrev as39 : Q × Bool := ((.le (.int 1) (.var 0)), true)
abbrev as40 : Q × Bool := ((.le (.var 0) (.int 100000)), true)
abbrev as41 : Q × Bool := ((.eq (.bi .sel (.fn 10 (.bi .pair (.fn 6 (.bi .pair (.var 2) (.bi .pair (.int 0) (.bi .pair (.bi .add (.int 0) (.var 0)) (.int 0))))) (.bi .pair (.int 0) (.bi .pair (.var 0) (.int 0))))) (.int 0)) (.bi .sel (.fn 10 (.bi .pair (.var 2) (.bi .pair (.int 0) (.bi .pair (.var 0) (.int 0))))) (.int 0))), true)
abbrev as42 : Q × Bool := ((.eq (.bi .sel (.fn 10 (.bi .pair (.fn 6 (.bi .pair (.var 2) (.bi .pair (.int 0) (.bi .pair (.bi .add (.int 0) (.var 0)) (.int 0))))) (.bi .pair (.int 0) (.bi .pair (.var 0) (.int 0))))) (.int 1)) (.bi .sel (.fn 10 (.bi .pair (.var 2) (.bi .pair (.int 0) (.bi .pair (.var 0) (.int 0))))) (.int 1))), true)
abbrev as43 : Q × Bool := ((.eq (.bi .sel (.fn 10 (.bi .pair (.fn 6 (.bi .pair (.var 2) (.bi .pair (.int 0) (.bi .pair (.bi .add (.int 0) (.var 0)) (.int 0))))) (.bi .pair (.int 0) (.bi .pair (.var 0) (.int 0))))) (.int 2)) (.bi .sel (.fn 10 (.bi .pair (.var 2) (.bi .pair (.int 0) (.bi .pair (.var 0) (.int 0))))) (.int 2))), true)
abbrev as44 : Q × Bool := ((.eq (.bi .sel (.fn 10 (.bi .pair (.fn 6 (.bi .pair (.var 2) (.bi .pair (.int 0) (.bi .pair (.bi .add (.int 0) (.var 0)) (.int 0))))) (.bi .pair (.int 0) (.bi .pair (.var 0) (.int 0))))) (.int 3)) (.bi .sel (.fn 10 (.bi .pair (.var 2) (.bi .pair (.int 0) (.bi .pair (.var 0) (.int 0))))) (.int 3))), true)
abbrev as45 : Q × Bool := ((.eq (.bi .sel (.fn 10 (.bi .pair (.fn 6 (.bi .pair (.var 2) (.bi .pair (.int 0) (.bi .pair (.bi .add (.int 0) (.var 0)) (.int 0))))) (.bi .pair (.int 0) (.bi .pair (.var 0) (.int 0))))) (.int 4)) (.bi .sel (.fn 10 (.bi .pair (.var 2) (.bi .pair (.int 0) (.bi .pair (.var 0) (.int 0))))) (.int 4))), true)
abbrev as46 : Q × Bool := ((.eq (.bi .sel (.fn 10 (.bi .pair (.fn 6 (.bi .pair (.var 2) (.bi .pair (.int 0) (.bi .pair (.bi .add (.int 0) (.var 0)) (.int 0))))) (.bi .pair (.int 0) (.bi .pair (.var 0) (.int 0))))) (.int 5)) (.bi .sel (.fn 10 (.bi .pair (.var 2) (.bi .pair (.int 0) (.bi .pair (.var 0) (.int 0))))) (.int 5))), true)
abbrev as47 : Q × Bool := ((.eq (.bi .sel (.fn 10 (.bi .pair (.fn 6 (.bi .pair (.var 2) (.bi .pair (.int 0) (.bi .pair (.bi .add (.int 0) (.var 0)) (.int 0))))) (.bi .pair (.int 0) (.bi .pair (.var 0) (.int 0))))) (.int 6)) (.bi .sel (.fn 10 (.bi .pair (.var 2) (.bi .pair (.int 0) (.bi .pair (.var 0) (.int 0))))) (.int 6))), true)
abbrev as48 : Q × Bool := ((.eq (.bi .sel (.fn 10 (.bi .pair (.fn 6 (.bi .pair (.var 2) (.bi .pair (.int 0) (.bi .pair (.bi .add (.int 0) (.var 0)) (.int 0))))) (.bi .pair (.int 0) (.bi .pair (.var 0) (.int 0))))) (.int 7)) (.bi .sel (.fn 10 (.bi .pair (.var 2) (.bi .pair (.int 0) (.bi .pair (.var 0) (.int 0))))) (.int 7))), true)
abbrev as49 : Q × Bool := ((.eq (.bi .sel (.fn 10 (.bi .pair (.fn 6 (.bi .pair (.var 2) (.bi .pair (.int 0) (.bi .pair (.bi .add (.int 0) (.var 0)) (.int 0))))) (.bi .pair (.int 0) (.bi .pair (.var 0) (.int 0))))) (.int 8)) (.bi .sel (.fn 10 (.bi .pair (.var 2) (.bi .pair (.int 0) (.bi .pair (.var 0) (.int 0))))) (.int 8))), true)
abbrev as50 : Q × Bool := ((.eq (.bi .sel (.fn 10 (.bi .pair (.fn 6 (.bi .pair (.var 2) (.bi .pair (.int 0) (.bi .pair (.bi .add (.int 0) (.var 0)) (.int 0))))) (.bi .pair (.int 0) (.bi .pair (.var 0) (.int 0))))) (.int 9)) (.bi .sel (.fn 10 (.bi .pair (.var 2) (.bi .pair (.int 0) (.bi .pair (.var 0) (.int 0))))) (.int 9))), true)
abbrev as51 : Q × Bool := ((.eq (.bi .sel (.fn 10 (.bi .pair (.fn 6 (.bi .pair (.var 2) (.bi .pair (.int 0) (.bi .pair (.bi .add (.int 0) (.var 0)) (.int 0))))) (.bi .pair (.int 0) (.bi .pair (.var 0) (.int 0))))) (.int 10)) (.bi .sel (.fn 10 (.bi .pair (.var 2) (.bi .pair (.int 0) (.bi .pair (.var 0) (.int 0))))) (.int 10))), true)
abbrev as52 : Q × Bool := ((.eq (.bi .sel (.fn 10 (.bi .pair (.fn 6 (.bi .pair (.var 2) (.bi .pair (.int 0) (.bi .pair (.bi .add (.int 0) (.var 0)) (.int 0))))) (.bi .pair (.int 0) (.bi .pair (.var 0) (.int 0))))) (.int 11)) (.bi .sel (.fn 10 (.bi .pair (.var 2) (.bi .pair (.int 0) (.bi .pair (.var 0) (.int 0))))) (.int 11))), true)
abbrev as53 : Q × Bool := ((.eq (.bi .sel (.fn 10 (.bi .pair (.fn 6 (.bi .pair (.var 2) (.bi .pair (.int 0) (.bi .pair (.bi .add (.int 0) (.var 0)) (.int 0))))) (.bi .pair (.int 0) (.bi .pair (.var 0) (.int 0))))) (.int 12)) (.bi .sel (.fn 10 (.bi .pair (.var 2) (.bi .pair (.int 0) (.bi .pair (.var 0) (.int 0))))) (.int 12))), true)
abbrev as54 : Q × Bool := ((.eq (.bi .sel (.fn 10 (.bi .pair (.fn 6 (.bi .pair (.var 2) (.bi .pair (.int 0) (.bi .pair (.bi .add (.int 0) (.var 0)) (.int 0))))) (.bi .pair (.int 0) (.bi .pair (.var 0) (.int 0))))) (.int 13)) (.bi .sel (.fn 10 (.bi .pair (.var 2) (.bi .pair (.int 0) (.bi .pair (.var 0) (.int 0))))) (.int 13))), true)
abbrev as55 : Q × Bool := ((.eq (.bi .sel (.fn 10 (.bi .pair (.fn 6 (.bi .pair (.var 2) (.bi .pair (.int 0) (.bi .pair (.bi .add (.int 0) (.var 0)) (.int 0))))) (.bi .pair (.int 0) (.bi .pair (.var 0) (.int 0))))) (.int 14)) (.bi .sel (.fn 10 (.bi .pair (.var 2) (.bi .pair (.int 0) (.bi .pair (.var 0) (.int 0))))) (.int 14))), true)
abbrev as56 : Q × Bool := ((.eq (.bi .sel (.fn 10 (.bi .pair (.fn 6 (.bi .pair (.var 2) (.bi .pair (.int 0) (.bi .pair (.bi .add (.int 0) (.var 0)) (.int 0))))) (.bi .pair (.int 0) (.bi .pair (.var 0) (.int 0))))) (.int 15)) (.bi .sel (.fn 10 (.bi .pair (.var 2) (.bi .pair (.int 0) (.bi .pair (.var 0) (.int 0))))) (.int 15))), true)
abbrev as57 : Q × Bool := ((.eq (.bi .sel (.fn 10 (.bi .pair (.fn 6 (.bi .pair (.var 2) (.bi .pair (.int 0) (.bi .pair (.bi .add (.int 0) (.var 0)) (.int 0))))) (.bi .pair (.int 0) (.bi .pair (.var 0) (.int 0))))) (.int 16)) (.bi .sel (.fn 10 (.bi .pair (.var 2) (.bi .pair (.int 0) (.bi .pair (.var 0) (.int 0))))) (.int 16))), true)
abbrev as58 : Q × Bool := ((.eq (.bi .sel (.fn 10 (.bi .pair (.fn 6 (.bi .pair (.var 2) (.bi .pair (.int 0) (.bi .pair (.bi .add (.int 0) (.var 0)) (.int 0))))) (.bi .pair (.int 0) (.bi .pair (.var 0) (.int 0))))) (.int 17)) (.bi .sel (.fn 10 (.bi .pair (.var 2) (.bi .pair (.int 0) (.bi .pair (.var 0) (.int 0))))) (.int 17))), true)
abbrev as59 : Q × Bool := ((.eq (.bi .sel (.fn 10 (.bi .pair (.fn 6 (.bi .pair (.var 2) (.bi .pair (.int 0) (.bi .pair (.bi .add (.int 0) (.var 0)) (.int 0))))) (.bi .pair (.int 0) (.bi .pair (.var 0) (.int 0))))) (.int 18)) (.bi .sel (.fn 10 (.bi .pair (.var 2) (.bi .pair (.int 0) (.bi .pair (.var 0) (.int 0))))) (.int 18))), true)
abbrev as60 : Q × Bool := ((.eq (.bi .sel (.fn 10 (.bi .pair (.fn 6 (.bi .pair (.var 2) (.bi .pair (.int 0) (.bi .pair (.bi .add (.int 0) (.var 0)) (.int 0))))) (.bi .pair (.int 0) (.bi .pair (.var 0) (.int 0))))) (.int 19)) (.bi .sel (.fn 10 (.bi .pair (.var 2) (.bi .pair (.int 0) (.bi .pair (.var 0) (.int 0))))) (.int 19))), true)
abbrev as61 : Q × Bool := ((.eq (.bi .sel (.fn 10 (.bi .pair (.fn 6 (.bi .pair (.var 2) (.bi .pair (.int 0) (.bi .pair (.bi .add (.int 0) (.var 0)) (.int 0))))) (.bi .pair (.int 0) (.bi .pair (.var 0) (.int 0))))) (.int 20)) (.bi .sel (.fn 10 (.bi .pair (.var 2) (.bi .pair (.int 0) (.bi .pair (.var 0) (.int 0))))) (.int 20))), true)
abbrev as62 : Q × Bool := ((.eq (.bi .sel (.fn 10 (.bi .pair (.fn 6 (.bi .pair (.var 2) (.bi .pair (.int 0) (.bi .pair (.bi .add (.int 0) (.var 0)) (.int 0))))) (.bi .pair (.int 0) (.bi .pair (.var 0) (.int 0))))) (.int 21)) (.bi .sel (.fn 10 (.bi .pair (.var 2) (.bi .pair (.int 0) (.bi .pair (.var 0) (.int 0))))) (.int 21))), true)
abbrev as63 : Q × Bool := ((.eq (.bi .sel (.fn 10 (.bi .pair (.fn 6 (.bi .pair (.var 2) (.bi .pair (.int 0) (.bi .pair (.bi .add (.int 0) (.var 0)) (.int 0))))) (.bi .pair (.int 0) (.bi .pair (.var 0) (.int 0))))) (.int 22)) (.bi .sel (.fn 10 (.bi .pair (.var 2) (.bi .pair (.int 0) (.bi .pair (.var 0) (.int 0))))) (.int 22))), true)
abbrev as64 : Q × Bool := ((.eq (.bi .sel (.fn 10 (.bi .pair (.fn 6 (.bi .pair (.var 2) (.bi .pair (.int 0) (.bi .pair (.bi .add (.int 0) (.var 0)) (.int 0))))) (.bi .pair (.int 0) (.bi .pair (.var 0) (.int 0))))) (.int 23)) (.bi .sel (.fn 10 (.bi .pair (.var 2) (.bi .pair (.int 0) (.bi .pair (.var 0) (.int 0))))) (.int 23))), true)
abbrev as65 : Q × Bool := ((.eq (.bi .sel (.fn 10 (.bi .pair (.fn 6 (.bi .pair (.var 2) (.bi .pair (.int 0) (.bi .pair (.bi .add (.int 0) (.var 0)) (.int 0))))) (.bi .pair (.int 0) (.bi .pair (.var 0) (.int 0))))) (.int 24)) (.bi .sel (.fn 10 (.bi .pair (.var 2) (.bi .pair (.int 0) (.bi .pair (.var 0) (.int 0))))) (.int 24))), true)
abbrev as66 : Q × Bool := ((.eq (.bi .sel (.fn 10 (.bi .pair (.fn 6 (.bi .pair (.var 2) (.bi .pair (.int 0) (.bi .pair (.bi .add (.int 0) (.var 0)) (.int 0))))) (.bi .pair (.int 0) (.bi .pair (.var 0) (.int 0))))) (.int 25)) (.bi .sel (.fn 10 (.bi .pair (.var 2) (.bi .pair (.int 0) (.bi .pair (.var 0) (.int 0))))) (.int 25))), true)
abbrev as67 : Q × Bool := ((.eq (.bi .sel (.fn 10 (.bi .pair (.fn 6 (.bi .pair (.var 2) (.bi .pair (.int 0) (.bi .pair (.bi .add (.int 0) (.var 0)) (.int 0))))) (.bi .pair (.int 0) (.bi .pair (.var 0) (.int 0))))) (.int 26)) (.bi .sel (.fn 10 (.bi .pair (.var 2) (.bi .pair (.int 0) (.bi .pair (.var 0) (.int 0))))) (.int 26))), true)
abbrev as68 : Q × Bool := ((.eq (.bi .sel (.fn 10 (.bi .pair (.fn 6 (.bi .pair (.var 2) (.bi .pair (.int 0) (.bi .pair (.bi .add (.int 0) (.var 0)) (.int 0))))) (.bi .pair (.int 0) (.bi .pair (.var 0) (.int 0))))) (.int 27)) (.bi .sel (.fn 10 (.bi .pair (.var 2) (.bi .pair (.int 0) (.bi .pair (.var 0) (.int 0))))) (.int 27))), true)
abbrev as69 : Q × Bool := ((.eq (.bi .sel (.fn 10 (.bi .pair (.fn 6 (.bi .pair (.var 2) (.bi .pair (.int 0) (.bi .pair (.bi .add (.int 0) (.var 0)) (.int 0))))) (.bi .pair (.int 0) (.bi .pair (.var 0) (.int 0))))) (.int 28)) (.bi .sel (.fn 10 (.bi .pair (.var 2) (.bi .pair (.int 0) (.bi .pair (.var 0) (.int 0))))) (.int 28))), true)
abbrev as70 : Q × Bool := ((.eq (.bi .sel (.fn 10 (.bi .pair (.fn 6 (.bi .pair (.var 2) (.bi .pair (.int 0) (.bi .pair (.bi .add (.int 0) (.var 0)) (.int 0))))) (.bi .pair (.int 0) (.bi .pair (.var 0) (.int 0))))) (.int 29)) (.bi .sel (.fn 10 (.bi .pair (.var 2) (.bi .pair (.int 0) (.bi .pair (.var 0) (.int 0))))) (.int 29))), true)
abbrev as71 : Q × Bool := ((.eq (.bi .sel (.fn 10 (.bi .pair (.fn 6 (.bi .pair (.var 2) (.bi .pair (.int 0) (.bi .pair (.bi .add (.int 0) (.var 0)) (.int 0))))) (.bi .pair (.int 0) (.bi .pair (.var 0) (.int 0))))) (.int 30)) (.bi .sel (.fn 10 (.bi .pair (.var 2) (.bi .pair (.int 0) (.bi .pair (.var 0) (.int 0))))) (.int 30))), true)
abbrev as72 : Q × Bool := ((.eq (.bi .sel (.fn 10 (.bi .pair (.fn 6 (.bi .pair (.var 2) (.bi .pair (.int 0) (.bi .pair (.bi .add (.int 0) (.var 0)) (.int 0))))) (.bi .pair (.int 0) (.bi .pair (.var 0) (.int 0))))) (.int 31)) (.bi .sel (.fn 10 (.bi .pair (.var 2) (.bi .pair (.int 0) (.bi .pair (.var 0) (.int 0))))) (.int 31))), true)
def c_in_t1 : List (Q × Bool) := [as33, as35, as36, as37, as38, as39, as40, as41, as42, as43, as44, as45, as46, as47, as48, as49, as50, as51, as52, as53, as54, as55, as56, as57, as58, as59, as60, as61, as62, as63, as64, as65, as66, as67, as68, as69, as70, as71, as72]
set_option maxRecDepth 100000 in
theorem c_in_y1 : yesOf Tryd.prog (knownV (tellA c_in_t1) tabS specsS oversS) 8000 80 3 [.sslice 1 (.int 0) (.var 0) (.var 1) false] ((globSt g0).newO (.eseq ⟨.u8, .var 0, .var 2⟩)) = true := by kernel_rfl
set_option maxRecDepth 100000 in
set_option maxHeartbeats 6000000 in
theorem c_in_walk {W : World} {v0 : Value} {b0 off0 len0 cap0 : Nat} {zs0 : List Int} (h0 : InSlice W .u8 v0 b0 off0 len0 cap0 zs0) (hG : GlobsR (om len0 cap0 zs0) W g0) : Calls Tryd.prog 3 #[v0] W fun e w' => e = .returned (.bool true) ∧ Below W.heap.size W w' := by
  have r0 := Rel.globs (om len0 cap0 zs0) W g0 hG
  obtain ⟨le0, r1, x0⟩ := h0.open r0 (l := 0) (c := 1) (x := 2) rfl rfl rfl
  have pos0 := h0.pos
  have lec0 := h0.le
  have max0 := h0.max
  have zl0 := h0.len
  have rng0 := h0.rng
  have hargs : VRs _ [.sslice 1 (.int 0) (.var 0) (.var 1) false] [v0] := VRs_cons (x0) (VRs_nil)
  by_cases h : 2000 < len0
  · refine calls_of_yesV sound tabS_ok specsS_ok oversS_ok c_in_y0 rfl (tellA_ok (allTold'_iff.1 ?_)) r1 hargs
    simp only [c_in_t0, om_0, om_1, om_2, om_f, allTold', dutiesTold, factsA, factsC, factsP, factsR, AV.facts, RW.facts, inK, and_true, Q.holds', E.i, E.s, E.n, D.nat, E.den, BO.den, UO.den, TO.den, D.toInt_int, D.toList_list, D.ints_ofInts, i64min, i64max, u8min, u8max, u16min, u16max, u32min, u32max, u64min, u64max, i32min, i32max, Om.sub, selI, ints_app, ints_cut, ints_upd, ints_rep, ints_splice, ints_seg, len_ints]
    omega
  · refine calls_of_yesV sound tabS_ok specsS_ok oversS_ok c_in_y1 rfl (tellA_ok (allTold'_iff.1 ?_)) r1 hargs
    simp only [c_in_t1, om_0, om_1, om_2, om_f, F6, F10, allTold', dutiesTold, factsA, factsC, factsP, factsR, AV.facts, RW.facts, inK, and_true, Q.holds', E.i, E.s, E.n, D.nat, E.den, BO.den, UO.den, TO.den, D.toInt_int, D.toList_list, D.ints_ofInts, i64min, i64max, u8min, u8max, u16min, u16max, u32min, u32max, u64min, u64max, i32min, i32max, Om.sub, selI, ints_app, ints_cut, ints_upd, ints_rep, ints_splice, ints_seg, len_ints]
    rw [lent_prt (X := zs0) (l := len0) (by omega) (by omega)]
    and_intros <;> first | rfl | omega

theorem underS22 : Tryd.prog.underlying 22 = some (.slice 5) := by kernel_rfl
theorem underE5 : Tryd.prog.underlying 5 = some (.int .u8) := by kernel_rfl
theorem cellsE5 : Tryd.prog.cellsOf 5 = 1 := by kernel_rfl

set_option maxRecDepth 100000 in
theorem lifted (os : Os) (started : os.Started) (H : Type) (enc : TypeId × Value → H) :
    ReturnsInHanded {} Tryd.checked os 3 .any (fun w args => (Rows.digestSumsSpec.pre enc Tryd.prog Tryd.f3 [] false w args ∧ laidMetH Tryd.prog laidL w) ∧ sizedMet enc Tryd.prog Tryd.f3 (OpenSpec.ofChange Rows.digestSumsSpec) false w args)
      (Rows.digestSumsSpec.post enc Tryd.prog Tryd.f3 false true false false) := by
  refine returnsInHanded_of_change_and (C := Tryd.checked) (X := fun w _ => laidMetH Tryd.prog laidL w) (fun _ _ _ hh h => h.of_heap hh) own started (by kernel_rfl) Tryd.func3
    (ChangeSpec.witness_shaped (enc := enc) (C := Tryd.checked) (os := os) (X := fun w _ => laidMetH Tryd.prog laidL w) false (World.doorLaid Tryd.prog 400 os) #[.slice none 0 0] 8 rfl (World.shaped_of_RefB (by kernel_rfl) (by kernel_rfl)) (by kernel_rfl) (by kernel_rfl) (by kernel_rfl) (door_met os _)) ?_
  intro W base args ds gs before hval0 hW _ _ hL _
  have hval : ∀ (j : Nat) t v, Tryd.f3.params[j]? = some t → args[j]? = some v → Value.okWide Tryd.prog W .any base t v := hval0
  have hW' := hW
  have hlt := hW.lt
  obtain ⟨p, q, hA0, hV, rfl, hfz, hnd⟩ := hW
  have hA : DataW.TrodAll enc Tryd.prog W 0 (fun _ => true) true Tryd.f3.params.toList args.toList ds p := hA0
  have hAll := hA
  rw [Tryd.params3] at hA hval hAll
  obtain ⟨rfl, rfl⟩ := trodVars_none hV
  obtain ⟨pv0, d0, rfl, rfl, h0⟩ := trodAll_one hA
  have s0 := in_slice (k := .u8) underS22 underE5 cellsE5 (hval 0 22 _ rfl rfl) h0
  clear hA0 hval0
  have hcall : Calls Tryd.prog 3 #[pv0] W fun e w' => e = .returned (.bool true) ∧ Below W.heap.size W w' := by
    rcases s0 with rfl | ⟨a0, c0, rfl⟩ | ⟨_, _, _, _, _, s0⟩
    · exact c_emp_walk (fun _ => vr_emptyN) (globs0 _ hL)
    · exact c_emp_walk (fun _ => vr_emptyH a0 c0) (globs0 _ hL)
    · exact c_in_walk s0 (globs0 _ hL)
  refine hcall.mono fun e W' ⟨he, hg⟩ => ?_
  subst he
  exact ⟨_, rfl, _, [], _, [], _, [], hW', trodAll_cons_mk (shut_bool Tryd.underlying4 _) trodAll_mk0, trodAll_stays laid hg _ _ _ _ hAll (fun x hx => hlt x (by simpa using hx)) (by kernel_rfl), rfl, hg.frame _, fun h => by cases h⟩

theorem over : Rows.digestSumsRow.holds Tryd.pinned (OpenSpec.ofChange Rows.digestSumsSpec) :=
  OpenClaim.holds_of_wide 3 Tryd.f3 rfl rfl rfl rfl rfl rfl rfl ⟨rfl, rfl, rfl, rfl, rfl⟩ rfl rfl rfl rfl rfl (by kernel_rfl) Tryd.func3 (by kernel_rfl)
    (of_decide_eq_true (by kernel_rfl)) (by unfold Func.isWrapper; first | (rw [if_pos (by decide +kernel)]; kernel_rfl) | (rw [if_neg (by decide +kernel)]; exact ⟨rfl, rfl⟩))
    (fun os started H enc _ => lifted os started H enc)

/-- The statement: the tied card. -/
theorem proved : Rows.DigestSumsCardSaid :=
  Claim7.holds_tied_plain_at .later [] [.data] true (true, "9201b8765b228a9dac50a21e8dc549939bca1f663b9148d03a7ed1bd7b74d51a") false
    over (fun _ h => by cases h) (by kernel_rfl) (fun _ h => by cases h) digestSums_row_tie rfl ⟨rfl, rfl⟩ (by kernel_rfl) rfl
    (fun f fn hf hfn => by
      obtain rfl : f = 3 := Option.some.inj ((show Tryd.prog.funcNamed "satchel/satchellaw03.DigestSums" = some 3 by kernel_rfl).symm.trans hf) |>.symm
      obtain rfl : fn = Tryd.f3 := (Option.some.inj (Tryd.func3.symm.trans hfn)).symm
      exact ⟨by kernel_rfl, fun j t ht => by
        rw [Tryd.params3] at ht
        have hm : t ∈ ([22] : List TypeId) := by simpa using Array.mem_of_getElem? ht
        have hall : (([22] : List TypeId).all fun u => !Tryd.prog.wantsStandIn u) = true := by kernel_rfl
        exact (show Tryd.prog.wantsStandIn t = false by simpa using List.all_eq_true.1 hall t hm)⟩)
    (by kernel_rfl)
#print axioms proved
end Go.Proofs.YtblgmhghpcpmdaaDoor.digestSums
