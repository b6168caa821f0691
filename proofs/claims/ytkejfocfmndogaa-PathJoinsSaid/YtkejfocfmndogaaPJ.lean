/-
 The law PathJoins of the layer path holds of the code: for all inputs the call returns true, and the arguments read as they did. No condition.
-/
import Derived.Test.YtkejfocfmndogaaCo
import Derived.Test.YtkejfocfmndogaaSycp
import Derived.Test.YtkejfocfmndogaaPj
import Derived.Test.YtkejfocfmndogaaPa
import Derived.Test.YtkejfocfmndogaaPb
import Derived.Test.YtkejfocfmndogaaPc
import Derived.Test.YtkejfocfmndogaaPh
import Derived.Test.YtkejfocfmndogaaPr
import Derived.Test.YtkejfocfmndogaaPs
import Derived.Test.YtkejfocfmndogaaPu
import Derived.WalkKit
import Derived.ProofKit
import Derived.OpenShut
set_option linter.unusedSimpArgs false
set_option linter.unusedVariables false
namespace Go.Proofs.Ytkejfocfmndogaa.pathJoins
open Go.ChangeShapes Go.WideShapes Go.ChangeAt Go.RowKit Go.Ev Go.Proofs.Ytkejfocfmndogaa.Co Go.Proofs.Ytkejfocfmndogaa.Pj Go.Proofs.Ytkejfocfmndogaa.Pa Go.Proofs.Ytkejfocfmndogaa.Pb Go.Proofs.Ytkejfocfmndogaa.Pc Go.Proofs.Ytkejfocfmndogaa.Ph Go.Proofs.Ytkejfocfmndogaa.Pr Go.Proofs.Ytkejfocfmndogaa.Ps Go.Proofs.Ytkejfocfmndogaa.Pu

def om (s0 : ByteArray) (s1 : ByteArray) : Om := ⟨fun _ => .bool false, fun i => if i = 0 then .int s0.size else if i = 2 then D.ofInts (strE s0) else if i = 10 then .int s1.size else if i = 12 then D.ofInts (strE s1) else .int 0, F⟩
theorem om_0 (s0 : ByteArray) (s1 : ByteArray) : (om s0 s1).d 0 = .int s0.size := rfl
theorem om_2 (s0 : ByteArray) (s1 : ByteArray) : (om s0 s1).d 2 = D.ofInts (strE s0) := rfl
theorem om_10 (s0 : ByteArray) (s1 : ByteArray) : (om s0 s1).d 10 = .int s1.size := rfl
theorem om_12 (s0 : ByteArray) (s1 : ByteArray) : (om s0 s1).d 12 = D.ofInts (strE s1) := rfl
theorem om_f (s0 : ByteArray) (s1 : ByteArray) : (om s0 s1).f = F := rfl
theorem one_not {b : Bool} : (if b = true then (1 : Int) else 0) ≠ 1 ↔ ¬ b = true := by cases b <;> simp
theorem ok_z0 {x : List Int} (h : okP x = true) : (checkF x).1 = 0 := of_decide_eq_true h
theorem part_idx {p : List Int} (h : (partF p).1 = 0) : idxI p < 0 := by
 refine idx_free fun c hc => ?_
 obtain ⟨i, hi⟩ := List.getElem?_of_mem hc
 have hl := (List.getElem?_eq_some_iff.1 hi).1
 unfold partF at h
 split at h
 ·simp at h
 ·split at h
  ·simp at h
  ·rename_i hb
   rw [bad_may] at hb
   split at hb
   ·omega
   ·obtain ⟨a, h1, h2⟩ := may_good p i (by omega)
    rw [hi] at h1
    cases h1
    exact h2.2.2
theorem cat_ints {a b c : List Int} : (D.list ((D.ofInts a).toList ++ (D.ofInts b).toList ++ (D.ofInts c).toList)).ints = a ++ b ++ c := by
 show ((D.ofInts a).toList ++ (D.ofInts b).toList ++ (D.ofInts c).toList).map D.toInt = _
 rw [List.map_append, List.map_append]
 show (D.ofInts a).ints ++ (D.ofInts b).ints ++ (D.ofInts c).ints = _
 rw [D.ints_ofInts, D.ints_ofInts, D.ints_ofInts]
theorem alone_ok {p : List Int} (h : (partF p).1 = 0) : okP p = true := by
 have hi := part_idx h
 have hs : splitL p = [p] := by
  rcases split_idx p with ⟨_, g⟩ | ⟨g, _⟩
  ·exact g
  ·omega
 have hn := part_ne h
 rw [ok_iff, hs]
 refine ⟨hn, ?_, ?_, by simp⟩
 ·unfold partF at h
  split at h
  ·simp at h
  ·split at h
   ·simp at h
   ·split at h
    ·simp at h
    ·omega
 ·intro q hq
  rw [List.mem_singleton] at hq
  rw [hq]; exact h

abbrev as0 : Q × Bool := ((.fit .i64 (.var 0)), true)
abbrev as1 : Q × Bool := ((.le (.var 0) (.int 400)), false)
def c_t0 : List (Q × Bool) := [as0, as1]
set_option maxRecDepth 100000 in
theorem c_y0 : yesOf Try.prog (knownV (tellA c_t0) tabJ specsJ oversJ) 8000 80 5 [.sstr (.var 0) (.var 2), .sstr (.var 10) (.var 12)] (globSt g0) = true := by kernel_rfl
abbrev as2 : Q × Bool := ((.le (.var 0) (.int 400)), true)
abbrev as3 : Q × Bool := ((.fit .i64 (.var 10)), true)
abbrev as4 : Q × Bool := ((.le (.var 10) (.int 400)), false)
def c_t1 : List (Q × Bool) := [as0, as2, as3, as4]
set_option maxRecDepth 100000 in
theorem c_y1 : yesOf Try.prog (knownV (tellA c_t1) tabJ specsJ oversJ) 8000 80 5 [.sstr (.var 0) (.var 2), .sstr (.var 10) (.var 12)] (globSt g0) = true := by kernel_rfl
abbrev as5 : Q × Bool := ((.le (.var 10) (.int 400)), true)
abbrev as6 : Q × Bool := ((.same (.var 2) (.lits [])), false)
abbrev as7 : Q × Bool := ((.le (.var 0) (.int 100000000000000)), true)
abbrev as8 : Q × Bool := ((.eq (.fn 45 (.bi .pair (.var 2) (.int 0))) (.int 0)), false)
abbrev as9 : Q × Bool := ((.le (.var 10) (.int 1000)), true)
abbrev as10 : Q × Bool := ((.le (.int 0) (.fn 40 (.bi .pair (.var 12) (.int 0)))), true)
def c_t2 : List (Q × Bool) := [as0, as2, as3, as5, as6, as7, as8, as9, as10]
set_option maxRecDepth 100000 in
theorem c_y2 : yesOf Try.prog (knownV (tellA c_t2) tabJ specsJ oversJ) 8000 80 5 [.sstr (.var 0) (.var 2), .sstr (.var 10) (.var 12)] (globSt g0) = true := by kernel_rfl
abbrev as11 : Q × Bool := ((.le (.int 0) (.fn 40 (.bi .pair (.var 12) (.int 0)))), false)
def c_t3 : List (Q × Bool) := [as0, as2, as3, as5, as6, as7, as8, as9, as11]
set_option maxRecDepth 100000 in
theorem c_y3 : yesOf Try.prog (knownV (tellA c_t3) tabJ specsJ oversJ) 8000 80 5 [.sstr (.var 0) (.var 2), .sstr (.var 10) (.var 12)] (globSt g0) = true := by kernel_rfl
abbrev as12 : Q × Bool := ((.same (.var 2) (.lits [])), true)
abbrev as13 : Q × Bool := ((.eq (.fn 43 (.bi .pair (.var 12) (.int 0))) (.int 0)), false)
abbrev as14 : Q × Bool := ((.eq (.fn 64 (.bi .pair (.var 12) (.int 0))) (.int 0)), true)
abbrev as15 : Q × Bool := ((.fit .i64 (.un .len (.fn 57 (.bi .pair (.var 12) (.int 0))))), true)
abbrev as16 : Q × Bool := ((.eq (.un .len (.fn 57 (.bi .pair (.var 12) (.int 0)))) (.int 1)), false)
def c_t4 : List (Q × Bool) := [as0, as2, as3, as5, as12, as9, as13, as10, as14, as15, as16]
set_option maxRecDepth 100000 in
theorem c_y4 : yesOf Try.prog (knownV (tellA c_t4) tabJ specsJ oversJ) 8000 80 5 [.sstr (.var 0) (.var 2), .sstr (.var 10) (.var 12)] (globSt g0) = true := by kernel_rfl
abbrev as17 : Q × Bool := ((.eq (.fn 64 (.bi .pair (.var 12) (.int 0))) (.int 0)), false)
def c_t5 : List (Q × Bool) := [as0, as2, as3, as5, as12, as9, as13, as10, as17]
set_option maxRecDepth 100000 in
theorem c_y5 : yesOf Try.prog (knownV (tellA c_t5) tabJ specsJ oversJ) 8000 80 5 [.sstr (.var 0) (.var 2), .sstr (.var 10) (.var 12)] (globSt g0) = true := by kernel_rfl
def c_t6 : List (Q × Bool) := [as0, as2, as3, as5, as12, as9, as13, as11]
set_option maxRecDepth 100000 in
theorem c_y6 : yesOf Try.prog (knownV (tellA c_t6) tabJ specsJ oversJ) 8000 80 5 [.sstr (.var 0) (.var 2), .sstr (.var 10) (.var 12)] (globSt g0) = true := by kernel_rfl
abbrev as18 : Q × Bool := ((.eq (.fn 43 (.bi .pair (.var 12) (.int 0))) (.int 0)), true)
abbrev as19 : Q × Bool := ((.le (.var 10) (.int 100000000000000)), true)
abbrev as20 : Q × Bool := ((.eq (.fn 45 (.bi .pair (.var 12) (.int 0))) (.int 0)), true)
def c_t7 : List (Q × Bool) := [as0, as2, as3, as5, as12, as9, as18, as19, as20, as11]
set_option maxRecDepth 100000 in
theorem c_y7 : yesOf Try.prog (knownV (tellA c_t7) tabJ specsJ oversJ) 8000 80 5 [.sstr (.var 0) (.var 2), .sstr (.var 10) (.var 12)] (globSt g0) = true := by kernel_rfl
abbrev as21 : Q × Bool := ((.eq (.fn 45 (.bi .pair (.var 2) (.int 0))) (.int 0)), true)
def c_t8 : List (Q × Bool) := [as0, as2, as3, as5, as6, as7, as21, as9, as13, as10, as14, as15, as16]
set_option maxRecDepth 100000 in
theorem c_y8 : yesOf Try.prog (knownV (tellA c_t8) tabJ specsJ oversJ) 8000 80 5 [.sstr (.var 0) (.var 2), .sstr (.var 10) (.var 12)] (globSt g0) = true := by kernel_rfl
def c_t9 : List (Q × Bool) := [as0, as2, as3, as5, as6, as7, as21, as9, as13, as10, as17]
set_option maxRecDepth 100000 in
theorem c_y9 : yesOf Try.prog (knownV (tellA c_t9) tabJ specsJ oversJ) 8000 80 5 [.sstr (.var 0) (.var 2), .sstr (.var 10) (.var 12)] (globSt g0) = true := by kernel_rfl
def c_t10 : List (Q × Bool) := [as0, as2, as3, as5, as6, as7, as21, as9, as13, as11]
set_option maxRecDepth 100000 in
theorem c_y10 : yesOf Try.prog (knownV (tellA c_t10) tabJ specsJ oversJ) 8000 80 5 [.sstr (.var 0) (.var 2), .sstr (.var 10) (.var 12)] (globSt g0) = true := by kernel_rfl
abbrev as22 : Q × Bool := ((.le (.bi .add (.var 0) (.int 1)) (.int 9223372036854775807)), true)
abbrev as23 : Q × Bool := ((.le (.bi .add (.bi .add (.var 0) (.int 1)) (.var 10)) (.int 9223372036854775807)), true)
abbrev as24 : Q × Bool := ((.le (.bi .add (.bi .add (.var 0) (.int 1)) (.var 10)) (.int 100000000000000)), true)
abbrev as25 : Q × Bool := ((.eq (.fn 45 (.bi .pair (.bi .app (.bi .app (.var 2) (.lits [47])) (.var 12)) (.int 0))) (.int 0)), true)
def c_t11 : List (Q × Bool) := [as0, as2, as3, as5, as6, as7, as21, as9, as18, as22, as23, as24, as25, as11]
set_option maxRecDepth 100000 in
theorem c_y11 : yesOf Try.prog (knownV (tellA c_t11) tabJ specsJ oversJ) 8000 80 5 [.sstr (.var 0) (.var 2), .sstr (.var 10) (.var 12)] (globSt g0) = true := by kernel_rfl
abbrev as26 : Q × Bool := ((.eq (.fn 45 (.bi .pair (.bi .app (.bi .app (.var 2) (.lits [47])) (.var 12)) (.int 0))) (.int 0)), false)
def c_t12 : List (Q × Bool) := [as0, as2, as3, as5, as6, as7, as21, as9, as18, as22, as23, as24, as26, as11]
set_option maxRecDepth 100000 in
theorem c_y12 : yesOf Try.prog (knownV (tellA c_t12) tabJ specsJ oversJ) 8000 80 5 [.sstr (.var 0) (.var 2), .sstr (.var 10) (.var 12)] (globSt g0) = true := by kernel_rfl
set_option maxRecDepth 100000 in
set_option maxHeartbeats 6000000 in
theorem c_walk {W : World} {s0 : ByteArray} (max0 : s0.size ≤ 9223372036854775807) {s1 : ByteArray} (max1 : s1.size ≤ 9223372036854775807) (hG : GlobsR (om s0 s1) W g0) : Calls Try.prog 5 #[.string s0, .string s1] W fun e w' => e = .returned (.bool true) ∧ Below W.heap.size W w' := by
 have r0 := Rel.globs (om s0 s1) W g0 hG
 have hargs : VRs (Env.none (om s0 s1) W) [.sstr (.var 0) (.var 2), .sstr (.var 10) (.var 12)] [.string s0, .string s1] := VRs_cons (vr_str (l := 0) (x := 2) (by rw [r0.opq]; rfl) (by rw [r0.opq]; rfl)) (VRs_cons (vr_str (l := 10) (x := 12) (by rw [r0.opq]; rfl) (by rw [r0.opq]; rfl)) (VRs_nil))
 have zl0 := strE_length s0
 have rng0 := strE_in s0
 have zl1 := strE_length s1
 have rng1 := strE_in s1
 by_cases n0 : 400 < s0.size
 ·refine calls_of_yesV sound tabJ_ok specsJ_ok oversJ_ok c_y0 rfl (tellA_ok (allTold'_iff.1 ?_)) r0 hargs
  simp only [c_t0, om_0, om_2, om_10, om_12, om_f, F40, F43, F45, F57, F64, D.toList_list, List.length_map, one_if, one_not, show Int.toNat 0 = 0 from rfl, List.drop_zero, ints_take, tl]
  and_intros <;> first | omega | assumption | exact al | (rw [cat_ints]; exact al)
 by_cases n1 : 400 < s1.size
 ·refine calls_of_yesV sound tabJ_ok specsJ_ok oversJ_ok c_y1 rfl (tellA_ok (allTold'_iff.1 ?_)) r0 hargs
  simp only [c_t1, om_0, om_2, om_10, om_12, om_f, F40, F43, F45, F57, F64, D.toList_list, List.length_map, one_if, one_not, show Int.toNat 0 = 0 from rfl, List.drop_zero, ints_take, tl]
  and_intros <;> first | omega | assumption | exact al | (rw [cat_ints]; exact al)
 by_cases de : strE s0 = []
 ·by_cases g : (partF (strE s1)).1 = 0
  ·have fr := part_idx g
   have al := ok_z0 (alone_ok g)
   refine calls_of_yesV sound tabJ_ok specsJ_ok oversJ_ok c_y7 rfl (tellA_ok (allTold'_iff.1 ?_)) r0 hargs
   simp only [c_t7, om_0, om_2, om_10, om_12, om_f, F40, F43, F45, F57, F64, D.toList_list, List.length_map, one_if, one_not, show Int.toNat 0 = 0 from rfl, List.drop_zero, ints_take, tl]
   and_intros <;> first | omega | assumption | exact al | (rw [cat_ints]; exact al)
  by_cases i : 0 ≤ idxI (strE s1)
  ·have m := many_d (x := D.ofInts (strE s1)) (by rw [D.ints_ofInts]; exact i)
   have mu := parts_many (D.ofInts (strE s1)).ints
   have ml := congrArg List.length (parts_ints (D.ofInts (strE s1)))
   rw [List.length_map, List.length_map] at ml
   rw [D.ints_ofInts] at mu ml
   by_cases r : (partR (strE s1)).1 = 0
   ·refine calls_of_yesV sound tabJ_ok specsJ_ok oversJ_ok c_y4 rfl (tellA_ok (allTold'_iff.1 ?_)) r0 hargs
    simp only [c_t4, om_0, om_2, om_10, om_12, om_f, F40, F43, F45, F57, F64, D.toList_list, List.length_map, one_if, one_not, show Int.toNat 0 = 0 from rfl, List.drop_zero, ints_take, tl]
    and_intros <;> first | omega | assumption | exact al | (rw [cat_ints]; exact al)
   refine calls_of_yesV sound tabJ_ok specsJ_ok oversJ_ok c_y5 rfl (tellA_ok (allTold'_iff.1 ?_)) r0 hargs
   simp only [c_t5, om_0, om_2, om_10, om_12, om_f, F40, F43, F45, F57, F64, D.toList_list, List.length_map, one_if, one_not, show Int.toNat 0 = 0 from rfl, List.drop_zero, ints_take, tl]
   and_intros <;> first | omega | assumption | exact al | (rw [cat_ints]; exact al)
  refine calls_of_yesV sound tabJ_ok specsJ_ok oversJ_ok c_y6 rfl (tellA_ok (allTold'_iff.1 ?_)) r0 hargs
  simp only [c_t6, om_0, om_2, om_10, om_12, om_f, F40, F43, F45, F57, F64, D.toList_list, List.length_map, one_if, one_not, show Int.toNat 0 = 0 from rfl, List.drop_zero, ints_take, tl]
  and_intros <;> first | omega | assumption | exact al | (rw [cat_ints]; exact al)
 by_cases dv : (checkF (strE s0)).1 = 0
 ·by_cases g : (partF (strE s1)).1 = 0
  ·have fr := part_idx g
   by_cases al : (checkF (strE s0 ++ [47] ++ strE s1)).1 = 0
   ·refine calls_of_yesV sound tabJ_ok specsJ_ok oversJ_ok c_y11 rfl (tellA_ok (allTold'_iff.1 ?_)) r0 hargs
    simp only [c_t11, om_0, om_2, om_10, om_12, om_f, F40, F43, F45, F57, F64, D.toList_list, List.length_map, one_if, one_not, show Int.toNat 0 = 0 from rfl, List.drop_zero, ints_take, tl]
    and_intros <;> first | omega | assumption | exact al | (rw [cat_ints]; exact al)
   refine calls_of_yesV sound tabJ_ok specsJ_ok oversJ_ok c_y12 rfl (tellA_ok (allTold'_iff.1 ?_)) r0 hargs
   simp only [c_t12, om_0, om_2, om_10, om_12, om_f, F40, F43, F45, F57, F64, D.toList_list, List.length_map, one_if, one_not, show Int.toNat 0 = 0 from rfl, List.drop_zero, ints_take, tl]
   and_intros <;> first | omega | assumption | exact al | (rw [cat_ints]; exact al)
  by_cases i : 0 ≤ idxI (strE s1)
  ·have m := many_d (x := D.ofInts (strE s1)) (by rw [D.ints_ofInts]; exact i)
   have mu := parts_many (D.ofInts (strE s1)).ints
   have ml := congrArg List.length (parts_ints (D.ofInts (strE s1)))
   rw [List.length_map, List.length_map] at ml
   rw [D.ints_ofInts] at mu ml
   by_cases r : (partR (strE s1)).1 = 0
   ·refine calls_of_yesV sound tabJ_ok specsJ_ok oversJ_ok c_y8 rfl (tellA_ok (allTold'_iff.1 ?_)) r0 hargs
    simp only [c_t8, om_0, om_2, om_10, om_12, om_f, F40, F43, F45, F57, F64, D.toList_list, List.length_map, one_if, one_not, show Int.toNat 0 = 0 from rfl, List.drop_zero, ints_take, tl]
    and_intros <;> first | omega | assumption | exact al | (rw [cat_ints]; exact al)
   refine calls_of_yesV sound tabJ_ok specsJ_ok oversJ_ok c_y9 rfl (tellA_ok (allTold'_iff.1 ?_)) r0 hargs
   simp only [c_t9, om_0, om_2, om_10, om_12, om_f, F40, F43, F45, F57, F64, D.toList_list, List.length_map, one_if, one_not, show Int.toNat 0 = 0 from rfl, List.drop_zero, ints_take, tl]
   and_intros <;> first | omega | assumption | exact al | (rw [cat_ints]; exact al)
  refine calls_of_yesV sound tabJ_ok specsJ_ok oversJ_ok c_y10 rfl (tellA_ok (allTold'_iff.1 ?_)) r0 hargs
  simp only [c_t10, om_0, om_2, om_10, om_12, om_f, F40, F43, F45, F57, F64, D.toList_list, List.length_map, one_if, one_not, show Int.toNat 0 = 0 from rfl, List.drop_zero, ints_take, tl]
  and_intros <;> first | omega | assumption | exact al | (rw [cat_ints]; exact al)
 by_cases i : 0 ≤ idxI (strE s1)
 ·refine calls_of_yesV sound tabJ_ok specsJ_ok oversJ_ok c_y2 rfl (tellA_ok (allTold'_iff.1 ?_)) r0 hargs
  simp only [c_t2, om_0, om_2, om_10, om_12, om_f, F40, F43, F45, F57, F64, D.toList_list, List.length_map, one_if, one_not, show Int.toNat 0 = 0 from rfl, List.drop_zero, ints_take, tl]
  and_intros <;> first | omega | assumption | exact al | (rw [cat_ints]; exact al)
 refine calls_of_yesV sound tabJ_ok specsJ_ok oversJ_ok c_y3 rfl (tellA_ok (allTold'_iff.1 ?_)) r0 hargs
 simp only [c_t3, om_0, om_2, om_10, om_12, om_f, F40, F43, F45, F57, F64, D.toList_list, List.length_map, one_if, one_not, show Int.toNat 0 = 0 from rfl, List.drop_zero, ints_take, tl]
 and_intros <;> first | omega | assumption | exact al | (rw [cat_ints]; exact al)

theorem underStr9 : Try.prog.underlying 9 = some .string := by kernel_rfl

set_option maxRecDepth 100000 in
theorem lifted (os : Os) (started : os.Started) (H : Type) (enc : TypeId × Value → H) :
  ReturnsInHanded {} Try.checked os 5 .any (Rows.pathJoinsSpec.pre6 enc Try.prog Try.f5 Rows.pathJoinsRow.domain false) (Rows.pathJoinsSpec.post enc Try.prog Try.f5 false true false false) := by
 refine returnsInHanded_of_change (C := Try.checked) own started (by kernel_rfl) Try.func5
  (ChangeSpec.witness6 (enc := enc) (C := Try.checked) false ⟨#[], #[.string ByteArray.empty, .string ByteArray.empty], []⟩ 8 (by kernel_rfl) (by kernel_rfl) (by kernel_rfl) (by kernel_rfl)) ?_
 intro W base args ds gs before hval0 hW hcnd _
 have hval : ∀ (j : Nat) t v, Try.f5.params[j]? = some t → args[j]? = some v → Value.okWide Try.prog W .any base t v := hval0
 have hW' := hW
 have hlt := hW.lt
 obtain ⟨p, q, hA0, hV, rfl, hfz, hnd⟩ := hW
 have hA : DataW.TrodAll enc Try.prog W 0 (fun _ => true) true Try.f5.params.toList args.toList ds p := hA0
 have hAll := hA
 rw [Try.params5] at hA hval hAll
 obtain ⟨rfl, rfl⟩ := trodVars_none hV
 obtain ⟨pv0, pv1, d0, d1, p0, p1, rfl, rfl, rfl, h0, h1⟩ := trodAll_two hA
 obtain ⟨s0, rfl, rfl, max0⟩ := in_str underStr9 (hval 0 9 _ rfl rfl) h0
 obtain ⟨s1, rfl, rfl, max1⟩ := in_str underStr9 (hval 1 9 _ rfl rfl) h1
 clear hA0 hval0
 have hcall : Calls Try.prog 5 #[.string s0, .string s1] W fun e w' => e = .returned (.bool true) ∧ Below W.heap.size W w' := by
  exact c_walk max0 max1 (globs0 _ W)
 refine hcall.mono fun e W' ⟨he, hg⟩ => ?_
 subst he
 exact ⟨_, rfl, _, [], _, [], _, [], hW', trodAll_cons_mk (shut_bool Try.underlying4 _) trodAll_mk0, trodAll_stays laid hg _ _ _ _ hAll (fun x hx => hlt x (by simp at hx)) (by kernel_rfl), rfl, hg.frame _, fun h => by cases h⟩

theorem over : Rows.pathJoinsRow.holds Try.pinned (OpenSpec.ofChange Rows.pathJoinsSpec) :=
 OpenClaim.holds_of_wide 5 Try.f5 rfl rfl rfl rfl rfl rfl rfl ⟨rfl, rfl, rfl, rfl, rfl⟩ rfl rfl rfl rfl rfl (by kernel_rfl) Try.func5 (by kernel_rfl)
  (of_decide_eq_true (by kernel_rfl)) (by unfold Func.isWrapper; first | (rw [if_pos (by decide +kernel)]; kernel_rfl) | (rw [if_neg (by decide +kernel)]; exact ⟨rfl, rfl⟩))
  (fun os started H enc _ => lifted os started H enc)

theorem proved : Rows.PathJoinsSaid :=
 over
#print axioms proved
end Go.Proofs.Ytkejfocfmndogaa.pathJoins
