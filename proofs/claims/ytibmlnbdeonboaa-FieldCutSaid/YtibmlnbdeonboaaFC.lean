/-
  The law FieldCut of the layer field holds of the code: for all inputs the call returns true, and the arguments read as they did. No condition.
-/
import Derived.Test.YtibmlnbdeonboaaCo
import Derived.Test.YtibmlnbdeonboaaSycp
import Derived.Test.YtibmlnbdeonboaaFa
import Derived.WalkKit
import Derived.ProofKit
import Derived.OpenShut
set_option linter.unusedSimpArgs false
set_option linter.unusedVariables false
namespace Go.Proofs.Ytibmlnbdeonboaa.fieldCut
open Go.ChangeShapes Go.WideShapes Go.ChangeAt Go.RowKit Go.Ev Go.Proofs.Ytibmlnbdeonboaa.Co Go.Proofs.Ytibmlnbdeonboaa.Fa

def om (n0 : Int) (len1 cap1 : Nat) (zs1 : List Int) (n2 : Int) : Om := ⟨fun _ => .bool false, fun i => if i = 0 then .int n0 else if i = 10 then .int len1 else if i = 11 then .int cap1 else if i = 12 then D.ofInts zs1 else if i = 20 then .int n2 else .int 0, F⟩
theorem om_0 (n0 : Int) (len1 cap1 : Nat) (zs1 : List Int) (n2 : Int) : (om n0 len1 cap1 zs1 n2).d 0 = .int n0 := rfl
theorem om_10 (n0 : Int) (len1 cap1 : Nat) (zs1 : List Int) (n2 : Int) : (om n0 len1 cap1 zs1 n2).d 10 = .int len1 := rfl
theorem om_11 (n0 : Int) (len1 cap1 : Nat) (zs1 : List Int) (n2 : Int) : (om n0 len1 cap1 zs1 n2).d 11 = .int cap1 := rfl
theorem om_12 (n0 : Int) (len1 cap1 : Nat) (zs1 : List Int) (n2 : Int) : (om n0 len1 cap1 zs1 n2).d 12 = D.ofInts zs1 := rfl
theorem om_20 (n0 : Int) (len1 cap1 : Nat) (zs1 : List Int) (n2 : Int) : (om n0 len1 cap1 zs1 n2).d 20 = .int n2 := rfl
theorem om_f (n0 : Int) (len1 cap1 : Nat) (zs1 : List Int) (n2 : Int) : (om n0 len1 cap1 zs1 n2).f = F := rfl

theorem five_put {n : Int} (h0 : 0 ≤ n) (h : n ≤ 2147483647) : List.drop (5 - szI n).toNat (List.take (5 - szI n + szI n).toNat (fiveI n)) = putL n := by
  have hl := put_len h0 h
  have hs := sz_in n
  rw [show (5 - szI n + szI n).toNat = 5 by omega, List.take_of_length_le (by simp only [fiveI, List.length_append, List.length_replicate]; omega)]
  unfold fiveI
  rw [List.drop_append_of_le_length (by simp), List.drop_of_length_le (by simp), List.nil_append]
theorem cut_prt (l : List Int) (k : Int) : prt (List.drop (Int.toNat 0) (List.take k.toNat l)) 0 k = l.take k.toNat := by
  unfold prt
  simp [List.take_take]
theorem num_more {m : Int} {k : Nat} (h0 : 0 ≤ m) (h : m ≤ 2147483647) (r : List Int) (hk : szI m ≤ k) : numL ((putL m ++ r).take k) = (0, m, szI m) := by
  have hl := put_len h0 h
  rw [List.take_append, List.take_of_length_le (by omega)]
  exact num_put h0 h _

def c_nil_t0 : List (Q × Bool) := [((.le (.int 0) (.var 0)), false)]
set_option maxRecDepth 100000 in
theorem c_nil_y0 : yesOf Try.prog (knownV (tellA c_nil_t0) tab specs overs) 6000 60 6 [.sint .i64 (.var 0), .nilslice, .sint .i64 (.var 20)] (globSt g0) = true := by kernel_rfl
def c_nil_t1 : List (Q × Bool) := [((.le (.int 0) (.var 0)), true),
  ((.le (.var 0) (.int 2147483647)), false)]
set_option maxRecDepth 100000 in
theorem c_nil_y1 : yesOf Try.prog (knownV (tellA c_nil_t1) tab specs overs) 6000 60 6 [.sint .i64 (.var 0), .nilslice, .sint .i64 (.var 20)] (globSt g0) = true := by kernel_rfl
def c_nil_t2 : List (Q × Bool) := [((.le (.int 0) (.var 0)), true),
  ((.le (.var 0) (.int 2147483647)), true),
  ((.le (.bi .add (.bi .sub (.int 5) (.fn 1 (.bi .pair (.var 0) (.int 0)))) (.fn 1 (.bi .pair (.var 0) (.int 0)))) (.int 5)), true),
  ((.eq (.fn 1 (.bi .pair (.var 0) (.int 0))) (.int 0)), false),
  ((.le (.bi .mul (.fn 1 (.bi .pair (.var 0) (.int 0))) (.int 2)) (.int 281474976710656)), true),
  ((.fit .i64 (.fn 1 (.bi .pair (.var 0) (.int 0)))), true),
  ((.le (.bi .add (.bi .sub (.int 5) (.fn 1 (.bi .pair (.int 0) (.int 0)))) (.fn 1 (.bi .pair (.int 0) (.int 0)))) (.int 5)), true),
  ((.eq (.fn 1 (.bi .pair (.int 0) (.int 0))) (.int 0)), false),
  ((.le (.bi .mul (.fn 1 (.bi .pair (.int 0) (.int 0))) (.int 2)) (.int 281474976710656)), true),
  ((.fit .i64 (.fn 1 (.bi .pair (.int 0) (.int 0)))), true),
  ((.le (.int 1) (.fn 1 (.bi .pair (.var 0) (.int 0)))), true),
  ((.le (.int 0) (.fn 7 (.bi .pair (.var 20) (.bi .pair (.fn 1 (.bi .pair (.var 0) (.int 0))) (.int 0))))), true),
  ((.le (.fn 7 (.bi .pair (.var 20) (.bi .pair (.fn 1 (.bi .pair (.var 0) (.int 0))) (.int 0)))) (.fn 1 (.bi .pair (.var 0) (.int 0)))), true),
  ((.le (.int 1) (.fn 1 (.bi .pair (.int 0) (.int 0)))), true),
  ((.le (.int 0) (.fn 7 (.bi .pair (.var 20) (.bi .pair (.fn 1 (.bi .pair (.int 0) (.int 0))) (.int 0))))), true),
  ((.le (.fn 7 (.bi .pair (.var 20) (.bi .pair (.fn 1 (.bi .pair (.int 0) (.int 0))) (.int 0)))) (.fn 1 (.bi .pair (.int 0) (.int 0)))), true),
  ((.le (.bi .mul (.fn 7 (.bi .pair (.var 20) (.bi .pair (.fn 1 (.bi .pair (.var 0) (.int 0))) (.int 0)))) (.int 2)) (.int 281474976710656)), true),
  ((.le (.bi .mul (.fn 7 (.bi .pair (.var 20) (.bi .pair (.fn 1 (.bi .pair (.int 0) (.int 0))) (.int 0)))) (.int 2)) (.int 281474976710656)), true),
  ((.le (.fn 7 (.bi .pair (.var 20) (.bi .pair (.fn 1 (.bi .pair (.var 0) (.int 0))) (.int 0)))) (.int 1000000)), true),
  ((.eq (.fn 20 (.bi .pair (.tr .cut (.tr .cut (.fn 2 (.bi .pair (.var 0) (.int 0))) (.bi .sub (.int 5) (.fn 1 (.bi .pair (.var 0) (.int 0)))) (.bi .add (.bi .sub (.int 5) (.fn 1 (.bi .pair (.var 0) (.int 0)))) (.fn 1 (.bi .pair (.var 0) (.int 0))))) (.int 0) (.fn 7 (.bi .pair (.var 20) (.bi .pair (.fn 1 (.bi .pair (.var 0) (.int 0))) (.int 0))))) (.bi .pair (.int 0) (.bi .pair (.fn 7 (.bi .pair (.var 20) (.bi .pair (.fn 1 (.bi .pair (.var 0) (.int 0))) (.int 0)))) (.int 0))))) (.int 0)), false),
  ((.fit .i64 (.fn 7 (.bi .pair (.var 20) (.bi .pair (.fn 1 (.bi .pair (.var 0) (.int 0))) (.int 0))))), true),
  ((.eq (.fn 23 (.bi .pair (.tr .cut (.tr .cut (.fn 2 (.bi .pair (.var 0) (.int 0))) (.bi .sub (.int 5) (.fn 1 (.bi .pair (.var 0) (.int 0)))) (.bi .add (.bi .sub (.int 5) (.fn 1 (.bi .pair (.var 0) (.int 0)))) (.fn 1 (.bi .pair (.var 0) (.int 0))))) (.int 0) (.fn 7 (.bi .pair (.var 20) (.bi .pair (.fn 1 (.bi .pair (.var 0) (.int 0))) (.int 0))))) (.bi .pair (.int 0) (.bi .pair (.fn 7 (.bi .pair (.var 20) (.bi .pair (.fn 1 (.bi .pair (.var 0) (.int 0))) (.int 0)))) (.int 0))))) (.int 4)), true),
  ((.eq (.fn 24 (.bi .pair (.tr .cut (.tr .cut (.fn 2 (.bi .pair (.var 0) (.int 0))) (.bi .sub (.int 5) (.fn 1 (.bi .pair (.var 0) (.int 0)))) (.bi .add (.bi .sub (.int 5) (.fn 1 (.bi .pair (.var 0) (.int 0)))) (.fn 1 (.bi .pair (.var 0) (.int 0))))) (.int 0) (.fn 7 (.bi .pair (.var 20) (.bi .pair (.fn 1 (.bi .pair (.var 0) (.int 0))) (.int 0))))) (.bi .pair (.int 0) (.bi .pair (.fn 7 (.bi .pair (.var 20) (.bi .pair (.fn 1 (.bi .pair (.var 0) (.int 0))) (.int 0)))) (.int 0))))) (.fn 7 (.bi .pair (.var 20) (.bi .pair (.fn 1 (.bi .pair (.var 0) (.int 0))) (.int 0))))), true),
  ((.eq (.fn 23 (.bi .pair (.tr .cut (.tr .cut (.fn 2 (.bi .pair (.var 0) (.int 0))) (.bi .sub (.int 5) (.fn 1 (.bi .pair (.var 0) (.int 0)))) (.bi .add (.bi .sub (.int 5) (.fn 1 (.bi .pair (.var 0) (.int 0)))) (.fn 1 (.bi .pair (.var 0) (.int 0))))) (.int 0) (.fn 7 (.bi .pair (.var 20) (.bi .pair (.fn 1 (.bi .pair (.var 0) (.int 0))) (.int 0))))) (.bi .pair (.int 0) (.bi .pair (.fn 7 (.bi .pair (.var 20) (.bi .pair (.fn 1 (.bi .pair (.var 0) (.int 0))) (.int 0)))) (.int 0))))) (.int 0)), false),
  ((.le (.fn 7 (.bi .pair (.var 20) (.bi .pair (.fn 1 (.bi .pair (.int 0) (.int 0))) (.int 0)))) (.int 1000000)), true),
  ((.eq (.fn 20 (.bi .pair (.tr .cut (.tr .cut (.fn 2 (.bi .pair (.int 0) (.int 0))) (.bi .sub (.int 5) (.fn 1 (.bi .pair (.int 0) (.int 0)))) (.bi .add (.bi .sub (.int 5) (.fn 1 (.bi .pair (.int 0) (.int 0)))) (.fn 1 (.bi .pair (.int 0) (.int 0))))) (.int 0) (.fn 7 (.bi .pair (.var 20) (.bi .pair (.fn 1 (.bi .pair (.int 0) (.int 0))) (.int 0))))) (.bi .pair (.int 0) (.bi .pair (.fn 7 (.bi .pair (.var 20) (.bi .pair (.fn 1 (.bi .pair (.int 0) (.int 0))) (.int 0)))) (.int 0))))) (.int 0)), false),
  ((.fit .i64 (.fn 7 (.bi .pair (.var 20) (.bi .pair (.fn 1 (.bi .pair (.int 0) (.int 0))) (.int 0))))), true),
  ((.eq (.fn 23 (.bi .pair (.tr .cut (.tr .cut (.fn 2 (.bi .pair (.int 0) (.int 0))) (.bi .sub (.int 5) (.fn 1 (.bi .pair (.int 0) (.int 0)))) (.bi .add (.bi .sub (.int 5) (.fn 1 (.bi .pair (.int 0) (.int 0)))) (.fn 1 (.bi .pair (.int 0) (.int 0))))) (.int 0) (.fn 7 (.bi .pair (.var 20) (.bi .pair (.fn 1 (.bi .pair (.int 0) (.int 0))) (.int 0))))) (.bi .pair (.int 0) (.bi .pair (.fn 7 (.bi .pair (.var 20) (.bi .pair (.fn 1 (.bi .pair (.int 0) (.int 0))) (.int 0)))) (.int 0))))) (.int 4)), true),
  ((.eq (.fn 24 (.bi .pair (.tr .cut (.tr .cut (.fn 2 (.bi .pair (.int 0) (.int 0))) (.bi .sub (.int 5) (.fn 1 (.bi .pair (.int 0) (.int 0)))) (.bi .add (.bi .sub (.int 5) (.fn 1 (.bi .pair (.int 0) (.int 0)))) (.fn 1 (.bi .pair (.int 0) (.int 0))))) (.int 0) (.fn 7 (.bi .pair (.var 20) (.bi .pair (.fn 1 (.bi .pair (.int 0) (.int 0))) (.int 0))))) (.bi .pair (.int 0) (.bi .pair (.fn 7 (.bi .pair (.var 20) (.bi .pair (.fn 1 (.bi .pair (.int 0) (.int 0))) (.int 0)))) (.int 0))))) (.fn 7 (.bi .pair (.var 20) (.bi .pair (.fn 1 (.bi .pair (.int 0) (.int 0))) (.int 0))))), true),
  ((.le (.int 16) (.fn 7 (.bi .pair (.var 20) (.bi .pair (.fn 1 (.bi .pair (.int 0) (.int 0))) (.int 0))))), false)]
set_option maxRecDepth 100000 in
theorem c_nil_y2 : yesOf Try.prog (knownV (tellA c_nil_t2) tab specs overs) 6000 60 6 [.sint .i64 (.var 0), .nilslice, .sint .i64 (.var 20)] (globSt g0) = true := by kernel_rfl
set_option maxHeartbeats 6000000 in
theorem c_nil_walk {W : World} {n0 : Int} (hn0 : inK .i64 n0) {n2 : Int} (hn2 : inK .i64 n2) (hG : GlobsR (om n0 0 0 [] n2) W g0) : Calls Try.prog 6 #[.int .i64 n0, .slice none 0 0, .int .i64 n2] W fun e w' => e = .returned (.bool true) ∧ Below W.heap.size W w' := by
  have r0 := Rel.globs (om n0 0 0 [] n2) W g0 hG
  have hargs : VRs (Env.none (om n0 0 0 [] n2)) [.sint .i64 (.var 0), .nilslice, .sint .i64 (.var 20)] [.int .i64 n0, .slice none 0 0, .int .i64 n2] := VRs_cons (vr_sint (i := 0) hn0 (by rw [r0.opq]; rfl)) (VRs_cons vr_nil (VRs_cons (vr_sint (i := 20) hn2 (by rw [r0.opq]; rfl)) (VRs_nil)))
  simp only [inK, i64min, i64max, u8min, u8max, u32min, u32max, u64min, u64max] at hn0
  simp only [inK, i64min, i64max, u8min, u8max, u32min, u32max, u64min, u64max] at hn2
  by_cases hneg : n0 < 0
  · refine calls_of_yesV sound tab_ok specs_ok overs_ok c_nil_y0 rfl (tellA_ok (allTold'_iff.1 ?_)) r0 hargs
    simp only [c_nil_t0, om_0, om_10, om_11, om_12, om_20, om_f, allTold', dutiesTold, factsA, factsC, factsP, factsR, AV.facts, RW.facts, inK, and_true, Q.holds', E.i, E.s, E.n, D.nat, E.den, BO.den, UO.den, TO.den, D.toInt_int, D.toList_list, D.ints_ofInts, i64min, i64max, u8min, u8max, u16min, u16max, u32min, u32max, u64min, u64max, i32min, i32max, Om.sub, selI, ints_app, ints_cut, ints_upd, ints_rep, ints_splice, ints_seg, len_ints]
    omega
  by_cases hbig : 2147483647 < n0
  · refine calls_of_yesV sound tab_ok specs_ok overs_ok c_nil_y1 rfl (tellA_ok (allTold'_iff.1 ?_)) r0 hargs
    simp only [c_nil_t1, om_0, om_10, om_11, om_12, om_20, om_f, allTold', dutiesTold, factsA, factsC, factsP, factsR, AV.facts, RW.facts, inK, and_true, Q.holds', E.i, E.s, E.n, D.nat, E.den, BO.den, UO.den, TO.den, D.toInt_int, D.toList_list, D.ints_ofInts, i64min, i64max, u8min, u8max, u16min, u16max, u32min, u32max, u64min, u64max, i32min, i32max, Om.sub, selI, ints_app, ints_cut, ints_upd, ints_rep, ints_splice, ints_seg, len_ints]
    omega
  have p0 := five_put (n := n0) (by omega) (by omega)
  have s0 := sz_in n0
  have k0 := emod_in (x := n2) (n := szI n0) (by omega)
  have z0 : (numL ((putL n0).take (n2 % szI n0).toNat)).1 = 1 := by
    have := num_cut (n := n0) (k := (n2 % szI n0).toNat) (by omega) (by omega) (by omega) []
    rwa [List.append_nil] at this
  have p1 := five_put (n := (0 : Int)) (by omega) (by omega)
  have s1 := sz_in (0 : Int)
  have k1 := emod_in (x := n2) (n := szI (0 : Int)) (by omega)
  have z1 : (numL ((putL (0 : Int)).take (n2 % szI (0 : Int)).toNat)).1 = 1 := by
    have := num_cut (n := 0) (k := (n2 % szI (0 : Int)).toNat) (by omega) (by omega) (by omega) []
    rwa [List.append_nil] at this
  refine calls_of_yesV sound tab_ok specs_ok overs_ok c_nil_y2 rfl (tellA_ok (allTold'_iff.1 ?_)) r0 hargs
  simp only [c_nil_t2, om_0, om_10, om_11, om_12, om_20, om_f, F1, F2, F7, F20, F21, F22, F23, F24, Int.zero_add, ints_list, List.map_drop, List.map_take, List.map_append, map_ints, allTold', dutiesTold, factsA, factsC, factsP, factsR, AV.facts, RW.facts, inK, and_true, Q.holds', E.i, E.s, E.n, D.nat, E.den, BO.den, UO.den, TO.den, D.toInt_int, D.toList_list, D.ints_ofInts, i64min, i64max, u8min, u8max, u16min, u16max, u32min, u32max, u64min, u64max, i32min, i32max, Om.sub, selI, ints_app, ints_cut, ints_upd, ints_rep, ints_splice, ints_seg, len_ints]
  simp only [p0, p1, cut_prt, z0, z1, errI, atI]
  and_intros <;> first | omega | rfl | trivial | decide | (split <;> omega) | (simp; done)

def c_hol_t0 : List (Q × Bool) := [((.le (.int 0) (.var 0)), false)]
set_option maxRecDepth 100000 in
theorem c_hol_y0 : yesOf Try.prog (knownV (tellA c_hol_t0) tab specs overs) 6000 60 6 [.sint .i64 (.var 0), .hollow, .sint .i64 (.var 20)] (globSt g0) = true := by kernel_rfl
def c_hol_t1 : List (Q × Bool) := [((.le (.int 0) (.var 0)), true),
  ((.le (.var 0) (.int 2147483647)), false)]
set_option maxRecDepth 100000 in
theorem c_hol_y1 : yesOf Try.prog (knownV (tellA c_hol_t1) tab specs overs) 6000 60 6 [.sint .i64 (.var 0), .hollow, .sint .i64 (.var 20)] (globSt g0) = true := by kernel_rfl
def c_hol_t2 : List (Q × Bool) := [((.le (.int 0) (.var 0)), true),
  ((.le (.var 0) (.int 2147483647)), true),
  ((.le (.bi .add (.bi .sub (.int 5) (.fn 1 (.bi .pair (.var 0) (.int 0)))) (.fn 1 (.bi .pair (.var 0) (.int 0)))) (.int 5)), true),
  ((.eq (.fn 1 (.bi .pair (.var 0) (.int 0))) (.int 0)), false),
  ((.le (.bi .mul (.fn 1 (.bi .pair (.var 0) (.int 0))) (.int 2)) (.int 281474976710656)), true),
  ((.fit .i64 (.fn 1 (.bi .pair (.var 0) (.int 0)))), true),
  ((.le (.bi .add (.bi .sub (.int 5) (.fn 1 (.bi .pair (.int 0) (.int 0)))) (.fn 1 (.bi .pair (.int 0) (.int 0)))) (.int 5)), true),
  ((.eq (.fn 1 (.bi .pair (.int 0) (.int 0))) (.int 0)), false),
  ((.le (.bi .mul (.fn 1 (.bi .pair (.int 0) (.int 0))) (.int 2)) (.int 281474976710656)), true),
  ((.fit .i64 (.fn 1 (.bi .pair (.int 0) (.int 0)))), true),
  ((.le (.int 1) (.fn 1 (.bi .pair (.var 0) (.int 0)))), true),
  ((.le (.int 0) (.fn 7 (.bi .pair (.var 20) (.bi .pair (.fn 1 (.bi .pair (.var 0) (.int 0))) (.int 0))))), true),
  ((.le (.fn 7 (.bi .pair (.var 20) (.bi .pair (.fn 1 (.bi .pair (.var 0) (.int 0))) (.int 0)))) (.fn 1 (.bi .pair (.var 0) (.int 0)))), true),
  ((.le (.int 1) (.fn 1 (.bi .pair (.int 0) (.int 0)))), true),
  ((.le (.int 0) (.fn 7 (.bi .pair (.var 20) (.bi .pair (.fn 1 (.bi .pair (.int 0) (.int 0))) (.int 0))))), true),
  ((.le (.fn 7 (.bi .pair (.var 20) (.bi .pair (.fn 1 (.bi .pair (.int 0) (.int 0))) (.int 0)))) (.fn 1 (.bi .pair (.int 0) (.int 0)))), true),
  ((.le (.bi .mul (.fn 7 (.bi .pair (.var 20) (.bi .pair (.fn 1 (.bi .pair (.var 0) (.int 0))) (.int 0)))) (.int 2)) (.int 281474976710656)), true),
  ((.le (.bi .mul (.fn 7 (.bi .pair (.var 20) (.bi .pair (.fn 1 (.bi .pair (.int 0) (.int 0))) (.int 0)))) (.int 2)) (.int 281474976710656)), true),
  ((.le (.fn 7 (.bi .pair (.var 20) (.bi .pair (.fn 1 (.bi .pair (.var 0) (.int 0))) (.int 0)))) (.int 1000000)), true),
  ((.eq (.fn 20 (.bi .pair (.tr .cut (.tr .cut (.fn 2 (.bi .pair (.var 0) (.int 0))) (.bi .sub (.int 5) (.fn 1 (.bi .pair (.var 0) (.int 0)))) (.bi .add (.bi .sub (.int 5) (.fn 1 (.bi .pair (.var 0) (.int 0)))) (.fn 1 (.bi .pair (.var 0) (.int 0))))) (.int 0) (.fn 7 (.bi .pair (.var 20) (.bi .pair (.fn 1 (.bi .pair (.var 0) (.int 0))) (.int 0))))) (.bi .pair (.int 0) (.bi .pair (.fn 7 (.bi .pair (.var 20) (.bi .pair (.fn 1 (.bi .pair (.var 0) (.int 0))) (.int 0)))) (.int 0))))) (.int 0)), false),
  ((.fit .i64 (.fn 7 (.bi .pair (.var 20) (.bi .pair (.fn 1 (.bi .pair (.var 0) (.int 0))) (.int 0))))), true),
  ((.eq (.fn 23 (.bi .pair (.tr .cut (.tr .cut (.fn 2 (.bi .pair (.var 0) (.int 0))) (.bi .sub (.int 5) (.fn 1 (.bi .pair (.var 0) (.int 0)))) (.bi .add (.bi .sub (.int 5) (.fn 1 (.bi .pair (.var 0) (.int 0)))) (.fn 1 (.bi .pair (.var 0) (.int 0))))) (.int 0) (.fn 7 (.bi .pair (.var 20) (.bi .pair (.fn 1 (.bi .pair (.var 0) (.int 0))) (.int 0))))) (.bi .pair (.int 0) (.bi .pair (.fn 7 (.bi .pair (.var 20) (.bi .pair (.fn 1 (.bi .pair (.var 0) (.int 0))) (.int 0)))) (.int 0))))) (.int 4)), true),
  ((.eq (.fn 24 (.bi .pair (.tr .cut (.tr .cut (.fn 2 (.bi .pair (.var 0) (.int 0))) (.bi .sub (.int 5) (.fn 1 (.bi .pair (.var 0) (.int 0)))) (.bi .add (.bi .sub (.int 5) (.fn 1 (.bi .pair (.var 0) (.int 0)))) (.fn 1 (.bi .pair (.var 0) (.int 0))))) (.int 0) (.fn 7 (.bi .pair (.var 20) (.bi .pair (.fn 1 (.bi .pair (.var 0) (.int 0))) (.int 0))))) (.bi .pair (.int 0) (.bi .pair (.fn 7 (.bi .pair (.var 20) (.bi .pair (.fn 1 (.bi .pair (.var 0) (.int 0))) (.int 0)))) (.int 0))))) (.fn 7 (.bi .pair (.var 20) (.bi .pair (.fn 1 (.bi .pair (.var 0) (.int 0))) (.int 0))))), true),
  ((.eq (.fn 23 (.bi .pair (.tr .cut (.tr .cut (.fn 2 (.bi .pair (.var 0) (.int 0))) (.bi .sub (.int 5) (.fn 1 (.bi .pair (.var 0) (.int 0)))) (.bi .add (.bi .sub (.int 5) (.fn 1 (.bi .pair (.var 0) (.int 0)))) (.fn 1 (.bi .pair (.var 0) (.int 0))))) (.int 0) (.fn 7 (.bi .pair (.var 20) (.bi .pair (.fn 1 (.bi .pair (.var 0) (.int 0))) (.int 0))))) (.bi .pair (.int 0) (.bi .pair (.fn 7 (.bi .pair (.var 20) (.bi .pair (.fn 1 (.bi .pair (.var 0) (.int 0))) (.int 0)))) (.int 0))))) (.int 0)), false),
  ((.le (.fn 7 (.bi .pair (.var 20) (.bi .pair (.fn 1 (.bi .pair (.int 0) (.int 0))) (.int 0)))) (.int 1000000)), true),
  ((.eq (.fn 20 (.bi .pair (.tr .cut (.tr .cut (.fn 2 (.bi .pair (.int 0) (.int 0))) (.bi .sub (.int 5) (.fn 1 (.bi .pair (.int 0) (.int 0)))) (.bi .add (.bi .sub (.int 5) (.fn 1 (.bi .pair (.int 0) (.int 0)))) (.fn 1 (.bi .pair (.int 0) (.int 0))))) (.int 0) (.fn 7 (.bi .pair (.var 20) (.bi .pair (.fn 1 (.bi .pair (.int 0) (.int 0))) (.int 0))))) (.bi .pair (.int 0) (.bi .pair (.fn 7 (.bi .pair (.var 20) (.bi .pair (.fn 1 (.bi .pair (.int 0) (.int 0))) (.int 0)))) (.int 0))))) (.int 0)), false),
  ((.fit .i64 (.fn 7 (.bi .pair (.var 20) (.bi .pair (.fn 1 (.bi .pair (.int 0) (.int 0))) (.int 0))))), true),
  ((.eq (.fn 23 (.bi .pair (.tr .cut (.tr .cut (.fn 2 (.bi .pair (.int 0) (.int 0))) (.bi .sub (.int 5) (.fn 1 (.bi .pair (.int 0) (.int 0)))) (.bi .add (.bi .sub (.int 5) (.fn 1 (.bi .pair (.int 0) (.int 0)))) (.fn 1 (.bi .pair (.int 0) (.int 0))))) (.int 0) (.fn 7 (.bi .pair (.var 20) (.bi .pair (.fn 1 (.bi .pair (.int 0) (.int 0))) (.int 0))))) (.bi .pair (.int 0) (.bi .pair (.fn 7 (.bi .pair (.var 20) (.bi .pair (.fn 1 (.bi .pair (.int 0) (.int 0))) (.int 0)))) (.int 0))))) (.int 4)), true),
  ((.eq (.fn 24 (.bi .pair (.tr .cut (.tr .cut (.fn 2 (.bi .pair (.int 0) (.int 0))) (.bi .sub (.int 5) (.fn 1 (.bi .pair (.int 0) (.int 0)))) (.bi .add (.bi .sub (.int 5) (.fn 1 (.bi .pair (.int 0) (.int 0)))) (.fn 1 (.bi .pair (.int 0) (.int 0))))) (.int 0) (.fn 7 (.bi .pair (.var 20) (.bi .pair (.fn 1 (.bi .pair (.int 0) (.int 0))) (.int 0))))) (.bi .pair (.int 0) (.bi .pair (.fn 7 (.bi .pair (.var 20) (.bi .pair (.fn 1 (.bi .pair (.int 0) (.int 0))) (.int 0)))) (.int 0))))) (.fn 7 (.bi .pair (.var 20) (.bi .pair (.fn 1 (.bi .pair (.int 0) (.int 0))) (.int 0))))), true),
  ((.le (.int 16) (.fn 7 (.bi .pair (.var 20) (.bi .pair (.fn 1 (.bi .pair (.int 0) (.int 0))) (.int 0))))), false)]
set_option maxRecDepth 100000 in
theorem c_hol_y2 : yesOf Try.prog (knownV (tellA c_hol_t2) tab specs overs) 6000 60 6 [.sint .i64 (.var 0), .hollow, .sint .i64 (.var 20)] (globSt g0) = true := by kernel_rfl
set_option maxHeartbeats 6000000 in
theorem c_hol_walk {W : World} {n0 : Int} (hn0 : inK .i64 n0) (a1 : Addr) (c1 : Nat) {n2 : Int} (hn2 : inK .i64 n2) (hG : GlobsR (om n0 0 0 [] n2) W g0) : Calls Try.prog 6 #[.int .i64 n0, .slice (some a1) 0 c1, .int .i64 n2] W fun e w' => e = .returned (.bool true) ∧ Below W.heap.size W w' := by
  have r0 := Rel.globs (om n0 0 0 [] n2) W g0 hG
  have hargs : VRs (Env.none (om n0 0 0 [] n2)) [.sint .i64 (.var 0), .hollow, .sint .i64 (.var 20)] [.int .i64 n0, .slice (some a1) 0 c1, .int .i64 n2] := VRs_cons (vr_sint (i := 0) hn0 (by rw [r0.opq]; rfl)) (VRs_cons (vr_hollow a1 c1) (VRs_cons (vr_sint (i := 20) hn2 (by rw [r0.opq]; rfl)) (VRs_nil)))
  simp only [inK, i64min, i64max, u8min, u8max, u32min, u32max, u64min, u64max] at hn0
  simp only [inK, i64min, i64max, u8min, u8max, u32min, u32max, u64min, u64max] at hn2
  by_cases hneg : n0 < 0
  · refine calls_of_yesV sound tab_ok specs_ok overs_ok c_hol_y0 rfl (tellA_ok (allTold'_iff.1 ?_)) r0 hargs
    simp only [c_hol_t0, om_0, om_10, om_11, om_12, om_20, om_f, allTold', dutiesTold, factsA, factsC, factsP, factsR, AV.facts, RW.facts, inK, and_true, Q.holds', E.i, E.s, E.n, D.nat, E.den, BO.den, UO.den, TO.den, D.toInt_int, D.toList_list, D.ints_ofInts, i64min, i64max, u8min, u8max, u16min, u16max, u32min, u32max, u64min, u64max, i32min, i32max, Om.sub, selI, ints_app, ints_cut, ints_upd, ints_rep, ints_splice, ints_seg, len_ints]
    omega
  by_cases hbig : 2147483647 < n0
  · refine calls_of_yesV sound tab_ok specs_ok overs_ok c_hol_y1 rfl (tellA_ok (allTold'_iff.1 ?_)) r0 hargs
    simp only [c_hol_t1, om_0, om_10, om_11, om_12, om_20, om_f, allTold', dutiesTold, factsA, factsC, factsP, factsR, AV.facts, RW.facts, inK, and_true, Q.holds', E.i, E.s, E.n, D.nat, E.den, BO.den, UO.den, TO.den, D.toInt_int, D.toList_list, D.ints_ofInts, i64min, i64max, u8min, u8max, u16min, u16max, u32min, u32max, u64min, u64max, i32min, i32max, Om.sub, selI, ints_app, ints_cut, ints_upd, ints_rep, ints_splice, ints_seg, len_ints]
    omega
  have p0 := five_put (n := n0) (by omega) (by omega)
  have s0 := sz_in n0
  have k0 := emod_in (x := n2) (n := szI n0) (by omega)
  have z0 : (numL ((putL n0).take (n2 % szI n0).toNat)).1 = 1 := by
    have := num_cut (n := n0) (k := (n2 % szI n0).toNat) (by omega) (by omega) (by omega) []
    rwa [List.append_nil] at this
  have p1 := five_put (n := (0 : Int)) (by omega) (by omega)
  have s1 := sz_in (0 : Int)
  have k1 := emod_in (x := n2) (n := szI (0 : Int)) (by omega)
  have z1 : (numL ((putL (0 : Int)).take (n2 % szI (0 : Int)).toNat)).1 = 1 := by
    have := num_cut (n := 0) (k := (n2 % szI (0 : Int)).toNat) (by omega) (by omega) (by omega) []
    rwa [List.append_nil] at this
  refine calls_of_yesV sound tab_ok specs_ok overs_ok c_hol_y2 rfl (tellA_ok (allTold'_iff.1 ?_)) r0 hargs
  simp only [c_hol_t2, om_0, om_10, om_11, om_12, om_20, om_f, F1, F2, F7, F20, F21, F22, F23, F24, Int.zero_add, ints_list, List.map_drop, List.map_take, List.map_append, map_ints, allTold', dutiesTold, factsA, factsC, factsP, factsR, AV.facts, RW.facts, inK, and_true, Q.holds', E.i, E.s, E.n, D.nat, E.den, BO.den, UO.den, TO.den, D.toInt_int, D.toList_list, D.ints_ofInts, i64min, i64max, u8min, u8max, u16min, u16max, u32min, u32max, u64min, u64max, i32min, i32max, Om.sub, selI, ints_app, ints_cut, ints_upd, ints_rep, ints_splice, ints_seg, len_ints]
  simp only [p0, p1, cut_prt, z0, z1, errI, atI]
  and_intros <;> first | omega | rfl | trivial | decide | (split <;> omega) | (simp; done)

def c_in_t0 : List (Q × Bool) := [((.le (.int 0) (.var 0)), false),
  ((.fit .i64 (.var 10)), true),
  ((.le (.var 10) (.int 300)), true)]
set_option maxRecDepth 100000 in
theorem c_in_y0 : yesOf Try.prog (knownV (tellA c_in_t0) tab specs overs) 6000 60 6 [.sint .i64 (.var 0), .sslice 1 (.int 0) (.var 10) (.var 11) false, .sint .i64 (.var 20)] ((globSt g0).newO (.eseq ⟨.u8, .var 10, .var 12⟩)) = true := by kernel_rfl
def c_in_t1 : List (Q × Bool) := [((.le (.int 0) (.var 0)), true),
  ((.le (.var 0) (.int 2147483647)), false),
  ((.fit .i64 (.var 10)), true),
  ((.le (.var 10) (.int 300)), true)]
set_option maxRecDepth 100000 in
theorem c_in_y1 : yesOf Try.prog (knownV (tellA c_in_t1) tab specs overs) 6000 60 6 [.sint .i64 (.var 0), .sslice 1 (.int 0) (.var 10) (.var 11) false, .sint .i64 (.var 20)] ((globSt g0).newO (.eseq ⟨.u8, .var 10, .var 12⟩)) = true := by kernel_rfl
def c_in_t2 : List (Q × Bool) := [((.le (.int 0) (.var 0)), true),
  ((.le (.var 0) (.int 2147483647)), true),
  ((.le (.bi .add (.bi .sub (.int 5) (.fn 1 (.bi .pair (.var 0) (.int 0)))) (.fn 1 (.bi .pair (.var 0) (.int 0)))) (.int 5)), true),
  ((.eq (.fn 1 (.bi .pair (.var 0) (.int 0))) (.int 0)), false),
  ((.le (.bi .mul (.fn 1 (.bi .pair (.var 0) (.int 0))) (.int 2)) (.int 281474976710656)), true),
  ((.fit .i64 (.var 10)), true),
  ((.le (.var 10) (.int 300)), false)]
set_option maxRecDepth 100000 in
theorem c_in_y2 : yesOf Try.prog (knownV (tellA c_in_t2) tab specs overs) 6000 60 6 [.sint .i64 (.var 0), .sslice 1 (.int 0) (.var 10) (.var 11) false, .sint .i64 (.var 20)] ((globSt g0).newO (.eseq ⟨.u8, .var 10, .var 12⟩)) = true := by kernel_rfl
def c_in_t3 : List (Q × Bool) := [((.le (.int 0) (.var 0)), true),
  ((.le (.var 0) (.int 2147483647)), true),
  ((.le (.bi .add (.bi .sub (.int 5) (.fn 1 (.bi .pair (.var 0) (.int 0)))) (.fn 1 (.bi .pair (.var 0) (.int 0)))) (.int 5)), true),
  ((.eq (.fn 1 (.bi .pair (.var 0) (.int 0))) (.int 0)), false),
  ((.le (.bi .mul (.fn 1 (.bi .pair (.var 0) (.int 0))) (.int 2)) (.int 281474976710656)), true),
  ((.fit .i64 (.var 10)), true),
  ((.le (.var 10) (.int 300)), true),
  ((.fit .i64 (.fn 1 (.bi .pair (.var 0) (.int 0)))), true),
  ((.le (.int 0) (.var 10)), true),
  ((.le (.var 10) (.int 2147483647)), true),
  ((.le (.bi .add (.bi .sub (.int 5) (.fn 1 (.bi .pair (.var 10) (.int 0)))) (.fn 1 (.bi .pair (.var 10) (.int 0)))) (.int 5)), true),
  ((.eq (.fn 1 (.bi .pair (.var 10) (.int 0))) (.int 0)), false),
  ((.le (.bi .mul (.fn 1 (.bi .pair (.var 10) (.int 0))) (.int 2)) (.int 281474976710656)), true),
  ((.le (.bi .mul (.bi .add (.fn 1 (.bi .pair (.var 10) (.int 0))) (.var 10)) (.int 2)) (.int 281474976710656)), true),
  ((.fit .i64 (.bi .add (.fn 1 (.bi .pair (.var 10) (.int 0))) (.var 10))), true),
  ((.eq (.bi .add (.fn 1 (.bi .pair (.var 10) (.int 0))) (.var 10)) (.int 0)), false),
  ((.le (.int 1) (.fn 1 (.bi .pair (.var 0) (.int 0)))), true),
  ((.le (.int 0) (.fn 7 (.bi .pair (.var 20) (.bi .pair (.fn 1 (.bi .pair (.var 0) (.int 0))) (.int 0))))), true),
  ((.le (.fn 7 (.bi .pair (.var 20) (.bi .pair (.fn 1 (.bi .pair (.var 0) (.int 0))) (.int 0)))) (.fn 1 (.bi .pair (.var 0) (.int 0)))), true),
  ((.le (.int 1) (.bi .add (.fn 1 (.bi .pair (.var 10) (.int 0))) (.var 10))), true),
  ((.le (.int 0) (.fn 7 (.bi .pair (.var 20) (.bi .pair (.bi .add (.fn 1 (.bi .pair (.var 10) (.int 0))) (.var 10)) (.int 0))))), true),
  ((.le (.fn 7 (.bi .pair (.var 20) (.bi .pair (.bi .add (.fn 1 (.bi .pair (.var 10) (.int 0))) (.var 10)) (.int 0)))) (.bi .add (.fn 1 (.bi .pair (.var 10) (.int 0))) (.var 10))), true),
  ((.le (.bi .mul (.fn 7 (.bi .pair (.var 20) (.bi .pair (.fn 1 (.bi .pair (.var 0) (.int 0))) (.int 0)))) (.int 2)) (.int 281474976710656)), true),
  ((.le (.bi .mul (.fn 7 (.bi .pair (.var 20) (.bi .pair (.bi .add (.fn 1 (.bi .pair (.var 10) (.int 0))) (.var 10)) (.int 0)))) (.int 2)) (.int 281474976710656)), true),
  ((.le (.fn 7 (.bi .pair (.var 20) (.bi .pair (.fn 1 (.bi .pair (.var 0) (.int 0))) (.int 0)))) (.int 1000000)), true),
  ((.eq (.fn 20 (.bi .pair (.tr .cut (.tr .cut (.fn 2 (.bi .pair (.var 0) (.int 0))) (.bi .sub (.int 5) (.fn 1 (.bi .pair (.var 0) (.int 0)))) (.bi .add (.bi .sub (.int 5) (.fn 1 (.bi .pair (.var 0) (.int 0)))) (.fn 1 (.bi .pair (.var 0) (.int 0))))) (.int 0) (.fn 7 (.bi .pair (.var 20) (.bi .pair (.fn 1 (.bi .pair (.var 0) (.int 0))) (.int 0))))) (.bi .pair (.int 0) (.bi .pair (.fn 7 (.bi .pair (.var 20) (.bi .pair (.fn 1 (.bi .pair (.var 0) (.int 0))) (.int 0)))) (.int 0))))) (.int 0)), false),
  ((.fit .i64 (.fn 7 (.bi .pair (.var 20) (.bi .pair (.fn 1 (.bi .pair (.var 0) (.int 0))) (.int 0))))), true),
  ((.eq (.fn 23 (.bi .pair (.tr .cut (.tr .cut (.fn 2 (.bi .pair (.var 0) (.int 0))) (.bi .sub (.int 5) (.fn 1 (.bi .pair (.var 0) (.int 0)))) (.bi .add (.bi .sub (.int 5) (.fn 1 (.bi .pair (.var 0) (.int 0)))) (.fn 1 (.bi .pair (.var 0) (.int 0))))) (.int 0) (.fn 7 (.bi .pair (.var 20) (.bi .pair (.fn 1 (.bi .pair (.var 0) (.int 0))) (.int 0))))) (.bi .pair (.int 0) (.bi .pair (.fn 7 (.bi .pair (.var 20) (.bi .pair (.fn 1 (.bi .pair (.var 0) (.int 0))) (.int 0)))) (.int 0))))) (.int 4)), true),
  ((.eq (.fn 24 (.bi .pair (.tr .cut (.tr .cut (.fn 2 (.bi .pair (.var 0) (.int 0))) (.bi .sub (.int 5) (.fn 1 (.bi .pair (.var 0) (.int 0)))) (.bi .add (.bi .sub (.int 5) (.fn 1 (.bi .pair (.var 0) (.int 0)))) (.fn 1 (.bi .pair (.var 0) (.int 0))))) (.int 0) (.fn 7 (.bi .pair (.var 20) (.bi .pair (.fn 1 (.bi .pair (.var 0) (.int 0))) (.int 0))))) (.bi .pair (.int 0) (.bi .pair (.fn 7 (.bi .pair (.var 20) (.bi .pair (.fn 1 (.bi .pair (.var 0) (.int 0))) (.int 0)))) (.int 0))))) (.fn 7 (.bi .pair (.var 20) (.bi .pair (.fn 1 (.bi .pair (.var 0) (.int 0))) (.int 0))))), true),
  ((.eq (.fn 23 (.bi .pair (.tr .cut (.tr .cut (.fn 2 (.bi .pair (.var 0) (.int 0))) (.bi .sub (.int 5) (.fn 1 (.bi .pair (.var 0) (.int 0)))) (.bi .add (.bi .sub (.int 5) (.fn 1 (.bi .pair (.var 0) (.int 0)))) (.fn 1 (.bi .pair (.var 0) (.int 0))))) (.int 0) (.fn 7 (.bi .pair (.var 20) (.bi .pair (.fn 1 (.bi .pair (.var 0) (.int 0))) (.int 0))))) (.bi .pair (.int 0) (.bi .pair (.fn 7 (.bi .pair (.var 20) (.bi .pair (.fn 1 (.bi .pair (.var 0) (.int 0))) (.int 0)))) (.int 0))))) (.int 0)), false),
  ((.le (.fn 7 (.bi .pair (.var 20) (.bi .pair (.bi .add (.fn 1 (.bi .pair (.var 10) (.int 0))) (.var 10)) (.int 0)))) (.int 1000000)), true),
  ((.eq (.fn 20 (.bi .pair (.tr .cut (.bi .app (.tr .cut (.fn 2 (.bi .pair (.var 10) (.int 0))) (.bi .sub (.int 5) (.fn 1 (.bi .pair (.var 10) (.int 0)))) (.bi .add (.bi .sub (.int 5) (.fn 1 (.bi .pair (.var 10) (.int 0)))) (.fn 1 (.bi .pair (.var 10) (.int 0))))) (.var 12)) (.int 0) (.fn 7 (.bi .pair (.var 20) (.bi .pair (.bi .add (.fn 1 (.bi .pair (.var 10) (.int 0))) (.var 10)) (.int 0))))) (.bi .pair (.int 0) (.bi .pair (.fn 7 (.bi .pair (.var 20) (.bi .pair (.bi .add (.fn 1 (.bi .pair (.var 10) (.int 0))) (.var 10)) (.int 0)))) (.int 0))))) (.int 0)), false),
  ((.fit .i64 (.fn 7 (.bi .pair (.var 20) (.bi .pair (.bi .add (.fn 1 (.bi .pair (.var 10) (.int 0))) (.var 10)) (.int 0))))), true),
  ((.eq (.fn 23 (.bi .pair (.tr .cut (.bi .app (.tr .cut (.fn 2 (.bi .pair (.var 10) (.int 0))) (.bi .sub (.int 5) (.fn 1 (.bi .pair (.var 10) (.int 0)))) (.bi .add (.bi .sub (.int 5) (.fn 1 (.bi .pair (.var 10) (.int 0)))) (.fn 1 (.bi .pair (.var 10) (.int 0))))) (.var 12)) (.int 0) (.fn 7 (.bi .pair (.var 20) (.bi .pair (.bi .add (.fn 1 (.bi .pair (.var 10) (.int 0))) (.var 10)) (.int 0))))) (.bi .pair (.int 0) (.bi .pair (.fn 7 (.bi .pair (.var 20) (.bi .pair (.bi .add (.fn 1 (.bi .pair (.var 10) (.int 0))) (.var 10)) (.int 0)))) (.int 0))))) (.int 4)), true),
  ((.eq (.fn 24 (.bi .pair (.tr .cut (.bi .app (.tr .cut (.fn 2 (.bi .pair (.var 10) (.int 0))) (.bi .sub (.int 5) (.fn 1 (.bi .pair (.var 10) (.int 0)))) (.bi .add (.bi .sub (.int 5) (.fn 1 (.bi .pair (.var 10) (.int 0)))) (.fn 1 (.bi .pair (.var 10) (.int 0))))) (.var 12)) (.int 0) (.fn 7 (.bi .pair (.var 20) (.bi .pair (.bi .add (.fn 1 (.bi .pair (.var 10) (.int 0))) (.var 10)) (.int 0))))) (.bi .pair (.int 0) (.bi .pair (.fn 7 (.bi .pair (.var 20) (.bi .pair (.bi .add (.fn 1 (.bi .pair (.var 10) (.int 0))) (.var 10)) (.int 0)))) (.int 0))))) (.fn 7 (.bi .pair (.var 20) (.bi .pair (.bi .add (.fn 1 (.bi .pair (.var 10) (.int 0))) (.var 10)) (.int 0))))), true),
  ((.le (.int 16) (.fn 7 (.bi .pair (.var 20) (.bi .pair (.bi .add (.fn 1 (.bi .pair (.var 10) (.int 0))) (.var 10)) (.int 0))))), false)]
set_option maxRecDepth 100000 in
theorem c_in_y3 : yesOf Try.prog (knownV (tellA c_in_t3) tab specs overs) 6000 60 6 [.sint .i64 (.var 0), .sslice 1 (.int 0) (.var 10) (.var 11) false, .sint .i64 (.var 20)] ((globSt g0).newO (.eseq ⟨.u8, .var 10, .var 12⟩)) = true := by kernel_rfl
def c_in_t4 : List (Q × Bool) := [((.le (.int 0) (.var 0)), true),
  ((.le (.var 0) (.int 2147483647)), true),
  ((.le (.bi .add (.bi .sub (.int 5) (.fn 1 (.bi .pair (.var 0) (.int 0)))) (.fn 1 (.bi .pair (.var 0) (.int 0)))) (.int 5)), true),
  ((.eq (.fn 1 (.bi .pair (.var 0) (.int 0))) (.int 0)), false),
  ((.le (.bi .mul (.fn 1 (.bi .pair (.var 0) (.int 0))) (.int 2)) (.int 281474976710656)), true),
  ((.fit .i64 (.var 10)), true),
  ((.le (.var 10) (.int 300)), true),
  ((.fit .i64 (.fn 1 (.bi .pair (.var 0) (.int 0)))), true),
  ((.le (.int 0) (.var 10)), true),
  ((.le (.var 10) (.int 2147483647)), true),
  ((.le (.bi .add (.bi .sub (.int 5) (.fn 1 (.bi .pair (.var 10) (.int 0)))) (.fn 1 (.bi .pair (.var 10) (.int 0)))) (.int 5)), true),
  ((.eq (.fn 1 (.bi .pair (.var 10) (.int 0))) (.int 0)), false),
  ((.le (.bi .mul (.fn 1 (.bi .pair (.var 10) (.int 0))) (.int 2)) (.int 281474976710656)), true),
  ((.le (.bi .mul (.bi .add (.fn 1 (.bi .pair (.var 10) (.int 0))) (.var 10)) (.int 2)) (.int 281474976710656)), true),
  ((.fit .i64 (.bi .add (.fn 1 (.bi .pair (.var 10) (.int 0))) (.var 10))), true),
  ((.eq (.bi .add (.fn 1 (.bi .pair (.var 10) (.int 0))) (.var 10)) (.int 0)), false),
  ((.le (.int 1) (.fn 1 (.bi .pair (.var 0) (.int 0)))), true),
  ((.le (.int 0) (.fn 7 (.bi .pair (.var 20) (.bi .pair (.fn 1 (.bi .pair (.var 0) (.int 0))) (.int 0))))), true),
  ((.le (.fn 7 (.bi .pair (.var 20) (.bi .pair (.fn 1 (.bi .pair (.var 0) (.int 0))) (.int 0)))) (.fn 1 (.bi .pair (.var 0) (.int 0)))), true),
  ((.le (.int 1) (.bi .add (.fn 1 (.bi .pair (.var 10) (.int 0))) (.var 10))), true),
  ((.le (.int 0) (.fn 7 (.bi .pair (.var 20) (.bi .pair (.bi .add (.fn 1 (.bi .pair (.var 10) (.int 0))) (.var 10)) (.int 0))))), true),
  ((.le (.fn 7 (.bi .pair (.var 20) (.bi .pair (.bi .add (.fn 1 (.bi .pair (.var 10) (.int 0))) (.var 10)) (.int 0)))) (.bi .add (.fn 1 (.bi .pair (.var 10) (.int 0))) (.var 10))), true),
  ((.le (.bi .mul (.fn 7 (.bi .pair (.var 20) (.bi .pair (.fn 1 (.bi .pair (.var 0) (.int 0))) (.int 0)))) (.int 2)) (.int 281474976710656)), true),
  ((.le (.bi .mul (.fn 7 (.bi .pair (.var 20) (.bi .pair (.bi .add (.fn 1 (.bi .pair (.var 10) (.int 0))) (.var 10)) (.int 0)))) (.int 2)) (.int 281474976710656)), true),
  ((.le (.fn 7 (.bi .pair (.var 20) (.bi .pair (.fn 1 (.bi .pair (.var 0) (.int 0))) (.int 0)))) (.int 1000000)), true),
  ((.eq (.fn 20 (.bi .pair (.tr .cut (.tr .cut (.fn 2 (.bi .pair (.var 0) (.int 0))) (.bi .sub (.int 5) (.fn 1 (.bi .pair (.var 0) (.int 0)))) (.bi .add (.bi .sub (.int 5) (.fn 1 (.bi .pair (.var 0) (.int 0)))) (.fn 1 (.bi .pair (.var 0) (.int 0))))) (.int 0) (.fn 7 (.bi .pair (.var 20) (.bi .pair (.fn 1 (.bi .pair (.var 0) (.int 0))) (.int 0))))) (.bi .pair (.int 0) (.bi .pair (.fn 7 (.bi .pair (.var 20) (.bi .pair (.fn 1 (.bi .pair (.var 0) (.int 0))) (.int 0)))) (.int 0))))) (.int 0)), false),
  ((.fit .i64 (.fn 7 (.bi .pair (.var 20) (.bi .pair (.fn 1 (.bi .pair (.var 0) (.int 0))) (.int 0))))), true),
  ((.eq (.fn 23 (.bi .pair (.tr .cut (.tr .cut (.fn 2 (.bi .pair (.var 0) (.int 0))) (.bi .sub (.int 5) (.fn 1 (.bi .pair (.var 0) (.int 0)))) (.bi .add (.bi .sub (.int 5) (.fn 1 (.bi .pair (.var 0) (.int 0)))) (.fn 1 (.bi .pair (.var 0) (.int 0))))) (.int 0) (.fn 7 (.bi .pair (.var 20) (.bi .pair (.fn 1 (.bi .pair (.var 0) (.int 0))) (.int 0))))) (.bi .pair (.int 0) (.bi .pair (.fn 7 (.bi .pair (.var 20) (.bi .pair (.fn 1 (.bi .pair (.var 0) (.int 0))) (.int 0)))) (.int 0))))) (.int 4)), true),
  ((.eq (.fn 24 (.bi .pair (.tr .cut (.tr .cut (.fn 2 (.bi .pair (.var 0) (.int 0))) (.bi .sub (.int 5) (.fn 1 (.bi .pair (.var 0) (.int 0)))) (.bi .add (.bi .sub (.int 5) (.fn 1 (.bi .pair (.var 0) (.int 0)))) (.fn 1 (.bi .pair (.var 0) (.int 0))))) (.int 0) (.fn 7 (.bi .pair (.var 20) (.bi .pair (.fn 1 (.bi .pair (.var 0) (.int 0))) (.int 0))))) (.bi .pair (.int 0) (.bi .pair (.fn 7 (.bi .pair (.var 20) (.bi .pair (.fn 1 (.bi .pair (.var 0) (.int 0))) (.int 0)))) (.int 0))))) (.fn 7 (.bi .pair (.var 20) (.bi .pair (.fn 1 (.bi .pair (.var 0) (.int 0))) (.int 0))))), true),
  ((.eq (.fn 23 (.bi .pair (.tr .cut (.tr .cut (.fn 2 (.bi .pair (.var 0) (.int 0))) (.bi .sub (.int 5) (.fn 1 (.bi .pair (.var 0) (.int 0)))) (.bi .add (.bi .sub (.int 5) (.fn 1 (.bi .pair (.var 0) (.int 0)))) (.fn 1 (.bi .pair (.var 0) (.int 0))))) (.int 0) (.fn 7 (.bi .pair (.var 20) (.bi .pair (.fn 1 (.bi .pair (.var 0) (.int 0))) (.int 0))))) (.bi .pair (.int 0) (.bi .pair (.fn 7 (.bi .pair (.var 20) (.bi .pair (.fn 1 (.bi .pair (.var 0) (.int 0))) (.int 0)))) (.int 0))))) (.int 0)), false),
  ((.le (.fn 7 (.bi .pair (.var 20) (.bi .pair (.bi .add (.fn 1 (.bi .pair (.var 10) (.int 0))) (.var 10)) (.int 0)))) (.int 1000000)), true),
  ((.eq (.fn 20 (.bi .pair (.tr .cut (.bi .app (.tr .cut (.fn 2 (.bi .pair (.var 10) (.int 0))) (.bi .sub (.int 5) (.fn 1 (.bi .pair (.var 10) (.int 0)))) (.bi .add (.bi .sub (.int 5) (.fn 1 (.bi .pair (.var 10) (.int 0)))) (.fn 1 (.bi .pair (.var 10) (.int 0))))) (.var 12)) (.int 0) (.fn 7 (.bi .pair (.var 20) (.bi .pair (.bi .add (.fn 1 (.bi .pair (.var 10) (.int 0))) (.var 10)) (.int 0))))) (.bi .pair (.int 0) (.bi .pair (.fn 7 (.bi .pair (.var 20) (.bi .pair (.bi .add (.fn 1 (.bi .pair (.var 10) (.int 0))) (.var 10)) (.int 0)))) (.int 0))))) (.int 0)), true),
  ((.le (.fn 21 (.bi .pair (.tr .cut (.bi .app (.tr .cut (.fn 2 (.bi .pair (.var 10) (.int 0))) (.bi .sub (.int 5) (.fn 1 (.bi .pair (.var 10) (.int 0)))) (.bi .add (.bi .sub (.int 5) (.fn 1 (.bi .pair (.var 10) (.int 0)))) (.fn 1 (.bi .pair (.var 10) (.int 0))))) (.var 12)) (.int 0) (.fn 7 (.bi .pair (.var 20) (.bi .pair (.bi .add (.fn 1 (.bi .pair (.var 10) (.int 0))) (.var 10)) (.int 0))))) (.bi .pair (.int 0) (.bi .pair (.fn 7 (.bi .pair (.var 20) (.bi .pair (.bi .add (.fn 1 (.bi .pair (.var 10) (.int 0))) (.var 10)) (.int 0)))) (.int 0))))) (.int 300)), true),
  ((.fit .i64 (.fn 7 (.bi .pair (.var 20) (.bi .pair (.bi .add (.fn 1 (.bi .pair (.var 10) (.int 0))) (.var 10)) (.int 0))))), true),
  ((.fit .i64 (.bi .sub (.fn 7 (.bi .pair (.var 20) (.bi .pair (.bi .add (.fn 1 (.bi .pair (.var 10) (.int 0))) (.var 10)) (.int 0)))) (.bi .add (.int 0) (.fn 22 (.bi .pair (.tr .cut (.bi .app (.tr .cut (.fn 2 (.bi .pair (.var 10) (.int 0))) (.bi .sub (.int 5) (.fn 1 (.bi .pair (.var 10) (.int 0)))) (.bi .add (.bi .sub (.int 5) (.fn 1 (.bi .pair (.var 10) (.int 0)))) (.fn 1 (.bi .pair (.var 10) (.int 0))))) (.var 12)) (.int 0) (.fn 7 (.bi .pair (.var 20) (.bi .pair (.bi .add (.fn 1 (.bi .pair (.var 10) (.int 0))) (.var 10)) (.int 0))))) (.bi .pair (.int 0) (.bi .pair (.fn 7 (.bi .pair (.var 20) (.bi .pair (.bi .add (.fn 1 (.bi .pair (.var 10) (.int 0))) (.var 10)) (.int 0)))) (.int 0)))))))), true),
  ((.le (.fn 21 (.bi .pair (.tr .cut (.bi .app (.tr .cut (.fn 2 (.bi .pair (.var 10) (.int 0))) (.bi .sub (.int 5) (.fn 1 (.bi .pair (.var 10) (.int 0)))) (.bi .add (.bi .sub (.int 5) (.fn 1 (.bi .pair (.var 10) (.int 0)))) (.fn 1 (.bi .pair (.var 10) (.int 0))))) (.var 12)) (.int 0) (.fn 7 (.bi .pair (.var 20) (.bi .pair (.bi .add (.fn 1 (.bi .pair (.var 10) (.int 0))) (.var 10)) (.int 0))))) (.bi .pair (.int 0) (.bi .pair (.fn 7 (.bi .pair (.var 20) (.bi .pair (.bi .add (.fn 1 (.bi .pair (.var 10) (.int 0))) (.var 10)) (.int 0)))) (.int 0))))) (.bi .sub (.fn 7 (.bi .pair (.var 20) (.bi .pair (.bi .add (.fn 1 (.bi .pair (.var 10) (.int 0))) (.var 10)) (.int 0)))) (.bi .add (.int 0) (.fn 22 (.bi .pair (.tr .cut (.bi .app (.tr .cut (.fn 2 (.bi .pair (.var 10) (.int 0))) (.bi .sub (.int 5) (.fn 1 (.bi .pair (.var 10) (.int 0)))) (.bi .add (.bi .sub (.int 5) (.fn 1 (.bi .pair (.var 10) (.int 0)))) (.fn 1 (.bi .pair (.var 10) (.int 0))))) (.var 12)) (.int 0) (.fn 7 (.bi .pair (.var 20) (.bi .pair (.bi .add (.fn 1 (.bi .pair (.var 10) (.int 0))) (.var 10)) (.int 0))))) (.bi .pair (.int 0) (.bi .pair (.fn 7 (.bi .pair (.var 20) (.bi .pair (.bi .add (.fn 1 (.bi .pair (.var 10) (.int 0))) (.var 10)) (.int 0)))) (.int 0)))))))), false),
  ((.le (.int 16) (.fn 7 (.bi .pair (.var 20) (.bi .pair (.bi .add (.fn 1 (.bi .pair (.var 10) (.int 0))) (.var 10)) (.int 0))))), false)]
set_option maxRecDepth 100000 in
theorem c_in_y4 : yesOf Try.prog (knownV (tellA c_in_t4) tab specs overs) 6000 60 6 [.sint .i64 (.var 0), .sslice 1 (.int 0) (.var 10) (.var 11) false, .sint .i64 (.var 20)] ((globSt g0).newO (.eseq ⟨.u8, .var 10, .var 12⟩)) = true := by kernel_rfl
def c_in_t5 : List (Q × Bool) := [((.le (.int 0) (.var 0)), true),
  ((.le (.var 0) (.int 2147483647)), true),
  ((.le (.bi .add (.bi .sub (.int 5) (.fn 1 (.bi .pair (.var 0) (.int 0)))) (.fn 1 (.bi .pair (.var 0) (.int 0)))) (.int 5)), true),
  ((.eq (.fn 1 (.bi .pair (.var 0) (.int 0))) (.int 0)), false),
  ((.le (.bi .mul (.fn 1 (.bi .pair (.var 0) (.int 0))) (.int 2)) (.int 281474976710656)), true),
  ((.fit .i64 (.var 10)), true),
  ((.le (.var 10) (.int 300)), true),
  ((.fit .i64 (.fn 1 (.bi .pair (.var 0) (.int 0)))), true),
  ((.le (.int 0) (.var 10)), true),
  ((.le (.var 10) (.int 2147483647)), true),
  ((.le (.bi .add (.bi .sub (.int 5) (.fn 1 (.bi .pair (.var 10) (.int 0)))) (.fn 1 (.bi .pair (.var 10) (.int 0)))) (.int 5)), true),
  ((.eq (.fn 1 (.bi .pair (.var 10) (.int 0))) (.int 0)), false),
  ((.le (.bi .mul (.fn 1 (.bi .pair (.var 10) (.int 0))) (.int 2)) (.int 281474976710656)), true),
  ((.le (.bi .mul (.bi .add (.fn 1 (.bi .pair (.var 10) (.int 0))) (.var 10)) (.int 2)) (.int 281474976710656)), true),
  ((.fit .i64 (.bi .add (.fn 1 (.bi .pair (.var 10) (.int 0))) (.var 10))), true),
  ((.eq (.bi .add (.fn 1 (.bi .pair (.var 10) (.int 0))) (.var 10)) (.int 0)), false),
  ((.le (.int 1) (.fn 1 (.bi .pair (.var 0) (.int 0)))), true),
  ((.le (.int 0) (.fn 7 (.bi .pair (.var 20) (.bi .pair (.fn 1 (.bi .pair (.var 0) (.int 0))) (.int 0))))), true),
  ((.le (.fn 7 (.bi .pair (.var 20) (.bi .pair (.fn 1 (.bi .pair (.var 0) (.int 0))) (.int 0)))) (.fn 1 (.bi .pair (.var 0) (.int 0)))), true),
  ((.le (.int 1) (.bi .add (.fn 1 (.bi .pair (.var 10) (.int 0))) (.var 10))), true),
  ((.le (.int 0) (.fn 7 (.bi .pair (.var 20) (.bi .pair (.bi .add (.fn 1 (.bi .pair (.var 10) (.int 0))) (.var 10)) (.int 0))))), true),
  ((.le (.fn 7 (.bi .pair (.var 20) (.bi .pair (.bi .add (.fn 1 (.bi .pair (.var 10) (.int 0))) (.var 10)) (.int 0)))) (.bi .add (.fn 1 (.bi .pair (.var 10) (.int 0))) (.var 10))), true),
  ((.le (.bi .mul (.fn 7 (.bi .pair (.var 20) (.bi .pair (.fn 1 (.bi .pair (.var 0) (.int 0))) (.int 0)))) (.int 2)) (.int 281474976710656)), true),
  ((.le (.bi .mul (.fn 7 (.bi .pair (.var 20) (.bi .pair (.bi .add (.fn 1 (.bi .pair (.var 10) (.int 0))) (.var 10)) (.int 0)))) (.int 2)) (.int 281474976710656)), true),
  ((.le (.fn 7 (.bi .pair (.var 20) (.bi .pair (.fn 1 (.bi .pair (.var 0) (.int 0))) (.int 0)))) (.int 1000000)), true),
  ((.eq (.fn 20 (.bi .pair (.tr .cut (.tr .cut (.fn 2 (.bi .pair (.var 0) (.int 0))) (.bi .sub (.int 5) (.fn 1 (.bi .pair (.var 0) (.int 0)))) (.bi .add (.bi .sub (.int 5) (.fn 1 (.bi .pair (.var 0) (.int 0)))) (.fn 1 (.bi .pair (.var 0) (.int 0))))) (.int 0) (.fn 7 (.bi .pair (.var 20) (.bi .pair (.fn 1 (.bi .pair (.var 0) (.int 0))) (.int 0))))) (.bi .pair (.int 0) (.bi .pair (.fn 7 (.bi .pair (.var 20) (.bi .pair (.fn 1 (.bi .pair (.var 0) (.int 0))) (.int 0)))) (.int 0))))) (.int 0)), false),
  ((.fit .i64 (.fn 7 (.bi .pair (.var 20) (.bi .pair (.fn 1 (.bi .pair (.var 0) (.int 0))) (.int 0))))), true),
  ((.eq (.fn 23 (.bi .pair (.tr .cut (.tr .cut (.fn 2 (.bi .pair (.var 0) (.int 0))) (.bi .sub (.int 5) (.fn 1 (.bi .pair (.var 0) (.int 0)))) (.bi .add (.bi .sub (.int 5) (.fn 1 (.bi .pair (.var 0) (.int 0)))) (.fn 1 (.bi .pair (.var 0) (.int 0))))) (.int 0) (.fn 7 (.bi .pair (.var 20) (.bi .pair (.fn 1 (.bi .pair (.var 0) (.int 0))) (.int 0))))) (.bi .pair (.int 0) (.bi .pair (.fn 7 (.bi .pair (.var 20) (.bi .pair (.fn 1 (.bi .pair (.var 0) (.int 0))) (.int 0)))) (.int 0))))) (.int 4)), true),
  ((.eq (.fn 24 (.bi .pair (.tr .cut (.tr .cut (.fn 2 (.bi .pair (.var 0) (.int 0))) (.bi .sub (.int 5) (.fn 1 (.bi .pair (.var 0) (.int 0)))) (.bi .add (.bi .sub (.int 5) (.fn 1 (.bi .pair (.var 0) (.int 0)))) (.fn 1 (.bi .pair (.var 0) (.int 0))))) (.int 0) (.fn 7 (.bi .pair (.var 20) (.bi .pair (.fn 1 (.bi .pair (.var 0) (.int 0))) (.int 0))))) (.bi .pair (.int 0) (.bi .pair (.fn 7 (.bi .pair (.var 20) (.bi .pair (.fn 1 (.bi .pair (.var 0) (.int 0))) (.int 0)))) (.int 0))))) (.fn 7 (.bi .pair (.var 20) (.bi .pair (.fn 1 (.bi .pair (.var 0) (.int 0))) (.int 0))))), true),
  ((.eq (.fn 23 (.bi .pair (.tr .cut (.tr .cut (.fn 2 (.bi .pair (.var 0) (.int 0))) (.bi .sub (.int 5) (.fn 1 (.bi .pair (.var 0) (.int 0)))) (.bi .add (.bi .sub (.int 5) (.fn 1 (.bi .pair (.var 0) (.int 0)))) (.fn 1 (.bi .pair (.var 0) (.int 0))))) (.int 0) (.fn 7 (.bi .pair (.var 20) (.bi .pair (.fn 1 (.bi .pair (.var 0) (.int 0))) (.int 0))))) (.bi .pair (.int 0) (.bi .pair (.fn 7 (.bi .pair (.var 20) (.bi .pair (.fn 1 (.bi .pair (.var 0) (.int 0))) (.int 0)))) (.int 0))))) (.int 0)), false),
  ((.le (.fn 7 (.bi .pair (.var 20) (.bi .pair (.bi .add (.fn 1 (.bi .pair (.var 10) (.int 0))) (.var 10)) (.int 0)))) (.int 1000000)), true),
  ((.eq (.fn 20 (.bi .pair (.tr .cut (.bi .app (.tr .cut (.fn 2 (.bi .pair (.var 10) (.int 0))) (.bi .sub (.int 5) (.fn 1 (.bi .pair (.var 10) (.int 0)))) (.bi .add (.bi .sub (.int 5) (.fn 1 (.bi .pair (.var 10) (.int 0)))) (.fn 1 (.bi .pair (.var 10) (.int 0))))) (.var 12)) (.int 0) (.fn 7 (.bi .pair (.var 20) (.bi .pair (.bi .add (.fn 1 (.bi .pair (.var 10) (.int 0))) (.var 10)) (.int 0))))) (.bi .pair (.int 0) (.bi .pair (.fn 7 (.bi .pair (.var 20) (.bi .pair (.bi .add (.fn 1 (.bi .pair (.var 10) (.int 0))) (.var 10)) (.int 0)))) (.int 0))))) (.int 0)), true),
  ((.le (.fn 21 (.bi .pair (.tr .cut (.bi .app (.tr .cut (.fn 2 (.bi .pair (.var 10) (.int 0))) (.bi .sub (.int 5) (.fn 1 (.bi .pair (.var 10) (.int 0)))) (.bi .add (.bi .sub (.int 5) (.fn 1 (.bi .pair (.var 10) (.int 0)))) (.fn 1 (.bi .pair (.var 10) (.int 0))))) (.var 12)) (.int 0) (.fn 7 (.bi .pair (.var 20) (.bi .pair (.bi .add (.fn 1 (.bi .pair (.var 10) (.int 0))) (.var 10)) (.int 0))))) (.bi .pair (.int 0) (.bi .pair (.fn 7 (.bi .pair (.var 20) (.bi .pair (.bi .add (.fn 1 (.bi .pair (.var 10) (.int 0))) (.var 10)) (.int 0)))) (.int 0))))) (.int 300)), true),
  ((.fit .i64 (.fn 7 (.bi .pair (.var 20) (.bi .pair (.bi .add (.fn 1 (.bi .pair (.var 10) (.int 0))) (.var 10)) (.int 0))))), true),
  ((.fit .i64 (.bi .sub (.fn 7 (.bi .pair (.var 20) (.bi .pair (.bi .add (.fn 1 (.bi .pair (.var 10) (.int 0))) (.var 10)) (.int 0)))) (.bi .add (.int 0) (.fn 22 (.bi .pair (.tr .cut (.bi .app (.tr .cut (.fn 2 (.bi .pair (.var 10) (.int 0))) (.bi .sub (.int 5) (.fn 1 (.bi .pair (.var 10) (.int 0)))) (.bi .add (.bi .sub (.int 5) (.fn 1 (.bi .pair (.var 10) (.int 0)))) (.fn 1 (.bi .pair (.var 10) (.int 0))))) (.var 12)) (.int 0) (.fn 7 (.bi .pair (.var 20) (.bi .pair (.bi .add (.fn 1 (.bi .pair (.var 10) (.int 0))) (.var 10)) (.int 0))))) (.bi .pair (.int 0) (.bi .pair (.fn 7 (.bi .pair (.var 20) (.bi .pair (.bi .add (.fn 1 (.bi .pair (.var 10) (.int 0))) (.var 10)) (.int 0)))) (.int 0)))))))), true),
  ((.le (.fn 21 (.bi .pair (.tr .cut (.bi .app (.tr .cut (.fn 2 (.bi .pair (.var 10) (.int 0))) (.bi .sub (.int 5) (.fn 1 (.bi .pair (.var 10) (.int 0)))) (.bi .add (.bi .sub (.int 5) (.fn 1 (.bi .pair (.var 10) (.int 0)))) (.fn 1 (.bi .pair (.var 10) (.int 0))))) (.var 12)) (.int 0) (.fn 7 (.bi .pair (.var 20) (.bi .pair (.bi .add (.fn 1 (.bi .pair (.var 10) (.int 0))) (.var 10)) (.int 0))))) (.bi .pair (.int 0) (.bi .pair (.fn 7 (.bi .pair (.var 20) (.bi .pair (.bi .add (.fn 1 (.bi .pair (.var 10) (.int 0))) (.var 10)) (.int 0)))) (.int 0))))) (.bi .sub (.fn 7 (.bi .pair (.var 20) (.bi .pair (.bi .add (.fn 1 (.bi .pair (.var 10) (.int 0))) (.var 10)) (.int 0)))) (.bi .add (.int 0) (.fn 22 (.bi .pair (.tr .cut (.bi .app (.tr .cut (.fn 2 (.bi .pair (.var 10) (.int 0))) (.bi .sub (.int 5) (.fn 1 (.bi .pair (.var 10) (.int 0)))) (.bi .add (.bi .sub (.int 5) (.fn 1 (.bi .pair (.var 10) (.int 0)))) (.fn 1 (.bi .pair (.var 10) (.int 0))))) (.var 12)) (.int 0) (.fn 7 (.bi .pair (.var 20) (.bi .pair (.bi .add (.fn 1 (.bi .pair (.var 10) (.int 0))) (.var 10)) (.int 0))))) (.bi .pair (.int 0) (.bi .pair (.fn 7 (.bi .pair (.var 20) (.bi .pair (.bi .add (.fn 1 (.bi .pair (.var 10) (.int 0))) (.var 10)) (.int 0)))) (.int 0)))))))), false),
  ((.le (.int 16) (.fn 7 (.bi .pair (.var 20) (.bi .pair (.bi .add (.fn 1 (.bi .pair (.var 10) (.int 0))) (.var 10)) (.int 0))))), true)]
set_option maxRecDepth 100000 in
theorem c_in_y5 : yesOf Try.prog (knownV (tellA c_in_t5) tab specs overs) 6000 60 6 [.sint .i64 (.var 0), .sslice 1 (.int 0) (.var 10) (.var 11) false, .sint .i64 (.var 20)] ((globSt g0).newO (.eseq ⟨.u8, .var 10, .var 12⟩)) = true := by kernel_rfl
def c_in_t6 : List (Q × Bool) := [((.le (.int 0) (.var 0)), false),
  ((.fit .i64 (.var 10)), true),
  ((.le (.var 10) (.int 300)), false)]
set_option maxRecDepth 100000 in
theorem c_in_y6 : yesOf Try.prog (knownV (tellA c_in_t6) tab specs overs) 6000 60 6 [.sint .i64 (.var 0), .sslice 1 (.int 0) (.var 10) (.var 11) false, .sint .i64 (.var 20)] ((globSt g0).newO (.eseq ⟨.u8, .var 10, .var 12⟩)) = true := by kernel_rfl
def c_in_t7 : List (Q × Bool) := [((.le (.int 0) (.var 0)), true),
  ((.le (.var 0) (.int 2147483647)), false),
  ((.fit .i64 (.var 10)), true),
  ((.le (.var 10) (.int 300)), false)]
set_option maxRecDepth 100000 in
theorem c_in_y7 : yesOf Try.prog (knownV (tellA c_in_t7) tab specs overs) 6000 60 6 [.sint .i64 (.var 0), .sslice 1 (.int 0) (.var 10) (.var 11) false, .sint .i64 (.var 20)] ((globSt g0).newO (.eseq ⟨.u8, .var 10, .var 12⟩)) = true := by kernel_rfl
set_option maxHeartbeats 6000000 in
theorem c_in_walk {W : World} {n0 : Int} (hn0 : inK .i64 n0) {v1 : Value} {b1 off1 len1 cap1 : Nat} {zs1 : List Int} (h1 : InSlice W .u8 v1 b1 off1 len1 cap1 zs1) {n2 : Int} (hn2 : inK .i64 n2) (hG : GlobsR (om n0 len1 cap1 zs1 n2) W g0) : Calls Try.prog 6 #[.int .i64 n0, v1, .int .i64 n2] W fun e w' => e = .returned (.bool true) ∧ Below W.heap.size W w' := by
  have r0 := Rel.globs (om n0 len1 cap1 zs1 n2) W g0 hG
  obtain ⟨le1, r1, x1⟩ := h1.open r0 (l := 10) (c := 11) (x := 12) rfl rfl rfl
  have pos1 := h1.pos
  have lec1 := h1.le
  have max1 := h1.max
  have zl1 := h1.len
  have rng1 := h1.rng
  have hargs : VRs _ [.sint .i64 (.var 0), .sslice 1 (.int 0) (.var 10) (.var 11) false, .sint .i64 (.var 20)] [.int .i64 n0, v1, .int .i64 n2] := VRs_cons (vr_sint (i := 0) hn0 (by rw [r1.opq]; rfl)) (VRs_cons x1 (VRs_cons (vr_sint (i := 20) hn2 (by rw [r1.opq]; rfl)) (VRs_nil)))
  simp only [inK, i64min, i64max, u8min, u8max, u32min, u32max, u64min, u64max] at hn0
  simp only [inK, i64min, i64max, u8min, u8max, u32min, u32max, u64min, u64max] at hn2
  by_cases hneg : n0 < 0
  · by_cases h : 300 < len1
    · refine calls_of_yesV sound tab_ok specs_ok overs_ok c_in_y6 rfl (tellA_ok (allTold'_iff.1 ?_)) r1 hargs
      simp only [c_in_t6, om_0, om_10, om_11, om_12, om_20, om_f, allTold', dutiesTold, factsA, factsC, factsP, factsR, AV.facts, RW.facts, inK, and_true, Q.holds', E.i, E.s, E.n, D.nat, E.den, BO.den, UO.den, TO.den, D.toInt_int, D.toList_list, D.ints_ofInts, i64min, i64max, u8min, u8max, u16min, u16max, u32min, u32max, u64min, u64max, i32min, i32max, Om.sub, selI, ints_app, ints_cut, ints_upd, ints_rep, ints_splice, ints_seg, len_ints]
      omega
    · refine calls_of_yesV sound tab_ok specs_ok overs_ok c_in_y0 rfl (tellA_ok (allTold'_iff.1 ?_)) r1 hargs
      simp only [c_in_t0, om_0, om_10, om_11, om_12, om_20, om_f, allTold', dutiesTold, factsA, factsC, factsP, factsR, AV.facts, RW.facts, inK, and_true, Q.holds', E.i, E.s, E.n, D.nat, E.den, BO.den, UO.den, TO.den, D.toInt_int, D.toList_list, D.ints_ofInts, i64min, i64max, u8min, u8max, u16min, u16max, u32min, u32max, u64min, u64max, i32min, i32max, Om.sub, selI, ints_app, ints_cut, ints_upd, ints_rep, ints_splice, ints_seg, len_ints]
      omega
  by_cases hbig : 2147483647 < n0
  · by_cases h : 300 < len1
    · refine calls_of_yesV sound tab_ok specs_ok overs_ok c_in_y7 rfl (tellA_ok (allTold'_iff.1 ?_)) r1 hargs
      simp only [c_in_t7, om_0, om_10, om_11, om_12, om_20, om_f, allTold', dutiesTold, factsA, factsC, factsP, factsR, AV.facts, RW.facts, inK, and_true, Q.holds', E.i, E.s, E.n, D.nat, E.den, BO.den, UO.den, TO.den, D.toInt_int, D.toList_list, D.ints_ofInts, i64min, i64max, u8min, u8max, u16min, u16max, u32min, u32max, u64min, u64max, i32min, i32max, Om.sub, selI, ints_app, ints_cut, ints_upd, ints_rep, ints_splice, ints_seg, len_ints]
      omega
    · refine calls_of_yesV sound tab_ok specs_ok overs_ok c_in_y1 rfl (tellA_ok (allTold'_iff.1 ?_)) r1 hargs
      simp only [c_in_t1, om_0, om_10, om_11, om_12, om_20, om_f, allTold', dutiesTold, factsA, factsC, factsP, factsR, AV.facts, RW.facts, inK, and_true, Q.holds', E.i, E.s, E.n, D.nat, E.den, BO.den, UO.den, TO.den, D.toInt_int, D.toList_list, D.ints_ofInts, i64min, i64max, u8min, u8max, u16min, u16max, u32min, u32max, u64min, u64max, i32min, i32max, Om.sub, selI, ints_app, ints_cut, ints_upd, ints_rep, ints_splice, ints_seg, len_ints]
      omega
  have p0 := five_put (n := n0) (by omega) (by omega)
  have s0 := sz_in n0
  have k0 := emod_in (x := n2) (n := szI n0) (by omega)
  have z0 : (numL ((putL n0).take (n2 % szI n0).toNat)).1 = 1 := by
    have := num_cut (n := n0) (k := (n2 % szI n0).toNat) (by omega) (by omega) (by omega) []
    rwa [List.append_nil] at this
  by_cases h : 300 < len1
  · refine calls_of_yesV sound tab_ok specs_ok overs_ok c_in_y2 rfl (tellA_ok (allTold'_iff.1 ?_)) r1 hargs
    simp only [c_in_t2, om_0, om_10, om_11, om_12, om_20, om_f, F1, F2, F7, F20, F21, F22, F23, F24, Int.zero_add, ints_list, List.map_drop, List.map_take, List.map_append, map_ints, allTold', dutiesTold, factsA, factsC, factsP, factsR, AV.facts, RW.facts, inK, and_true, Q.holds', E.i, E.s, E.n, D.nat, E.den, BO.den, UO.den, TO.den, D.toInt_int, D.toList_list, D.ints_ofInts, i64min, i64max, u8min, u8max, u16min, u16max, u32min, u32max, u64min, u64max, i32min, i32max, Om.sub, selI, ints_app, ints_cut, ints_upd, ints_rep, ints_splice, ints_seg, len_ints]
    omega
  have p1 := five_put (n := (len1 : Int)) (by omega) (by omega)
  have s1 := sz_in (len1 : Int)
  have k1 := emod_in (x := n2) (n := szI (len1 : Int) + (len1 : Int)) (by omega)
  by_cases hk : n2 % (szI (len1 : Int) + (len1 : Int)) < szI (len1 : Int)
  · have z1 : (numL ((putL (len1 : Int) ++ zs1).take (n2 % (szI (len1 : Int) + (len1 : Int))).toNat)).1 = 1 := num_cut (by omega) (by omega) (by omega) zs1
    refine calls_of_yesV sound tab_ok specs_ok overs_ok c_in_y3 rfl (tellA_ok (allTold'_iff.1 ?_)) r1 hargs
    simp only [c_in_t3, om_0, om_10, om_11, om_12, om_20, om_f, F1, F2, F7, F20, F21, F22, F23, F24, Int.zero_add, ints_list, List.map_drop, List.map_take, List.map_append, map_ints, allTold', dutiesTold, factsA, factsC, factsP, factsR, AV.facts, RW.facts, inK, and_true, Q.holds', E.i, E.s, E.n, D.nat, E.den, BO.den, UO.den, TO.den, D.toInt_int, D.toList_list, D.ints_ofInts, i64min, i64max, u8min, u8max, u16min, u16max, u32min, u32max, u64min, u64max, i32min, i32max, Om.sub, selI, ints_app, ints_cut, ints_upd, ints_rep, ints_splice, ints_seg, len_ints]
    simp only [p0, p1, cut_prt, z0, z1, errI, atI]
    and_intros <;> first | omega | rfl | trivial | decide | (split <;> omega) | (simp; done)
  · have z1 : numL ((putL (len1 : Int) ++ zs1).take (n2 % (szI (len1 : Int) + (len1 : Int))).toNat) = (0, (len1 : Int), szI (len1 : Int)) := num_more (by omega) (by omega) zs1 (by omega)
    by_cases hs : 16 ≤ n2 % (szI (len1 : Int) + (len1 : Int))
    · refine calls_of_yesV sound tab_ok specs_ok overs_ok c_in_y5 rfl (tellA_ok (allTold'_iff.1 ?_)) r1 hargs
      simp only [c_in_t5, om_0, om_10, om_11, om_12, om_20, om_f, F1, F2, F7, F20, F21, F22, F23, F24, Int.zero_add, ints_list, List.map_drop, List.map_take, List.map_append, map_ints, allTold', dutiesTold, factsA, factsC, factsP, factsR, AV.facts, RW.facts, inK, and_true, Q.holds', E.i, E.s, E.n, D.nat, E.den, BO.den, UO.den, TO.den, D.toInt_int, D.toList_list, D.ints_ofInts, i64min, i64max, u8min, u8max, u16min, u16max, u32min, u32max, u64min, u64max, i32min, i32max, Om.sub, selI, ints_app, ints_cut, ints_upd, ints_rep, ints_splice, ints_seg, len_ints]
      simp only [p0, p1, cut_prt, z0, z1, errI, atI]
      and_intros <;> first | omega | rfl | trivial | decide | (split <;> omega) | (simp; done)
    · refine calls_of_yesV sound tab_ok specs_ok overs_ok c_in_y4 rfl (tellA_ok (allTold'_iff.1 ?_)) r1 hargs
      simp only [c_in_t4, om_0, om_10, om_11, om_12, om_20, om_f, F1, F2, F7, F20, F21, F22, F23, F24, Int.zero_add, ints_list, List.map_drop, List.map_take, List.map_append, map_ints, allTold', dutiesTold, factsA, factsC, factsP, factsR, AV.facts, RW.facts, inK, and_true, Q.holds', E.i, E.s, E.n, D.nat, E.den, BO.den, UO.den, TO.den, D.toInt_int, D.toList_list, D.ints_ofInts, i64min, i64max, u8min, u8max, u16min, u16max, u32min, u32max, u64min, u64max, i32min, i32max, Om.sub, selI, ints_app, ints_cut, ints_upd, ints_rep, ints_splice, ints_seg, len_ints]
      simp only [p0, p1, cut_prt, z0, z1, errI, atI]
      and_intros <;> first | omega | rfl | trivial | decide | (split <;> omega) | (simp; done)

theorem underS28 : Try.prog.underlying 28 = some (.slice 5) := by kernel_rfl
theorem underE5 : Try.prog.underlying 5 = some (.int .u8) := by kernel_rfl
theorem cellsE5 : Try.prog.cellsOf 5 = 1 := by kernel_rfl
theorem underI3 : Try.prog.underlying 3 = some (.int .i64) := by kernel_rfl

set_option maxRecDepth 100000 in
theorem lifted (os : Os) (started : os.Started) (H : Type) (enc : TypeId × Value → H) :
    ReturnsInHanded {} Try.checked os 6 .any (Rows.fieldCutSpec.pre6 enc Try.prog Try.f6 Rows.fieldCutRow.domain false) (Rows.fieldCutSpec.post enc Try.prog Try.f6 false true false false) := by
  refine returnsInHanded_of_change (C := Try.checked) own started (by kernel_rfl) Try.func6
    (ChangeSpec.witness6 (enc := enc) (C := Try.checked) false ⟨#[], #[.int .i64 0, .slice none 0 0, .int .i64 0], []⟩ 8 (by kernel_rfl) (by kernel_rfl) (by kernel_rfl) (by kernel_rfl)) ?_
  intro W base args ds gs before hval0 hW hcnd _
  have hval : ∀ (j : Nat) t v, Try.f6.params[j]? = some t → args[j]? = some v → Value.okWide Try.prog W .any base t v := hval0
  have hW' := hW
  have hlt := hW.lt
  obtain ⟨p, q, hA0, hV, rfl, hfz, hnd⟩ := hW
  have hA : DataW.TrodAll enc Try.prog W 0 (fun _ => true) true Try.f6.params.toList args.toList ds p := hA0
  have hAll := hA
  rw [Try.params6] at hA hval hAll
  obtain ⟨rfl, rfl⟩ := trodVars_none hV
  obtain ⟨v0, v1, v2, d0, d1, d2, p0, p1, p2, rfl, rfl, rfl, h0, h1, h2⟩ := trodAll_three hA
  obtain ⟨n0, rfl, rfl, rfl, wn0⟩ := open_int underI3 (hval 0 3 _ rfl rfl) h0
  have wn0 := wf_inK wn0
  have s1 := in_slice (k := .u8) underS28 underE5 cellsE5 (hval 1 28 _ rfl rfl) h1
  obtain ⟨n2, rfl, rfl, rfl, wn2⟩ := open_int underI3 (hval 2 3 _ rfl rfl) h2
  have wn2 := wf_inK wn2
  clear hA0 hval0
  have hcall : Calls Try.prog 6 #[.int .i64 n0, v1, .int .i64 n2] W fun e w' => e = .returned (.bool true) ∧ Below W.heap.size W w' := by
    rcases s1 with rfl | ⟨a1, c1, rfl⟩ | ⟨_, _, _, _, _, s1⟩
    · exact c_nil_walk wn0 wn2 (globs0 _ W)
    · exact c_hol_walk wn0 a1 c1 wn2 (globs0 _ W)
    · exact c_in_walk wn0 s1 wn2 (globs0 _ W)
  refine hcall.mono fun e W' ⟨he, hg⟩ => ?_
  subst he
  exact ⟨_, rfl, _, [], _, [], _, [], hW', trodAll_cons_mk (shut_bool Try.underlying4 _) trodAll_mk0, trodAll_stays laid hg _ _ _ _ hAll (fun x hx => hlt x (by simpa using hx)) (by kernel_rfl), rfl, hg.frame _, fun h => by cases h⟩

theorem over : Rows.fieldCutRow.holds Try.pinned (OpenSpec.ofChange Rows.fieldCutSpec) :=
  OpenClaim.holds_of_wide 6 Try.f6 rfl rfl rfl rfl rfl rfl rfl ⟨rfl, rfl, rfl, rfl, rfl⟩ rfl rfl rfl rfl rfl (by kernel_rfl) Try.func6 (by kernel_rfl)
    (of_decide_eq_true (by kernel_rfl)) (by unfold Func.isWrapper; first | (rw [if_pos (by decide +kernel)]; kernel_rfl) | (rw [if_neg (by decide +kernel)]; exact ⟨rfl, rfl⟩))
    (fun os started H enc _ => lifted os started H enc)

/-- The statement. -/
theorem proved : Rows.FieldCutSaid :=
  over
#print axioms proved
end Go.Proofs.Ytibmlnbdeonboaa.fieldCut
