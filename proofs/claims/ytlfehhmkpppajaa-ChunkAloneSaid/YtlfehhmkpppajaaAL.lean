/-
 The law ChunkAlone of the layer chunk holds of the code: for all inputs the call returns true, and the arguments read as they did. No condition.
-/
import Derived.Test.YtlfehhmkpppajaaCo
import Derived.Test.YtlfehhmkpppajaaSycp
import Derived.Test.YtlfehhmkpppajaaZc
import Derived.Test.YtlfehhmkpppajaaZa
import Derived.Test.YtlfehhmkpppajaaZb
import Derived.WalkKit
import Derived.ProofKit
import Derived.OpenShut
set_option linter.unusedSimpArgs false
set_option linter.unusedVariables false
namespace Go.Proofs.Ytlfehhmkpppajaa.chunkAlone
open Go.ChangeShapes Go.WideShapes Go.ChangeAt Go.RowKit Go.Ev Go.Proofs.Ytlfehhmkpppajaa.Co Go.Proofs.Ytlfehhmkpppajaa.Zc Go.Proofs.Ytlfehhmkpppajaa.Za Go.Proofs.Ytlfehhmkpppajaa.Zb

def om (len0 cap0 : Nat) (zs0 : List Int) (n1 : Int) (n2 : Int) : Om := ⟨fun _ => .bool false, fun i => if i = 0 then .int len0 else if i = 1 then .int cap0 else if i = 2 then D.ofInts zs0 else if i = 10 then .int n1 else if i = 20 then .int n2 else .int 0, F⟩
theorem om_0 (len0 cap0 : Nat) (zs0 : List Int) (n1 : Int) (n2 : Int) : (om len0 cap0 zs0 n1 n2).d 0 = .int len0 := rfl
theorem om_1 (len0 cap0 : Nat) (zs0 : List Int) (n1 : Int) (n2 : Int) : (om len0 cap0 zs0 n1 n2).d 1 = .int cap0 := rfl
theorem om_2 (len0 cap0 : Nat) (zs0 : List Int) (n1 : Int) (n2 : Int) : (om len0 cap0 zs0 n1 n2).d 2 = D.ofInts zs0 := rfl
theorem om_10 (len0 cap0 : Nat) (zs0 : List Int) (n1 : Int) (n2 : Int) : (om len0 cap0 zs0 n1 n2).d 10 = .int n1 := rfl
theorem om_20 (len0 cap0 : Nat) (zs0 : List Int) (n1 : Int) (n2 : Int) : (om len0 cap0 zs0 n1 n2).d 20 = .int n2 := rfl
theorem om_f (len0 cap0 : Nat) (zs0 : List Int) (n1 : Int) (n2 : Int) : (om len0 cap0 zs0 n1 n2).f = F := rfl

theorem all_sum {x : List Int} {o : Int} : ∀ (r : Nat) (i n : Int), 0 ≤ n → sumL (allN x o r i n) = n + r ∧ ∀ y ∈ allN x o r i n, 1 ≤ y
 | 0, i, n, h => by
  rw [all_zero]
  split
  ·refine ⟨by simp [sumL], fun y hy => ?_⟩
   simp only [List.mem_cons, List.not_mem_nil, or_false] at hy
   omega
  ·exact ⟨by simp only [sumL]; omega, fun y hy => by cases hy⟩
 | r + 1, i, n, h => by
  by_cases c : endB x o (i + 1) (n + 1) = true
  ·obtain ⟨h1, h2⟩ := all_sum (x := x) (o := o) r (i + 1) 0 (by omega)
   rw [all_yes c]
   refine ⟨by simp only [sumL]; omega, fun y hy => ?_⟩
   rcases List.mem_cons.1 hy with rfl | hy
   ·omega
   ·exact h2 y hy
  ·obtain ⟨h1, h2⟩ := all_sum (x := x) (o := o) r (i + 1) (n + 1) (by omega)
   rw [all_no c]
   exact ⟨by omega, h2⟩
theorem all_dropN {x : List Int} {o : Int} : ∀ (w r : Nat) (i : Int), (allN x o r i 0).drop w = allN x o (r - (sumL ((allN x o r i 0).take w)).toNat) (i + sumL ((allN x o r i 0).take w)) 0
 | 0, r, i => by
  rw [List.take_zero, List.drop_zero]
  simp only [sumL, Int.toNat_zero, Nat.sub_zero, Int.add_zero]
 | w + 1, r, i => by
  cases h : allN x o r i 0 with
  | nil =>
   rw [List.take_nil, List.drop_nil]
   simp only [sumL, Int.toNat_zero, Nat.sub_zero, Int.add_zero]
   exact h.symm
  | cons a t =>
   obtain ⟨_, h2, h3, h4⟩ := all_head r i 0 a t (by omega) h
   have e := all_dropN (x := x) (o := o) w (0 + (r : Int) - a).toNat (i + a - 0)
   rw [← h4] at e
   have hn : 0 ≤ sumL (t.take w) := sumL_nn fun y hy => by
    have := (all_sum (x := x) (o := o) (0 + (r : Int) - a).toNat (i + a - 0) 0 (by omega)).2 y (by rw [← h4]; exact List.mem_of_mem_take hy)
    omega
   rw [List.drop_succ_cons, List.take_succ_cons, e]
   simp only [sumL]
   rw [show (0 + (r : Int) - a).toNat - (sumL (t.take w)).toNat = r - (a + sumL (t.take w)).toNat by omega, show i + a - 0 + sumL (t.take w) = i + (a + sumL (t.take w)) by omega]
theorem all_drop {x : List Int} {o t : Int} (ht : 0 ≤ t) (w : Nat) : (allT x o t).drop w = allT x (o + sumL ((allT x o t).take w)) (t - sumL ((allT x o t).take w)) := by
 have h1 := all_sum (x := x) (o := o) t.toNat 0 0 (by omega)
 have hn : 0 ≤ sumL ((allN x o t.toNat 0 0).take w) := sumL_nn fun y hy => by have := h1.2 y (List.mem_of_mem_take hy); omega
 rw [allT_eq x o t, all_dropN, allT_eq, Int.zero_add]
 generalize sumL ((allN x o t.toNat 0 0).take w) = s at *
 have := all_shift (x := x) (o := o) hn (t.toNat - s.toNat) 0 0 (by omega) (by omega)
 rw [Int.add_zero] at this
 rw [this, show t.toNat - s.toNat = (t - s).toNat by omega]
theorem all_ok {x : List Int} {o t : Int} (h0 : 0 ≤ t) (h : t ≤ 20000) : okL (allT x o t) = true ∧ sumL (allT x o t) = t := by
 obtain ⟨h1, h2⟩ := all_sum (x := x) (o := o) t.toNat 0 0 (by omega)
 rw [allT_eq]
 have e : sumL (allN x o t.toNat 0 0) = t := by omega
 refine ⟨?_, e⟩
 simp only [okL, Bool.and_eq_true, List.all_eq_true, decide_eq_true_eq]
 exact ⟨fun y hy => by have := h2 y hy; omega, by omega⟩
theorem all_preN {x : List Int} {o : Int} : ∀ (q r : Nat) (i n : Int), q ≤ r → (allN x o q i n).take ((allN x o q i n).length - 1) = (allN x o r i n).take ((allN x o q i n).length - 1) ∧ (allN x o q i n).length ≤ (allN x o r i n).length + 1
 | 0, r, i, n, h => by
  have : (allN x o 0 i n).length ≤ 1 := by rw [all_zero]; split <;> simp
  rw [show (allN x o 0 i n).length - 1 = 0 by omega]
  exact ⟨rfl, by omega⟩
 | q + 1, 0, i, n, h => by omega
 | q + 1, r + 1, i, n, h => by
  by_cases c : endB x o (i + 1) (n + 1) = true
  ·obtain ⟨h1, h2⟩ := all_preN (x := x) (o := o) q r (i + 1) 0 (by omega)
   rw [all_yes c, all_yes c]
   refine ⟨?_, by simp only [List.length_cons]; omega⟩
   rw [List.length_cons, Nat.add_sub_cancel]
   cases hm : allN x o q (i + 1) 0 with
   | nil => rfl
   | cons a t =>
    rw [hm] at h1
    rw [List.length_cons, List.take_succ_cons, List.take_succ_cons]
    rw [List.length_cons, Nat.add_sub_cancel] at h1
    rw [h1]
  ·obtain ⟨h1, h2⟩ := all_preN (x := x) (o := o) q r (i + 1) (n + 1) (by omega)
   rw [all_no c, all_no c]
   exact ⟨h1, h2⟩
theorem all_pre {x : List Int} {o q t : Int} (h : q ≤ t) : (allT x o q).take ((allT x o q).length - 1) = (allT x o t).take ((allT x o q).length - 1) ∧ (allT x o q).length ≤ (allT x o t).length + 1 := by
 rw [allT_eq, allT_eq]
 exact all_preN _ _ _ _ (by omega)
theorem all_len {x : List Int} {o t : Int} (h : 0 ≤ t) : ((allT x o t).length : Int) ≤ t := by
 obtain ⟨h1, h2⟩ := all_sum (x := x) (o := o) t.toNat 0 0 (by omega)
 rw [allT_eq]
 have : ∀ l : List Int, (∀ y ∈ l, 1 ≤ y) → (l.length : Int) ≤ sumL l := by
  intro l
  induction l with
  | nil => intro _; simp [sumL]
  | cons a l ih =>
   intro h
   have h3 := h a (by simp)
   have h4 := ih fun y hy => h y (by simp [hy])
   simp only [List.length_cons, sumL]
   omega
 have := this _ h2
 omega

theorem sumL_take {l : List Int} (h : ∀ y ∈ l, 0 ≤ y) (k : Nat) : sumL (l.take k) ≤ sumL l := by
 have e := sumL_app (l.take k) (l.drop k)
 rw [List.take_append_drop] at e
 have h2 := sumL_nn (l := l.drop k) fun y hy => h y (List.mem_of_mem_drop hy)
 omega
theorem all_at {x : List Int} {t : Int} {k : Nat} (h0 : 0 ≤ t) : 0 ≤ sumL ((allT x 0 t).take k) ∧ sumL ((allT x 0 t).take k) ≤ t := by
 obtain ⟨h1, h2⟩ := all_sum (x := x) (o := 0) t.toNat 0 0 (by omega)
 rw [← allT_eq] at h1 h2
 have g : ∀ y ∈ allT x 0 t, 0 ≤ y := fun y hy => by have := h2 y hy; omega
 have g1 := sumL_take g k
 have g2 := sumL_nn (l := (allT x 0 t).take k) fun y hy => g y (List.mem_of_mem_take hy)
 omega
theorem same_drop {A L : List Int} {w n m : Int} (h : L.drop w.toNat = A) (h0 : 0 ≤ w) (hn : n = A.length) (hm : m = L.length) : List.drop (Int.toNat 0) (List.take n.toNat A) = List.drop w.toNat (List.take m.toNat L) := by
 rw [List.take_of_length_le (l := A) (by omega), List.take_of_length_le (l := L) (by omega), h]
 rfl
theorem same_take {M L : List Int} {n : Int} {k : Nat} (h : M.take k = L.take k) (hn : n.toNat = k) : List.drop (Int.toNat 0) (List.take n.toNat M) = List.drop (Int.toNat 0) (List.take n.toNat L) := by
 rw [hn, h]
theorem all_nil {x : List Int} {o : Int} : allT x o 0 = [] := by
 rw [allT_eq]
 show allN x o 0 0 0 = []
 rw [all_zero, if_neg (by omega)]

abbrev as0 : Q × Bool := ((.le (.fn 7 (.bi .pair (.var 10) (.bi .pair (.int 1) (.int 0)))) (.int 0)), true)
abbrev as1 : Q × Bool := ((.le (.int 0) (.fn 7 (.bi .pair (.var 10) (.bi .pair (.int 1) (.int 0))))), true)
abbrev as2 : Q × Bool := ((.le (.int 0) (.fn 7 (.bi .pair (.var 20) (.bi .pair (.int 1) (.int 0))))), true)
abbrev as3 : Q × Bool := ((.le (.fn 7 (.bi .pair (.var 20) (.bi .pair (.int 1) (.int 0)))) (.int 0)), true)
def c_emp_t0 : List (Q × Bool) := [as0, as1, as2, as3]
set_option maxRecDepth 100000 in
theorem c_emp_y0 : yesOf Try.prog (knownV (tellA c_emp_t0) tabS specsS oversS) 8000 80 5 [.empty, .sint .i64 (.var 10), .sint .i64 (.var 20)] (globSt g0) = true := by kernel_rfl
set_option maxRecDepth 100000 in
set_option maxHeartbeats 6000000 in
theorem c_emp_walk {W : World} {v0 : Value} (hv0 : ∀ e : Env, VR e .empty v0) {n1 : Int} (hn1 : inK .i64 n1) {n2 : Int} (hn2 : inK .i64 n2) (hG : GlobsR (om 0 0 [] n1 n2) W g0) : Calls Try.prog 5 #[v0, .int .i64 n1, .int .i64 n2] W fun e w' => e = .returned (.bool true) ∧ Below W.heap.size W w' := by
 have r0 := Rel.globs (om 0 0 [] n1 n2) W g0 hG
 have hargs : VRs (Env.none (om 0 0 [] n1 n2) W) [.empty, .sint .i64 (.var 10), .sint .i64 (.var 20)] [v0, .int .i64 n1, .int .i64 n2] := VRs_cons (hv0 _) (VRs_cons (vr_sint (i := 10) hn1 (by rw [r0.opq]; rfl)) (VRs_cons (vr_sint (i := 20) hn2 (by rw [r0.opq]; rfl)) (VRs_nil)))
 simp only [inK, i64min, i64max, u8min, u8max, u32min, u32max, u64min, u64max] at hn1
 simp only [inK, i64min, i64max, u8min, u8max, u32min, u32max, u64min, u64max] at hn2
 have e1 := Int.emod_one n1
 have e2 := Int.emod_one n2
 refine calls_of_yesV sound tabS_ok specsS_ok oversS_ok c_emp_y0 rfl (tellA_ok (allTold'_iff.1 ?_)) r0 hargs
 simp only [c_emp_t0, om_0, om_1, om_2, om_10, om_20, om_f, F7, e1, e2, allTold', dutiesTold, factsA, factsC, factsP, factsR, AV.facts, RW.facts, inK, and_true, Q.holds', E.i, E.s, E.n, D.nat, E.den, BO.den, UO.den, TO.den, D.toInt_int, D.toList_list, D.ints_ofInts, i64min, i64max, u8min, u8max, u16min, u16max, u32min, u32max, u64min, u64max, i32min, i32max, Om.sub, selI, ints_app, ints_cut, ints_upd, ints_rep, ints_splice, ints_seg, len_ints]
 first | done | (and_intros <;> first | exact True.intro | omega | exact same_drop ad (by omega) (by omega) (by omega) | exact same_take ap.1 (by omega) | assumption)

abbrev as4 : Q × Bool := ((.fit .i64 (.var 0)), true)
abbrev as5 : Q × Bool := ((.le (.var 0) (.int 8000)), false)
def c_in_t0 : List (Q × Bool) := [as4, as5]
set_option maxRecDepth 100000 in
theorem c_in_y0 : yesOf Try.prog (knownV (tellA c_in_t0) tabS specsS oversS) 8000 80 5 [.sslice 1 (.int 0) (.var 0) (.var 1) false, .sint .i64 (.var 10), .sint .i64 (.var 20)] ((globSt g0).newO (.eseq ⟨.u8, .var 0, .var 2⟩)) = true := by kernel_rfl
abbrev as6 : Q × Bool := ((.le (.var 0) (.int 8000)), true)
abbrev as7 : Q × Bool := ((.le (.bi .add (.int 0) (.var 0)) (.var 0)), true)
abbrev as8 : Q × Bool := ((.le (.var 0) (.int 20000)), true)
abbrev as9 : Q × Bool := ((.le (.int 1) (.var 0)), true)
abbrev as10 : Q × Bool := ((.fit .i64 (.un .len (.fn 23 (.bi .pair (.var 2) (.bi .pair (.int 0) (.bi .pair (.var 0) (.int 0))))))), true)
abbrev as11 : Q × Bool := ((.fit .i64 (.bi .add (.un .len (.fn 23 (.bi .pair (.var 2) (.bi .pair (.int 0) (.bi .pair (.var 0) (.int 0)))))) (.int 1))), true)
abbrev as12 : Q × Bool := ((.le (.int 1) (.bi .add (.un .len (.fn 23 (.bi .pair (.var 2) (.bi .pair (.int 0) (.bi .pair (.var 0) (.int 0)))))) (.int 1))), true)
abbrev as13 : Q × Bool := ((.le (.int 0) (.fn 7 (.bi .pair (.var 10) (.bi .pair (.bi .add (.un .len (.fn 23 (.bi .pair (.var 2) (.bi .pair (.int 0) (.bi .pair (.var 0) (.int 0)))))) (.int 1)) (.int 0))))), true)
abbrev as14 : Q × Bool := ((.le (.fn 7 (.bi .pair (.var 10) (.bi .pair (.bi .add (.un .len (.fn 23 (.bi .pair (.var 2) (.bi .pair (.int 0) (.bi .pair (.var 0) (.int 0)))))) (.int 1)) (.int 0)))) (.un .len (.fn 23 (.bi .pair (.var 2) (.bi .pair (.int 0) (.bi .pair (.var 0) (.int 0))))))), true)
abbrev as15 : Q × Bool := ((.eq (.int 0) (.fn 24 (.bi .pair (.fn 23 (.bi .pair (.var 2) (.bi .pair (.int 0) (.bi .pair (.var 0) (.int 0))))) (.bi .pair (.int 0) (.int 0))))), true)
abbrev as16 : Q × Bool := ((.eq (.fn 25 (.bi .pair (.fn 23 (.bi .pair (.var 2) (.bi .pair (.int 0) (.bi .pair (.var 0) (.int 0))))) (.int 0))) (.int 1)), true)
abbrev as17 : Q × Bool := ((.le (.fn 24 (.bi .pair (.fn 23 (.bi .pair (.var 2) (.bi .pair (.int 0) (.bi .pair (.var 0) (.int 0))))) (.bi .pair (.fn 7 (.bi .pair (.var 10) (.bi .pair (.bi .add (.un .len (.fn 23 (.bi .pair (.var 2) (.bi .pair (.int 0) (.bi .pair (.var 0) (.int 0)))))) (.int 1)) (.int 0)))) (.int 0)))) (.var 0)), true)
abbrev as18 : Q × Bool := ((.le (.int 0) (.fn 24 (.bi .pair (.fn 23 (.bi .pair (.var 2) (.bi .pair (.int 0) (.bi .pair (.var 0) (.int 0))))) (.bi .pair (.fn 7 (.bi .pair (.var 10) (.bi .pair (.bi .add (.un .len (.fn 23 (.bi .pair (.var 2) (.bi .pair (.int 0) (.bi .pair (.var 0) (.int 0)))))) (.int 1)) (.int 0)))) (.int 0))))), true)
abbrev as19 : Q × Bool := ((.le (.var 0) (.var 1)), true)
abbrev as20 : Q × Bool := ((.le (.bi .add (.fn 24 (.bi .pair (.fn 23 (.bi .pair (.var 2) (.bi .pair (.int 0) (.bi .pair (.var 0) (.int 0))))) (.bi .pair (.fn 7 (.bi .pair (.var 10) (.bi .pair (.bi .add (.un .len (.fn 23 (.bi .pair (.var 2) (.bi .pair (.int 0) (.bi .pair (.var 0) (.int 0)))))) (.int 1)) (.int 0)))) (.int 0)))) (.bi .sub (.var 0) (.fn 24 (.bi .pair (.fn 23 (.bi .pair (.var 2) (.bi .pair (.int 0) (.bi .pair (.var 0) (.int 0))))) (.bi .pair (.fn 7 (.bi .pair (.var 10) (.bi .pair (.bi .add (.un .len (.fn 23 (.bi .pair (.var 2) (.bi .pair (.int 0) (.bi .pair (.var 0) (.int 0)))))) (.int 1)) (.int 0)))) (.int 0)))))) (.var 0)), true)
abbrev as21 : Q × Bool := ((.le (.bi .sub (.var 0) (.fn 24 (.bi .pair (.fn 23 (.bi .pair (.var 2) (.bi .pair (.int 0) (.bi .pair (.var 0) (.int 0))))) (.bi .pair (.fn 7 (.bi .pair (.var 10) (.bi .pair (.bi .add (.un .len (.fn 23 (.bi .pair (.var 2) (.bi .pair (.int 0) (.bi .pair (.var 0) (.int 0)))))) (.int 1)) (.int 0)))) (.int 0))))) (.int 20000)), true)
abbrev as22 : Q × Bool := ((.le (.int 1) (.bi .sub (.var 0) (.fn 24 (.bi .pair (.fn 23 (.bi .pair (.var 2) (.bi .pair (.int 0) (.bi .pair (.var 0) (.int 0))))) (.bi .pair (.fn 7 (.bi .pair (.var 10) (.bi .pair (.bi .add (.un .len (.fn 23 (.bi .pair (.var 2) (.bi .pair (.int 0) (.bi .pair (.var 0) (.int 0)))))) (.int 1)) (.int 0)))) (.int 0)))))), true)
abbrev as23 : Q × Bool := ((.eq (.un .len (.fn 23 (.bi .pair (.var 2) (.bi .pair (.fn 24 (.bi .pair (.fn 23 (.bi .pair (.var 2) (.bi .pair (.int 0) (.bi .pair (.var 0) (.int 0))))) (.bi .pair (.fn 7 (.bi .pair (.var 10) (.bi .pair (.bi .add (.un .len (.fn 23 (.bi .pair (.var 2) (.bi .pair (.int 0) (.bi .pair (.var 0) (.int 0)))))) (.int 1)) (.int 0)))) (.int 0)))) (.bi .pair (.bi .sub (.var 0) (.fn 24 (.bi .pair (.fn 23 (.bi .pair (.var 2) (.bi .pair (.int 0) (.bi .pair (.var 0) (.int 0))))) (.bi .pair (.fn 7 (.bi .pair (.var 10) (.bi .pair (.bi .add (.un .len (.fn 23 (.bi .pair (.var 2) (.bi .pair (.int 0) (.bi .pair (.var 0) (.int 0)))))) (.int 1)) (.int 0)))) (.int 0))))) (.int 0)))))) (.bi .sub (.un .len (.fn 23 (.bi .pair (.var 2) (.bi .pair (.int 0) (.bi .pair (.var 0) (.int 0)))))) (.fn 7 (.bi .pair (.var 10) (.bi .pair (.bi .add (.un .len (.fn 23 (.bi .pair (.var 2) (.bi .pair (.int 0) (.bi .pair (.var 0) (.int 0)))))) (.int 1)) (.int 0)))))), true)
abbrev as24 : Q × Bool := ((.le (.bi .add (.int 0) (.un .len (.fn 23 (.bi .pair (.var 2) (.bi .pair (.fn 24 (.bi .pair (.fn 23 (.bi .pair (.var 2) (.bi .pair (.int 0) (.bi .pair (.var 0) (.int 0))))) (.bi .pair (.fn 7 (.bi .pair (.var 10) (.bi .pair (.bi .add (.un .len (.fn 23 (.bi .pair (.var 2) (.bi .pair (.int 0) (.bi .pair (.var 0) (.int 0)))))) (.int 1)) (.int 0)))) (.int 0)))) (.bi .pair (.bi .sub (.var 0) (.fn 24 (.bi .pair (.fn 23 (.bi .pair (.var 2) (.bi .pair (.int 0) (.bi .pair (.var 0) (.int 0))))) (.bi .pair (.fn 7 (.bi .pair (.var 10) (.bi .pair (.bi .add (.un .len (.fn 23 (.bi .pair (.var 2) (.bi .pair (.int 0) (.bi .pair (.var 0) (.int 0)))))) (.int 1)) (.int 0)))) (.int 0))))) (.int 0))))))) (.un .len (.fn 23 (.bi .pair (.var 2) (.bi .pair (.fn 24 (.bi .pair (.fn 23 (.bi .pair (.var 2) (.bi .pair (.int 0) (.bi .pair (.var 0) (.int 0))))) (.bi .pair (.fn 7 (.bi .pair (.var 10) (.bi .pair (.bi .add (.un .len (.fn 23 (.bi .pair (.var 2) (.bi .pair (.int 0) (.bi .pair (.var 0) (.int 0)))))) (.int 1)) (.int 0)))) (.int 0)))) (.bi .pair (.bi .sub (.var 0) (.fn 24 (.bi .pair (.fn 23 (.bi .pair (.var 2) (.bi .pair (.int 0) (.bi .pair (.var 0) (.int 0))))) (.bi .pair (.fn 7 (.bi .pair (.var 10) (.bi .pair (.bi .add (.un .len (.fn 23 (.bi .pair (.var 2) (.bi .pair (.int 0) (.bi .pair (.var 0) (.int 0)))))) (.int 1)) (.int 0)))) (.int 0))))) (.int 0))))))), true)
abbrev as25 : Q × Bool := ((.le (.bi .add (.fn 7 (.bi .pair (.var 10) (.bi .pair (.bi .add (.un .len (.fn 23 (.bi .pair (.var 2) (.bi .pair (.int 0) (.bi .pair (.var 0) (.int 0)))))) (.int 1)) (.int 0)))) (.bi .sub (.un .len (.fn 23 (.bi .pair (.var 2) (.bi .pair (.int 0) (.bi .pair (.var 0) (.int 0)))))) (.fn 7 (.bi .pair (.var 10) (.bi .pair (.bi .add (.un .len (.fn 23 (.bi .pair (.var 2) (.bi .pair (.int 0) (.bi .pair (.var 0) (.int 0)))))) (.int 1)) (.int 0)))))) (.un .len (.fn 23 (.bi .pair (.var 2) (.bi .pair (.int 0) (.bi .pair (.var 0) (.int 0))))))), true)
abbrev as26 : Q × Bool := ((.le (.un .len (.fn 23 (.bi .pair (.var 2) (.bi .pair (.fn 24 (.bi .pair (.fn 23 (.bi .pair (.var 2) (.bi .pair (.int 0) (.bi .pair (.var 0) (.int 0))))) (.bi .pair (.fn 7 (.bi .pair (.var 10) (.bi .pair (.bi .add (.un .len (.fn 23 (.bi .pair (.var 2) (.bi .pair (.int 0) (.bi .pair (.var 0) (.int 0)))))) (.int 1)) (.int 0)))) (.int 0)))) (.bi .pair (.bi .sub (.var 0) (.fn 24 (.bi .pair (.fn 23 (.bi .pair (.var 2) (.bi .pair (.int 0) (.bi .pair (.var 0) (.int 0))))) (.bi .pair (.fn 7 (.bi .pair (.var 10) (.bi .pair (.bi .add (.un .len (.fn 23 (.bi .pair (.var 2) (.bi .pair (.int 0) (.bi .pair (.var 0) (.int 0)))))) (.int 1)) (.int 0)))) (.int 0))))) (.int 0)))))) (.int 20000)), true)
abbrev as27 : Q × Bool := ((.same (.tr .cut (.fn 23 (.bi .pair (.var 2) (.bi .pair (.fn 24 (.bi .pair (.fn 23 (.bi .pair (.var 2) (.bi .pair (.int 0) (.bi .pair (.var 0) (.int 0))))) (.bi .pair (.fn 7 (.bi .pair (.var 10) (.bi .pair (.bi .add (.un .len (.fn 23 (.bi .pair (.var 2) (.bi .pair (.int 0) (.bi .pair (.var 0) (.int 0)))))) (.int 1)) (.int 0)))) (.int 0)))) (.bi .pair (.bi .sub (.var 0) (.fn 24 (.bi .pair (.fn 23 (.bi .pair (.var 2) (.bi .pair (.int 0) (.bi .pair (.var 0) (.int 0))))) (.bi .pair (.fn 7 (.bi .pair (.var 10) (.bi .pair (.bi .add (.un .len (.fn 23 (.bi .pair (.var 2) (.bi .pair (.int 0) (.bi .pair (.var 0) (.int 0)))))) (.int 1)) (.int 0)))) (.int 0))))) (.int 0))))) (.int 0) (.bi .add (.int 0) (.un .len (.fn 23 (.bi .pair (.var 2) (.bi .pair (.fn 24 (.bi .pair (.fn 23 (.bi .pair (.var 2) (.bi .pair (.int 0) (.bi .pair (.var 0) (.int 0))))) (.bi .pair (.fn 7 (.bi .pair (.var 10) (.bi .pair (.bi .add (.un .len (.fn 23 (.bi .pair (.var 2) (.bi .pair (.int 0) (.bi .pair (.var 0) (.int 0)))))) (.int 1)) (.int 0)))) (.int 0)))) (.bi .pair (.bi .sub (.var 0) (.fn 24 (.bi .pair (.fn 23 (.bi .pair (.var 2) (.bi .pair (.int 0) (.bi .pair (.var 0) (.int 0))))) (.bi .pair (.fn 7 (.bi .pair (.var 10) (.bi .pair (.bi .add (.un .len (.fn 23 (.bi .pair (.var 2) (.bi .pair (.int 0) (.bi .pair (.var 0) (.int 0)))))) (.int 1)) (.int 0)))) (.int 0))))) (.int 0)))))))) (.tr .cut (.fn 23 (.bi .pair (.var 2) (.bi .pair (.int 0) (.bi .pair (.var 0) (.int 0))))) (.fn 7 (.bi .pair (.var 10) (.bi .pair (.bi .add (.un .len (.fn 23 (.bi .pair (.var 2) (.bi .pair (.int 0) (.bi .pair (.var 0) (.int 0)))))) (.int 1)) (.int 0)))) (.bi .add (.fn 7 (.bi .pair (.var 10) (.bi .pair (.bi .add (.un .len (.fn 23 (.bi .pair (.var 2) (.bi .pair (.int 0) (.bi .pair (.var 0) (.int 0)))))) (.int 1)) (.int 0)))) (.bi .sub (.un .len (.fn 23 (.bi .pair (.var 2) (.bi .pair (.int 0) (.bi .pair (.var 0) (.int 0)))))) (.fn 7 (.bi .pair (.var 10) (.bi .pair (.bi .add (.un .len (.fn 23 (.bi .pair (.var 2) (.bi .pair (.int 0) (.bi .pair (.var 0) (.int 0)))))) (.int 1)) (.int 0)))))))), true)
abbrev as28 : Q × Bool := ((.fit .i64 (.bi .add (.var 0) (.int 1))), true)
abbrev as29 : Q × Bool := ((.le (.int 1) (.bi .add (.var 0) (.int 1))), true)
abbrev as30 : Q × Bool := ((.le (.int 0) (.fn 7 (.bi .pair (.var 20) (.bi .pair (.bi .add (.var 0) (.int 1)) (.int 0))))), true)
abbrev as31 : Q × Bool := ((.le (.fn 7 (.bi .pair (.var 20) (.bi .pair (.bi .add (.var 0) (.int 1)) (.int 0)))) (.var 1)), true)
abbrev as32 : Q × Bool := ((.le (.bi .add (.int 0) (.fn 7 (.bi .pair (.var 20) (.bi .pair (.bi .add (.var 0) (.int 1)) (.int 0))))) (.var 0)), true)
abbrev as33 : Q × Bool := ((.le (.fn 7 (.bi .pair (.var 20) (.bi .pair (.bi .add (.var 0) (.int 1)) (.int 0)))) (.int 20000)), true)
abbrev as34 : Q × Bool := ((.le (.int 1) (.fn 7 (.bi .pair (.var 20) (.bi .pair (.bi .add (.var 0) (.int 1)) (.int 0))))), true)
abbrev as35 : Q × Bool := ((.le (.bi .add (.int 0) (.int 1)) (.un .len (.fn 23 (.bi .pair (.var 2) (.bi .pair (.int 0) (.bi .pair (.fn 7 (.bi .pair (.var 20) (.bi .pair (.bi .add (.var 0) (.int 1)) (.int 0)))) (.int 0))))))), true)
abbrev as36 : Q × Bool := ((.le (.un .len (.fn 23 (.bi .pair (.var 2) (.bi .pair (.int 0) (.bi .pair (.fn 7 (.bi .pair (.var 20) (.bi .pair (.bi .add (.var 0) (.int 1)) (.int 0)))) (.int 0)))))) (.bi .add (.un .len (.fn 23 (.bi .pair (.var 2) (.bi .pair (.int 0) (.bi .pair (.var 0) (.int 0)))))) (.int 1))), true)
abbrev as37 : Q × Bool := ((.le (.un .len (.fn 23 (.bi .pair (.var 2) (.bi .pair (.int 0) (.bi .pair (.var 0) (.int 0)))))) (.int 20000)), true)
abbrev as38 : Q × Bool := ((.same (.tr .cut (.fn 23 (.bi .pair (.var 2) (.bi .pair (.int 0) (.bi .pair (.fn 7 (.bi .pair (.var 20) (.bi .pair (.bi .add (.var 0) (.int 1)) (.int 0)))) (.int 0))))) (.int 0) (.bi .add (.int 0) (.bi .sub (.un .len (.fn 23 (.bi .pair (.var 2) (.bi .pair (.int 0) (.bi .pair (.fn 7 (.bi .pair (.var 20) (.bi .pair (.bi .add (.var 0) (.int 1)) (.int 0)))) (.int 0)))))) (.int 1)))) (.tr .cut (.fn 23 (.bi .pair (.var 2) (.bi .pair (.int 0) (.bi .pair (.var 0) (.int 0))))) (.int 0) (.bi .add (.int 0) (.bi .sub (.un .len (.fn 23 (.bi .pair (.var 2) (.bi .pair (.int 0) (.bi .pair (.fn 7 (.bi .pair (.var 20) (.bi .pair (.bi .add (.var 0) (.int 1)) (.int 0)))) (.int 0)))))) (.int 1))))), true)
def c_in_t1 : List (Q × Bool) := [as4, as6, as7, as8, as9, as10, as11, as12, as13, as14, as15, as16, as17, as18, as19, as20, as21, as22, as23, as24, as25, as26, as27, as28, as29, as30, as31, as32, as33, as34, as35, as36, as37, as38]
set_option maxRecDepth 100000 in
theorem c_in_y1 : yesOf Try.prog (knownV (tellA c_in_t1) tabS specsS oversS) 8000 80 5 [.sslice 1 (.int 0) (.var 0) (.var 1) false, .sint .i64 (.var 10), .sint .i64 (.var 20)] ((globSt g0).newO (.eseq ⟨.u8, .var 0, .var 2⟩)) = true := by kernel_rfl
abbrev as39 : Q × Bool := ((.le (.int 1) (.bi .sub (.var 0) (.fn 24 (.bi .pair (.fn 23 (.bi .pair (.var 2) (.bi .pair (.int 0) (.bi .pair (.var 0) (.int 0))))) (.bi .pair (.fn 7 (.bi .pair (.var 10) (.bi .pair (.bi .add (.un .len (.fn 23 (.bi .pair (.var 2) (.bi .pair (.int 0) (.bi .pair (.var 0) (.int 0)))))) (.int 1)) (.int 0)))) (.int 0)))))), false)
abbrev as40 : Q × Bool := ((.fit .i64 (.bi .sub (.un .len (.fn 23 (.bi .pair (.var 2) (.bi .pair (.int 0) (.bi .pair (.var 0) (.int 0)))))) (.fn 7 (.bi .pair (.var 10) (.bi .pair (.bi .add (.un .len (.fn 23 (.bi .pair (.var 2) (.bi .pair (.int 0) (.bi .pair (.var 0) (.int 0)))))) (.int 1)) (.int 0)))))), true)
abbrev as41 : Q × Bool := ((.eq (.int 0) (.bi .sub (.un .len (.fn 23 (.bi .pair (.var 2) (.bi .pair (.int 0) (.bi .pair (.var 0) (.int 0)))))) (.fn 7 (.bi .pair (.var 10) (.bi .pair (.bi .add (.un .len (.fn 23 (.bi .pair (.var 2) (.bi .pair (.int 0) (.bi .pair (.var 0) (.int 0)))))) (.int 1)) (.int 0)))))), true)
def c_in_t2 : List (Q × Bool) := [as4, as6, as7, as8, as9, as10, as11, as12, as13, as14, as15, as16, as17, as18, as19, as20, as21, as39, as40, as41, as28, as29, as30, as31, as32, as33, as34, as35, as36, as37, as38]
set_option maxRecDepth 100000 in
theorem c_in_y2 : yesOf Try.prog (knownV (tellA c_in_t2) tabS specsS oversS) 8000 80 5 [.sslice 1 (.int 0) (.var 0) (.var 1) false, .sint .i64 (.var 10), .sint .i64 (.var 20)] ((globSt g0).newO (.eseq ⟨.u8, .var 0, .var 2⟩)) = true := by kernel_rfl
abbrev as42 : Q × Bool := ((.le (.int 1) (.fn 7 (.bi .pair (.var 20) (.bi .pair (.bi .add (.var 0) (.int 1)) (.int 0))))), false)
def c_in_t3 : List (Q × Bool) := [as4, as6, as7, as8, as9, as10, as11, as12, as13, as14, as15, as16, as17, as18, as19, as20, as21, as22, as23, as24, as25, as26, as27, as28, as29, as30, as31, as32, as33, as42]
set_option maxRecDepth 100000 in
theorem c_in_y3 : yesOf Try.prog (knownV (tellA c_in_t3) tabS specsS oversS) 8000 80 5 [.sslice 1 (.int 0) (.var 0) (.var 1) false, .sint .i64 (.var 10), .sint .i64 (.var 20)] ((globSt g0).newO (.eseq ⟨.u8, .var 0, .var 2⟩)) = true := by kernel_rfl
def c_in_t4 : List (Q × Bool) := [as4, as6, as7, as8, as9, as10, as11, as12, as13, as14, as15, as16, as17, as18, as19, as20, as21, as39, as40, as41, as28, as29, as30, as31, as32, as33, as42]
set_option maxRecDepth 100000 in
theorem c_in_y4 : yesOf Try.prog (knownV (tellA c_in_t4) tabS specsS oversS) 8000 80 5 [.sslice 1 (.int 0) (.var 0) (.var 1) false, .sint .i64 (.var 10), .sint .i64 (.var 20)] ((globSt g0).newO (.eseq ⟨.u8, .var 0, .var 2⟩)) = true := by kernel_rfl
set_option maxRecDepth 100000 in
set_option maxHeartbeats 6000000 in
theorem c_in_walk {W : World} {v0 : Value} {b0 off0 len0 cap0 : Nat} {zs0 : List Int} (h0 : InSlice W .u8 v0 b0 off0 len0 cap0 zs0) {n1 : Int} (hn1 : inK .i64 n1) {n2 : Int} (hn2 : inK .i64 n2) (hG : GlobsR (om len0 cap0 zs0 n1 n2) W g0) : Calls Try.prog 5 #[v0, .int .i64 n1, .int .i64 n2] W fun e w' => e = .returned (.bool true) ∧ Below W.heap.size W w' := by
 have r0 := Rel.globs (om len0 cap0 zs0 n1 n2) W g0 hG
 obtain ⟨le0, r1, x0⟩ := h0.open r0 (l := 0) (c := 1) (x := 2) rfl rfl rfl
 have pos0 := h0.pos
 have lec0 := h0.le
 have max0 := h0.max
 have zl0 := h0.len
 have rng0 := h0.rng
 have hargs : VRs _ [.sslice 1 (.int 0) (.var 0) (.var 1) false, .sint .i64 (.var 10), .sint .i64 (.var 20)] [v0, .int .i64 n1, .int .i64 n2] := VRs_cons (x0) (VRs_cons (vr_sint (i := 10) hn1 (by rw [r1.opq]; rfl)) (VRs_cons (vr_sint (i := 20) hn2 (by rw [r1.opq]; rfl)) (VRs_nil)))
 simp only [inK, i64min, i64max, u8min, u8max, u32min, u32max, u64min, u64max] at hn1
 simp only [inK, i64min, i64max, u8min, u8max, u32min, u32max, u64min, u64max] at hn2
 by_cases h : 8000 < len0
 ·refine calls_of_yesV sound tabS_ok specsS_ok oversS_ok c_in_y0 rfl (tellA_ok (allTold'_iff.1 ?_)) r1 hargs
  simp only [c_in_t0, om_0, om_1, om_2, om_10, om_20, om_f, allTold', dutiesTold, factsA, factsC, factsP, factsR, AV.facts, RW.facts, inK, and_true, Q.holds', E.i, E.s, E.n, D.nat, E.den, BO.den, UO.den, TO.den, D.toInt_int, D.toList_list, D.ints_ofInts, i64min, i64max, u8min, u8max, u16min, u16max, u32min, u32max, u64min, u64max, i32min, i32max, Om.sub, selI, ints_app, ints_cut, ints_upd, ints_rep, ints_splice, ints_seg, len_ints]
  omega
 ·have hz := h0.len
  have hp := h0.pos
  obtain ⟨ao, asu⟩ := all_ok (x := zs0) (o := 0) (t := len0) (by omega) (by omega)
  have al := all_len (x := zs0) (o := 0) (t := len0) (by omega)
  have ew := emod_in (x := n1) (n := ((allT zs0 0 len0).length : Int) + 1) (by omega)
  generalize hw : n1 % (((allT zs0 0 len0).length : Int) + 1) = w at *
  have ek := emod_in (x := n2) (n := (len0 : Int) + 1) (by omega)
  generalize hk : n2 % ((len0 : Int) + 1) = k at *
  have aa := all_at (x := zs0) (t := len0) (k := w.toNat) (by omega)
  have ad := all_drop (x := zs0) (o := 0) (t := len0) (by omega) w.toNat
  have ap := all_pre (x := zs0) (o := 0) (q := k) (t := len0) (by omega)
  have t0 : sumL ((allT zs0 0 len0).take (Int.toNat 0)) = 0 := rfl
  generalize hs : sumL ((allT zs0 0 len0).take w.toNat) = s at *
  rw [Int.zero_add] at ad
  have adl := congrArg List.length ad
  rw [List.length_drop] at adl
  have ap0 := all_len (x := zs0) (o := s) (t := len0 - s) (by omega)
  by_cases c : s < len0
  ·have an := all_pos (x := zs0) (o := s) (t := len0 - s) (by omega)
   by_cases e : 1 ≤ k
   ·have am := all_pos (x := zs0) (o := 0) (t := k) e
    refine calls_of_yesV sound tabS_ok specsS_ok oversS_ok c_in_y1 rfl (tellA_ok (allTold'_iff.1 ?_)) r1 hargs
    simp only [c_in_t1, om_0, om_1, om_2, om_10, om_20, om_f, F7, F23, F24, F25, t0, if_pos ao, hw, hk, hs, allTold', dutiesTold, factsA, factsC, factsP, factsR, AV.facts, RW.facts, inK, and_true, Q.holds', E.i, E.s, E.n, D.nat, E.den, BO.den, UO.den, TO.den, D.toInt_int, D.toList_list, D.ints_ofInts, i64min, i64max, u8min, u8max, u16min, u16max, u32min, u32max, u64min, u64max, i32min, i32max, Om.sub, selI, ints_app, ints_cut, ints_upd, ints_rep, ints_splice, ints_seg, len_ints]
    first | done | (and_intros <;> first | exact True.intro | omega | exact same_drop ad (by omega) (by omega) (by omega) | exact same_take ap.1 (by omega) | assumption)
   ·refine calls_of_yesV sound tabS_ok specsS_ok oversS_ok c_in_y3 rfl (tellA_ok (allTold'_iff.1 ?_)) r1 hargs
    simp only [c_in_t3, om_0, om_1, om_2, om_10, om_20, om_f, F7, F23, F24, F25, t0, if_pos ao, hw, hk, hs, allTold', dutiesTold, factsA, factsC, factsP, factsR, AV.facts, RW.facts, inK, and_true, Q.holds', E.i, E.s, E.n, D.nat, E.den, BO.den, UO.den, TO.den, D.toInt_int, D.toList_list, D.ints_ofInts, i64min, i64max, u8min, u8max, u16min, u16max, u32min, u32max, u64min, u64max, i32min, i32max, Om.sub, selI, ints_app, ints_cut, ints_upd, ints_rep, ints_splice, ints_seg, len_ints]
    first | done | (and_intros <;> first | exact True.intro | omega | exact same_drop ad (by omega) (by omega) (by omega) | exact same_take ap.1 (by omega) | assumption)
  ·have cs : s = len0 := by omega
   by_cases e : 1 ≤ k
   ·have am := all_pos (x := zs0) (o := 0) (t := k) e
    refine calls_of_yesV sound tabS_ok specsS_ok oversS_ok c_in_y2 rfl (tellA_ok (allTold'_iff.1 ?_)) r1 hargs
    simp only [c_in_t2, om_0, om_1, om_2, om_10, om_20, om_f, F7, F23, F24, F25, t0, if_pos ao, hw, hk, hs, allTold', dutiesTold, factsA, factsC, factsP, factsR, AV.facts, RW.facts, inK, and_true, Q.holds', E.i, E.s, E.n, D.nat, E.den, BO.den, UO.den, TO.den, D.toInt_int, D.toList_list, D.ints_ofInts, i64min, i64max, u8min, u8max, u16min, u16max, u32min, u32max, u64min, u64max, i32min, i32max, Om.sub, selI, ints_app, ints_cut, ints_upd, ints_rep, ints_splice, ints_seg, len_ints]
    first | done | (and_intros <;> first | exact True.intro | omega | exact same_drop ad (by omega) (by omega) (by omega) | exact same_take ap.1 (by omega) | assumption)
   ·refine calls_of_yesV sound tabS_ok specsS_ok oversS_ok c_in_y4 rfl (tellA_ok (allTold'_iff.1 ?_)) r1 hargs
    simp only [c_in_t4, om_0, om_1, om_2, om_10, om_20, om_f, F7, F23, F24, F25, t0, if_pos ao, hw, hk, hs, allTold', dutiesTold, factsA, factsC, factsP, factsR, AV.facts, RW.facts, inK, and_true, Q.holds', E.i, E.s, E.n, D.nat, E.den, BO.den, UO.den, TO.den, D.toInt_int, D.toList_list, D.ints_ofInts, i64min, i64max, u8min, u8max, u16min, u16max, u32min, u32max, u64min, u64max, i32min, i32max, Om.sub, selI, ints_app, ints_cut, ints_upd, ints_rep, ints_splice, ints_seg, len_ints]
    first | done | (and_intros <;> first | exact True.intro | omega | exact same_drop ad (by omega) (by omega) (by omega) | exact same_take ap.1 (by omega) | assumption)

theorem underS22 : Try.prog.underlying 22 = some (.slice 5) := by kernel_rfl
theorem underE5 : Try.prog.underlying 5 = some (.int .u8) := by kernel_rfl
theorem cellsE5 : Try.prog.cellsOf 5 = 1 := by kernel_rfl
theorem underI3 : Try.prog.underlying 3 = some (.int .i64) := by kernel_rfl

set_option maxRecDepth 100000 in
theorem lifted (os : Os) (started : os.Started) (H : Type) (enc : TypeId × Value → H) :
  ReturnsInHanded {} Try.checked os 5 .any (Rows.chunkAloneSpec.pre6 enc Try.prog Try.f5 Rows.chunkAloneRow.domain false) (Rows.chunkAloneSpec.post enc Try.prog Try.f5 false true false false) := by
 refine returnsInHanded_of_change (C := Try.checked) own started (by kernel_rfl) Try.func5
  (ChangeSpec.witness6 (enc := enc) (C := Try.checked) false ⟨#[], #[.slice none 0 0, .int .i64 0, .int .i64 0], []⟩ 8 (by kernel_rfl) (by kernel_rfl) (by kernel_rfl) (by kernel_rfl)) ?_
 intro W base args ds gs before hval0 hW hcnd _
 have hval : ∀ (j : Nat) t v, Try.f5.params[j]? = some t → args[j]? = some v → Value.okWide Try.prog W .any base t v := hval0
 have hW' := hW
 have hlt := hW.lt
 obtain ⟨p, q, hA0, hV, rfl, hfz, hnd⟩ := hW
 have hA : DataW.TrodAll enc Try.prog W 0 (fun _ => true) true Try.f5.params.toList args.toList ds p := hA0
 have hAll := hA
 rw [Try.params5] at hA hval hAll
 obtain ⟨rfl, rfl⟩ := trodVars_none hV
 obtain ⟨pv0, pv1, pv2, d0, d1, d2, p0, p1, p2, rfl, rfl, rfl, h0, h1, h2⟩ := trodAll_three hA
 have s0 := in_slice (k := .u8) underS22 underE5 cellsE5 (hval 0 22 _ rfl rfl) h0
 obtain ⟨n1, rfl, rfl, rfl, wn1⟩ := open_int underI3 (hval 1 3 _ rfl rfl) h1
 have wn1 := wf_inK wn1
 obtain ⟨n2, rfl, rfl, rfl, wn2⟩ := open_int underI3 (hval 2 3 _ rfl rfl) h2
 have wn2 := wf_inK wn2
 clear hA0 hval0
 have hcall : Calls Try.prog 5 #[pv0, .int .i64 n1, .int .i64 n2] W fun e w' => e = .returned (.bool true) ∧ Below W.heap.size W w' := by
  rcases s0 with rfl | ⟨a0, c0, rfl⟩ | ⟨_, _, _, _, _, s0⟩
  ·exact c_emp_walk (fun _ => vr_emptyN) wn1 wn2 (globs0 _ W)
  ·exact c_emp_walk (fun _ => vr_emptyH a0 c0) wn1 wn2 (globs0 _ W)
  ·exact c_in_walk s0 wn1 wn2 (globs0 _ W)
 refine hcall.mono fun e W' ⟨he, hg⟩ => ?_
 subst he
 exact ⟨_, rfl, _, [], _, [], _, [], hW', trodAll_cons_mk (shut_bool Try.underlying4 _) trodAll_mk0, trodAll_stays laid hg _ _ _ _ hAll (fun x hx => hlt x (by simpa using hx)) (by kernel_rfl), rfl, hg.frame _, fun h => by cases h⟩

theorem over : Rows.chunkAloneRow.holds Try.pinned (OpenSpec.ofChange Rows.chunkAloneSpec) :=
 OpenClaim.holds_of_wide 5 Try.f5 rfl rfl rfl rfl rfl rfl rfl ⟨rfl, rfl, rfl, rfl, rfl⟩ rfl rfl rfl rfl rfl (by kernel_rfl) Try.func5 (by kernel_rfl)
  (of_decide_eq_true (by kernel_rfl)) (by unfold Func.isWrapper; first | (rw [if_pos (by decide +kernel)]; kernel_rfl) | (rw [if_neg (by decide +kernel)]; exact ⟨rfl, rfl⟩))
  (fun os started H enc _ => lifted os started H enc)

/-- The statement. -/
theorem proved : Rows.ChunkAloneSaid :=
 over
#print axioms proved
end Go.Proofs.Ytlfehhmkpppajaa.chunkAlone
