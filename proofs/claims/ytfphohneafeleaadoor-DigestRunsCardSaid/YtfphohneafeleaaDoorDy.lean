/-
  Contracts of this seat: what loops and calls leave, for all inputs. No condition.
-/
import Derived.Test.YtfphohneafeleaaDoorSycp
import Derived.Test.YtfphohneafeleaaDoorSyfm
import Derived.Test.YtfphohneafeleaaDoorCo
import Derived.Test.YtfphohneafeleaaDoorDp
import Derived.Test.YtfphohneafeleaaDoorDu
import Derived.Test.YtfphohneafeleaaDoorDq
import Derived.Test.YtfphohneafeleaaDoorDr
import Derived.Test.YtfphohneafeleaaDoorDs
import Derived.Test.YtfphohneafeleaaDoorDx
set_option linter.unusedSimpArgs false
set_option linter.unusedVariables false
namespace Go.Proofs.YtfphohneafeleaaDoor.Dy
open Go.RowKit Go.Ev Go.Proofs.YtfphohneafeleaaDoor.Co

open Go.Proofs.YtfphohneafeleaaDoor.Dp
open Go.Proofs.YtfphohneafeleaaDoor.Du
open Go.Proofs.YtfphohneafeleaaDoor.Dq
open Go.Proofs.YtfphohneafeleaaDoor.Dr
open Go.Proofs.YtfphohneafeleaaDoor.Ds
open Go.Proofs.YtfphohneafeleaaDoor.Dx

theorem lens_nn : ∀ l : List D, 0 ≤ lensI l
  | [] => by simp [lensI]
  | x :: l => by have := lens_nn l; simp only [lensI]; omega
theorem lens_end {l : List D} {i : Nat} (h : l.length ≤ i ∨ 21 ≤ i) : lensI ((l.take 21).drop i) = 0 := by
  rw [List.drop_of_length_le (by rw [List.length_take]; omega)]; rfl
theorem lens_step {l : List D} {i : Nat} (h : i < l.length) (h2 : i < 21) : lensI ((l.take 21).drop i) = ((l[i]?.getD (.int 0)).toList.length : Int) + lensI ((l.take 21).drop (i + 1)) := by
  have h3 : i < (l.take 21).length := by rw [List.length_take]; omega
  rw [List.drop_eq_getElem_cons h3]
  simp only [lensI]
  rw [List.getElem_take, List.getElem?_eq_getElem h]
  rfl
theorem cat_step {l : List D} {i : Nat} (h : i < l.length) : catI (l.take (i + 1)) = catI (l.take i) ++ (l[i]?.getD (.int 0)).ints := by
  rw [List.take_add_one, List.getElem?_eq_getElem h]
  have e : ∀ (a : List D) (x : D), catI (a ++ [x]) = catI a ++ x.ints := by
    intro a x
    induction a with
    | nil => simp [catI]
    | cons y a ih => simp only [List.cons_append, catI, ih, List.append_assoc]
  exact e _ _
abbrev txDy0 : E := (.bi .app (.var 5) (.bi .sel (.var 0) (.var 1)))
abbrev txDy1 : E := (.bi .pair (.var 0) (.bi .pair (.var 2) (.int 0)))
abbrev txDy2 : E := (.bi .pair (.var 0) (.bi .pair (.var 1) (.int 0)))
abbrev txDy3 : E := (.bi .pair (.int 0) (.bi .pair (.int 0) (.int 0)))
abbrev txDy4 : E := (.bi .add (.var 1) (.un .len (.bi .sel (.var 0) (.var 2))))
abbrev txDy5 : E := (.bi .add (.int 0) (.un .len (.bi .sel (.var 0) (.var 1))))
abbrev txDy6 : E := (.bi .add (.var 4) (.un .len (.bi .sel (.var 0) (.var 1))))
abbrev txDy7 : E := (.bi .pair (.un .len (.bi .sel (.var 0) (.var 1))) (.int 0))
abbrev txDy8 : E := (.bi .pair (.int 0) (.bi .pair txDy6 (.int 0)))
abbrev txDy9 : E := (.bi .pair (.bi .sel (.var 0) (.var 1)) (.bi .pair (.int 0) txDy7))
abbrev txDy10 : E := (.bi .pair (.fn 6 txDy9) (.bi .pair (.int 0) txDy7))
abbrev txDy11 : E := (.bi .pair (.var 3) (.bi .pair (.int 0) txDy10))
abbrev txDy12 : E := (.bi .pair (.var 3) (.bi .pair (.var 4) txDy10))
abbrev txDy13 : E := (.bi .pair (.fn 5 (.bi .pair (.var 2) txDy11)) (.bi .pair txDy5 (.int 0)))
abbrev txDy14 : E := (.bi .pair (.fn 5 (.bi .pair (.var 2) txDy12)) (.bi .pair txDy6 (.int 0)))
abbrev txDy15 : E := (.bi .pair (.fn 4 (.bi .pair (.var 2) txDy11)) txDy13)
abbrev txDy16 : E := (.bi .pair (.fn 4 (.bi .pair (.var 2) txDy12)) txDy14)
abbrev vu32Dy (a : E) (j : Int) : AV := .sint .u32 (.bi .sel a (.int j))
abbrev vu8Dy (a : E) (j : Int) : AV := .sint .u8 (.bi .sel a (.int j))
theorem prt_all {X : List Int} {n : Int} (h : n = X.length) : prt X 0 (0 + n) = X := by
  subst h
  unfold prt
  rw [List.take_of_length_le (by omega)]
  rfl
theorem mk_eq (t : TK) (z : Int) (h : t.z = z) : TK.mk t.s t.b z = t := by subst h; rfl
theorem first_len (r : List Int) : (takeI ⟨firstL, List.replicate 64 0, 0⟩ r).b.length = 64 := take_b (by simp)
theorem first_at {y : List Int} {n : Int} (hn : n = y.length) : TK.mk (takeI ⟨firstL, List.replicate 64 0, 0⟩ y).s (takeI ⟨firstL, List.replicate 64 0, 0⟩ y).b n = takeI ⟨firstL, List.replicate 64 0, 0⟩ y :=
  mk_eq _ _ (by rw [take_z]; simp only; omega)
theorem lent_whole {x : List Int} {m : Int} (h : m = x.length) : prt (lentI (prt x 0 m)) 0 (0 + m) = x := by
  have := lent_prt (X := x) (l := m) (by omega) (by omega)
  rw [prt_all h] at this
  have e : prt x 0 m = x := by have := prt_all (X := x) h; rwa [show (0 : Int) + m = m by omega] at this
  rw [e]; exact this
theorem zeroK_eq : zeroK = ⟨firstL, List.replicate 64 0, 0⟩ := rfl
theorem run_step {y x : List Int} {n m : Int} (hn : n = y.length) (hm : m = x.length) :
    takeI ⟨(takeI ⟨firstL, List.replicate 64 0, 0⟩ y).s, (takeI ⟨firstL, List.replicate 64 0, 0⟩ y).b, n⟩ x = takeI ⟨firstL, List.replicate 64 0, 0⟩ (y ++ x) := by
  rw [first_at hn, take_app _ _ _ _ (Nat.le_refl _) (by simp)]

def lensL : LSpec := { n := 86, next := 0, pat := [(0, .pv (.sl (.int .u8)) (.var 0)), (4, .sint .i64 (.var 1)), (5, .sint .i64 (.var 2))], rows := [], pre := [(.le (.int 0) (.var 2), true), (.le (.var 2) (.int 21), true), (.le (.int 0) (.var 1), true), (.le (.int 0) (.fn 30 txDy1), true), (.le (.bi .add (.var 1) (.fn 30 txDy1)) (.int 4611686018427387904), true), (.le (.un .len (.var 0)) (.int 9223372036854775807), true)], x := 0, fin := [(4, .sint .i64 (.bi .add (.var 1) (.fn 30 txDy1))), (0, .pv (.sl (.int .u8)) (.var 0))], frows := [], same := [], chg := [0, 4, 5, 12, 13, 14, 15, 16, 17, 18, 19, 20, 21, 22, 23, 24, 25, 26, 27, 28] }
abbrev asDy0 : Q × Bool := ((.fit .i64 (.un .len (.var 0))), true)
abbrev asDy1 : Q × Bool := ((.le (.un .len (.var 0)) (.var 2)), false)
abbrev asDy2 : Q × Bool := ((.le (.int 21) (.var 2)), false)
abbrev asDy3 : Q × Bool := ((.le (.int 0) (.var 2)), true)
abbrev asDy4 : Q × Bool := ((.fit .i64 (.un .len (.bi .sel (.var 0) (.var 2)))), true)
abbrev asDy5 : Q × Bool := ((.fit .i64 txDy4), true)
abbrev asDy6 : Q × Bool := ((.fit .i64 (.bi .add (.var 2) (.int 1))), true)
def lensL_t0 : List (Q × Bool) := [asDy0, asDy1, asDy2, asDy3, asDy4, asDy5, asDy6]
def lensL_d0 : List Duty := [(true, (.bi .add txDy4 (.fn 30 (.bi .pair (.var 0) (.bi .pair (.bi .add (.var 2) (.int 1)) (.int 0))))), (.bi .add (.var 1) (.fn 30 txDy1)))]
def lensL_h0 : List (Nat × E) := [(2, (.bi .add (.var 2) (.int 1))), (1, txDy4), (0, (.var 0))]
theorem lensL_h0_0 : lookE lensL_h0 0 = (.var 0) := rfl
theorem lensL_h0_1 : lookE lensL_h0 1 = txDy4 := rfl
theorem lensL_h0_2 : lookE lensL_h0 2 = (.bi .add (.var 2) (.int 1)) := rfl
theorem lensL_y0 : nextD lensL lensL_h0 [] (roundC Tryd.prog [] [] [] 3000 40 3 [4, 1, 0, 1, 1, 1, 1] (tellA lensL_t0) lensL) = some lensL_d0 := by kernel_rfl
abbrev asDy7 : Q × Bool := ((.le (.un .len (.var 0)) (.var 2)), true)
def lensL_t1 : List (Q × Bool) := [asDy0, asDy7]
def lensL_d1 : List Duty := [(true, (.var 1), (.bi .add (.var 1) (.fn 30 txDy1)))]
theorem lensL_y1 : endD lensL [] 1000 (roundC Tryd.prog [] [] [] 3000 40 3 [4, 1, 0, 1, 1, 1, 1] (tellA lensL_t1) lensL) = some lensL_d1 := by kernel_rfl
abbrev asDy8 : Q × Bool := ((.le (.int 21) (.var 2)), true)
def lensL_t2 : List (Q × Bool) := [asDy0, asDy1, asDy8]
def lensL_d2 : List Duty := [(true, (.var 1), (.bi .add (.var 1) (.fn 30 txDy1)))]
theorem lensL_y2 : endD lensL [] 1000 (roundC Tryd.prog [] [] [] 3000 40 3 [4, 1, 0, 1, 1, 1, 1] (tellA lensL_t2) lensL) = some lensL_d2 := by kernel_rfl
theorem lensL_holds : LHolds Tryd.prog (loopAt Tryd.prog 3 [4, 1, 0, 1, 1, 1, 1]) lensL F := by
  refine loop_roundsC sound (tableNil _ _) (specsNil _ _) (oversNil _ _) (fuel := 3000) (depth := 40) (by kernel_rfl) (by kernel_rfl) (by kernel_rfl) (fun d => (21 - (d 2).toInt).toNat) fun d hp hR hA => ?_
  have hp := allTold'_iff.2 hp
  simp only [lensL, allTold', dutiesTold, factsA, factsC, factsP, factsR, AV.facts, RW.facts, inK, and_true, Q.holds', E.i, E.s, E.n, D.nat, E.den, BO.den, UO.den, TO.den, D.toInt_int, D.toList_list, D.ints_ofInts, i64min, i64max, u8min, u8max, u16min, u16max, u32min, u32max, u64min, u64max, i32min, i32max, Om.sub, selI, ints_app, ints_cut, ints_upd, ints_rep, ints_splice, ints_seg, len_ints] at hp hR hA
  simp only [F30, allTold', dutiesTold, factsA, factsC, factsP, factsR, AV.facts, RW.facts, inK, and_true, Q.holds', E.i, E.s, E.n, D.nat, E.den, BO.den, UO.den, TO.den, D.toInt_int, D.toList_list, D.ints_ofInts, i64min, i64max, u8min, u8max, u16min, u16max, u32min, u32max, u64min, u64max, i32min, i32max, Om.sub, selI, ints_app, ints_cut, ints_upd, ints_rep, ints_splice, ints_seg, len_ints] at hp
  have g0 : (d 0).ints.length = (d 0).toList.length := (len_ints _).symm
  have g1 : ((d 0).toList[(d 2).toInt.toNat]?.getD (.int 0)).ints.length = ((d 0).toList[(d 2).toInt.toNat]?.getD (.int 0)).toList.length := (len_ints _).symm
  have hnn := lens_nn (((d 0).toList.take 21).drop (d 2).toInt.toNat)
  by_cases h : ((d 0).toList.length : Int) ≤ (d 2).toInt
  · refine ⟨tellA lensL_t1, tellA_ok (allTold'_iff.1 ?_), .inl ⟨_, _, _, lensL_y1, dutiesTold_ok ?_⟩⟩
    · simp only [lensL_t1, allTold', dutiesTold, factsA, factsC, factsP, factsR, AV.facts, RW.facts, inK, and_true, Q.holds', E.i, E.s, E.n, D.nat, E.den, BO.den, UO.den, TO.den, D.toInt_int, D.toList_list, D.ints_ofInts, i64min, i64max, u8min, u8max, u16min, u16max, u32min, u32max, u64min, u64max, i32min, i32max, Om.sub, selI, ints_app, ints_cut, ints_upd, ints_rep, ints_splice, ints_seg, len_ints]
      omega
    · simp only [lensL_d1, F30, allTold', dutiesTold, factsA, factsC, factsP, factsR, AV.facts, RW.facts, inK, and_true, Q.holds', E.i, E.s, E.n, D.nat, E.den, BO.den, UO.den, TO.den, D.toInt_int, D.toList_list, D.ints_ofInts, i64min, i64max, u8min, u8max, u16min, u16max, u32min, u32max, u64min, u64max, i32min, i32max, Om.sub, selI, ints_app, ints_cut, ints_upd, ints_rep, ints_splice, ints_seg, len_ints]
      rw [lens_end (.inl (by omega))]
      omega
  · by_cases h2 : 21 ≤ (d 2).toInt
    · refine ⟨tellA lensL_t2, tellA_ok (allTold'_iff.1 ?_), .inl ⟨_, _, _, lensL_y2, dutiesTold_ok ?_⟩⟩
      · simp only [lensL_t2, allTold', dutiesTold, factsA, factsC, factsP, factsR, AV.facts, RW.facts, inK, and_true, Q.holds', E.i, E.s, E.n, D.nat, E.den, BO.den, UO.den, TO.den, D.toInt_int, D.toList_list, D.ints_ofInts, i64min, i64max, u8min, u8max, u16min, u16max, u32min, u32max, u64min, u64max, i32min, i32max, Om.sub, selI, ints_app, ints_cut, ints_upd, ints_rep, ints_splice, ints_seg, len_ints]
        omega
      · simp only [lensL_d2, F30, allTold', dutiesTold, factsA, factsC, factsP, factsR, AV.facts, RW.facts, inK, and_true, Q.holds', E.i, E.s, E.n, D.nat, E.den, BO.den, UO.den, TO.den, D.toInt_int, D.toList_list, D.ints_ofInts, i64min, i64max, u8min, u8max, u16min, u16max, u32min, u32max, u64min, u64max, i32min, i32max, Om.sub, selI, ints_app, ints_cut, ints_upd, ints_rep, ints_splice, ints_seg, len_ints]
        rw [lens_end (.inr (by omega))]
        omega
    · have e := lens_step (l := (d 0).toList) (i := (d 2).toInt.toNat) (by omega) (by omega)
      have hnn2 := lens_nn (((d 0).toList.take 21).drop ((d 2).toInt.toNat + 1))
      refine ⟨tellA lensL_t0, tellA_ok (allTold'_iff.1 ?_), .inr ⟨lensL_h0, _, _, lensL_y0, dutiesTold_ok ?_, allTold'_iff.1 ?_, ?_⟩⟩
      · simp only [lensL_t0, allTold', dutiesTold, factsA, factsC, factsP, factsR, AV.facts, RW.facts, inK, and_true, Q.holds', E.i, E.s, E.n, D.nat, E.den, BO.den, UO.den, TO.den, D.toInt_int, D.toList_list, D.ints_ofInts, i64min, i64max, u8min, u8max, u16min, u16max, u32min, u32max, u64min, u64max, i32min, i32max, Om.sub, selI, ints_app, ints_cut, ints_upd, ints_rep, ints_splice, ints_seg, len_ints]
        omega
      · simp only [lensL_d0, F30, allTold', dutiesTold, factsA, factsC, factsP, factsR, AV.facts, RW.facts, inK, and_true, Q.holds', E.i, E.s, E.n, D.nat, E.den, BO.den, UO.den, TO.den, D.toInt_int, D.toList_list, D.ints_ofInts, i64min, i64max, u8min, u8max, u16min, u16max, u32min, u32max, u64min, u64max, i32min, i32max, Om.sub, selI, ints_app, ints_cut, ints_upd, ints_rep, ints_splice, ints_seg, len_ints]
        rw [show ((d 2).toInt + 1).toNat = (d 2).toInt.toNat + 1 by omega]
        omega
      · simp only [lensL, lensL_h0_0, lensL_h0_1, lensL_h0_2, F30, allTold', dutiesTold, factsA, factsC, factsP, factsR, AV.facts, RW.facts, inK, and_true, Q.holds', E.i, E.s, E.n, D.nat, E.den, BO.den, UO.den, TO.den, D.toInt_int, D.toList_list, D.ints_ofInts, i64min, i64max, u8min, u8max, u16min, u16max, u32min, u32max, u64min, u64max, i32min, i32max, Om.sub, selI, ints_app, ints_cut, ints_upd, ints_rep, ints_splice, ints_seg, len_ints]
        rw [show ((d 2).toInt + 1).toNat = (d 2).toInt.toNat + 1 by omega]
        omega
      · simp only [lensL_h0_0, lensL_h0_1, lensL_h0_2, allTold', dutiesTold, factsA, factsC, factsP, factsR, AV.facts, RW.facts, inK, and_true, Q.holds', E.i, E.s, E.n, D.nat, E.den, BO.den, UO.den, TO.den, D.toInt_int, D.toList_list, D.ints_ofInts, i64min, i64max, u8min, u8max, u16min, u16max, u32min, u32max, u64min, u64max, i32min, i32max, Om.sub, selI, ints_app, ints_cut, ints_upd, ints_rep, ints_splice, ints_seg, len_ints]
        omega

def runsN : LSpec := { n := 86, next := 1, pat := [(0, .pv (.sl (.int .u8)) (.var 0)), (3, .ptr 1 0), (6, .nilslice), (7, .sint .i64 (.var 1))], rows := [(1, .cells 43 0 false false [.ptr 1 0, vu32Dy (.var 2) 0, vu32Dy (.var 2) 1, vu32Dy (.var 2) 2, vu32Dy (.var 2) 3, vu32Dy (.var 2) 4, vu32Dy (.var 2) 5, vu32Dy (.var 2) 6, vu32Dy (.var 2) 7, vu8Dy (.var 3) 0, vu8Dy (.var 3) 1, vu8Dy (.var 3) 2, vu8Dy (.var 3) 3, vu8Dy (.var 3) 4, vu8Dy (.var 3) 5, vu8Dy (.var 3) 6, vu8Dy (.var 3) 7, vu8Dy (.var 3) 8, vu8Dy (.var 3) 9, vu8Dy (.var 3) 10, vu8Dy (.var 3) 11, vu8Dy (.var 3) 12, vu8Dy (.var 3) 13, vu8Dy (.var 3) 14, vu8Dy (.var 3) 15, vu8Dy (.var 3) 16, vu8Dy (.var 3) 17, vu8Dy (.var 3) 18, vu8Dy (.var 3) 19, vu8Dy (.var 3) 20, vu8Dy (.var 3) 21, vu8Dy (.var 3) 22, vu8Dy (.var 3) 23, vu8Dy (.var 3) 24, vu8Dy (.var 3) 25, vu8Dy (.var 3) 26, vu8Dy (.var 3) 27, vu8Dy (.var 3) 28, vu8Dy (.var 3) 29, vu8Dy (.var 3) 30, vu8Dy (.var 3) 31, vu8Dy (.var 3) 32, vu8Dy (.var 3) 33, vu8Dy (.var 3) 34, vu8Dy (.var 3) 35, vu8Dy (.var 3) 36, vu8Dy (.var 3) 37, vu8Dy (.var 3) 38, vu8Dy (.var 3) 39, vu8Dy (.var 3) 40, vu8Dy (.var 3) 41, vu8Dy (.var 3) 42, vu8Dy (.var 3) 43, vu8Dy (.var 3) 44, vu8Dy (.var 3) 45, vu8Dy (.var 3) 46, vu8Dy (.var 3) 47, vu8Dy (.var 3) 48, vu8Dy (.var 3) 49, vu8Dy (.var 3) 50, vu8Dy (.var 3) 51, vu8Dy (.var 3) 52, vu8Dy (.var 3) 53, vu8Dy (.var 3) 54, vu8Dy (.var 3) 55, vu8Dy (.var 3) 56, vu8Dy (.var 3) 57, vu8Dy (.var 3) 58, vu8Dy (.var 3) 59, vu8Dy (.var 3) 60, vu8Dy (.var 3) 61, vu8Dy (.var 3) 62, vu8Dy (.var 3) 63, .sint .i64 (.int 0)]), (0, .ext cellsG)], pre := [(.le (.int 0) (.var 1), true), (.le (.var 1) (.un .len (.var 0)), true), (.le (.un .len (.var 0)) (.int 20), true), (.le (.fn 30 txDy2) (.int 1000), true), (.same (.var 2) (.fn 11 (argsE [])), true), (.same (.var 3) (.fn 12 (argsE [])), true), (.same (.fn 31 txDy2) (.lits []), true)], x := 2, fin := [], frows := [], same := [1], chg := [0, 3, 6, 7, 8, 37, 38, 39, 40, 41, 42, 43, 44, 45, 46, 47, 48, 49, 50, 51, 52, 53, 54, 55, 56, 57, 58, 59, 60, 61, 62, 63, 64, 65, 66, 67, 68, 69, 70, 71, 72, 73, 74, 75, 76, 77, 78, 79, 80, 81, 82, 83, 84] }
def runsR : LSpec := { n := 86, next := 2, pat := [(0, .pv (.sl (.int .u8)) (.var 0)), (3, .ptr 1 0), (6, .sslice 3 (.int 0) (.var 4) (.var 4) true), (7, .sint .i64 (.var 1))], rows := [(1, .cells 43 0 false false [.ptr 1 0, vu32Dy (.var 2) 0, vu32Dy (.var 2) 1, vu32Dy (.var 2) 2, vu32Dy (.var 2) 3, vu32Dy (.var 2) 4, vu32Dy (.var 2) 5, vu32Dy (.var 2) 6, vu32Dy (.var 2) 7, vu8Dy (.var 3) 0, vu8Dy (.var 3) 1, vu8Dy (.var 3) 2, vu8Dy (.var 3) 3, vu8Dy (.var 3) 4, vu8Dy (.var 3) 5, vu8Dy (.var 3) 6, vu8Dy (.var 3) 7, vu8Dy (.var 3) 8, vu8Dy (.var 3) 9, vu8Dy (.var 3) 10, vu8Dy (.var 3) 11, vu8Dy (.var 3) 12, vu8Dy (.var 3) 13, vu8Dy (.var 3) 14, vu8Dy (.var 3) 15, vu8Dy (.var 3) 16, vu8Dy (.var 3) 17, vu8Dy (.var 3) 18, vu8Dy (.var 3) 19, vu8Dy (.var 3) 20, vu8Dy (.var 3) 21, vu8Dy (.var 3) 22, vu8Dy (.var 3) 23, vu8Dy (.var 3) 24, vu8Dy (.var 3) 25, vu8Dy (.var 3) 26, vu8Dy (.var 3) 27, vu8Dy (.var 3) 28, vu8Dy (.var 3) 29, vu8Dy (.var 3) 30, vu8Dy (.var 3) 31, vu8Dy (.var 3) 32, vu8Dy (.var 3) 33, vu8Dy (.var 3) 34, vu8Dy (.var 3) 35, vu8Dy (.var 3) 36, vu8Dy (.var 3) 37, vu8Dy (.var 3) 38, vu8Dy (.var 3) 39, vu8Dy (.var 3) 40, vu8Dy (.var 3) 41, vu8Dy (.var 3) 42, vu8Dy (.var 3) 43, vu8Dy (.var 3) 44, vu8Dy (.var 3) 45, vu8Dy (.var 3) 46, vu8Dy (.var 3) 47, vu8Dy (.var 3) 48, vu8Dy (.var 3) 49, vu8Dy (.var 3) 50, vu8Dy (.var 3) 51, vu8Dy (.var 3) 52, vu8Dy (.var 3) 53, vu8Dy (.var 3) 54, vu8Dy (.var 3) 55, vu8Dy (.var 3) 56, vu8Dy (.var 3) 57, vu8Dy (.var 3) 58, vu8Dy (.var 3) 59, vu8Dy (.var 3) 60, vu8Dy (.var 3) 61, vu8Dy (.var 3) 62, vu8Dy (.var 3) 63, .sint .i64 (.var 4)]), (3, .seq ⟨5, .u8, .var 4, .var 5, true, false⟩), (0, .ext cellsG)], pre := [(.le (.int 0) (.var 1), true), (.le (.var 1) (.un .len (.var 0)), true), (.le (.un .len (.var 0)) (.int 20), true), (.le (.int 1) (.var 4), true), (.le (.bi .add (.var 4) (.fn 30 txDy2)) (.int 1000), true), (.eq (.var 4) (.un .len (.var 5)), true), (.same (.var 2) (.fn 4 (.bi .pair (.fn 11 (argsE [])) (.bi .pair (.fn 12 (argsE [])) (.bi .pair (.int 0) (.bi .pair (.var 5) (.bi .pair (.int 0) (.bi .pair (.var 4) (.int 0)))))))), true), (.same (.var 3) (.fn 5 (.bi .pair (.fn 11 (argsE [])) (.bi .pair (.fn 12 (argsE [])) (.bi .pair (.int 0) (.bi .pair (.var 5) (.bi .pair (.int 0) (.bi .pair (.var 4) (.int 0)))))))), true), (.same (.var 5) (.fn 31 txDy2), true)], x := 2, fin := [], frows := [], same := [1], chg := [0, 3, 6, 7, 8, 37, 38, 39, 40, 41, 42, 43, 44, 45, 46, 47, 48, 49, 50, 51, 52, 53, 54, 55, 56, 57, 58, 59, 60, 61, 62, 63, 64, 65, 66, 67, 68, 69, 70, 71, 72, 73, 74, 75, 76, 77, 78, 79, 80, 81, 82, 83, 84] }
def runsF : Nat → LSpec
  | 0 => runsN
  | _ => runsR
abbrev asDy9 : Q × Bool := ((.le (.un .len (.var 0)) (.var 1)), false)
abbrev asDy10 : Q × Bool := ((.le (.int 0) (.var 1)), true)
abbrev asDy11 : Q × Bool := ((.le (.un .len (.bi .sel (.var 0) (.var 1))) (.int 1000000)), true)
abbrev asDy12 : Q × Bool := ((.le txDy5 (.int 4611686018427387904)), true)
abbrev asDy13 : Q × Bool := ((.eq (.un .len (.var 3)) (.int 64)), true)
abbrev asDy14 : Q × Bool := ((.le txDy5 (.bi .add (.un .len (.bi .sel (.var 0) (.var 1))) (.int 3))), true)
abbrev asDy15 : Q × Bool := ((.le (.bi .add (.un .len (.bi .sel (.var 0) (.var 1))) (.int 3)) (.int 9223372036854775807)), true)
abbrev asDy16 : Q × Bool := ((.eq (.un .len (.bi .sel (.var 0) (.var 1))) (.int 0)), true)
abbrev asDy17 : Q × Bool := ((.le (.int 0) txDy5), true)
abbrev asDy18 : Q × Bool := ((.le txDy5 (.int 1152921504606846976)), true)
abbrev asDy19 : Q × Bool := ((.eq (.un .len (.fn 5 (.bi .pair (.var 2) txDy11))) (.int 64)), true)
abbrev asDy20 : Q × Bool := ((.eq (.bi .sel (.fn 9 txDy15) (.int 0)) (.bi .sel (.fn 10 (.bi .pair (.lits []) txDy3)) (.int 0))), true)
abbrev asDy21 : Q × Bool := ((.eq (.bi .sel (.fn 9 txDy15) (.int 1)) (.bi .sel (.fn 10 (.bi .pair (.lits []) txDy3)) (.int 1))), true)
abbrev asDy22 : Q × Bool := ((.eq (.bi .sel (.fn 9 txDy15) (.int 2)) (.bi .sel (.fn 10 (.bi .pair (.lits []) txDy3)) (.int 2))), true)
abbrev asDy23 : Q × Bool := ((.eq (.bi .sel (.fn 9 txDy15) (.int 3)) (.bi .sel (.fn 10 (.bi .pair (.lits []) txDy3)) (.int 3))), true)
abbrev asDy24 : Q × Bool := ((.eq (.bi .sel (.fn 9 txDy15) (.int 4)) (.bi .sel (.fn 10 (.bi .pair (.lits []) txDy3)) (.int 4))), true)
abbrev asDy25 : Q × Bool := ((.eq (.bi .sel (.fn 9 txDy15) (.int 5)) (.bi .sel (.fn 10 (.bi .pair (.lits []) txDy3)) (.int 5))), true)
abbrev asDy26 : Q × Bool := ((.eq (.bi .sel (.fn 9 txDy15) (.int 6)) (.bi .sel (.fn 10 (.bi .pair (.lits []) txDy3)) (.int 6))), true)
abbrev asDy27 : Q × Bool := ((.eq (.bi .sel (.fn 9 txDy15) (.int 7)) (.bi .sel (.fn 10 (.bi .pair (.lits []) txDy3)) (.int 7))), true)
abbrev asDy28 : Q × Bool := ((.eq (.bi .sel (.fn 9 txDy15) (.int 8)) (.bi .sel (.fn 10 (.bi .pair (.lits []) txDy3)) (.int 8))), true)
abbrev asDy29 : Q × Bool := ((.eq (.bi .sel (.fn 9 txDy15) (.int 9)) (.bi .sel (.fn 10 (.bi .pair (.lits []) txDy3)) (.int 9))), true)
abbrev asDy30 : Q × Bool := ((.eq (.bi .sel (.fn 9 txDy15) (.int 10)) (.bi .sel (.fn 10 (.bi .pair (.lits []) txDy3)) (.int 10))), true)
abbrev asDy31 : Q × Bool := ((.eq (.bi .sel (.fn 9 txDy15) (.int 11)) (.bi .sel (.fn 10 (.bi .pair (.lits []) txDy3)) (.int 11))), true)
abbrev asDy32 : Q × Bool := ((.eq (.bi .sel (.fn 9 txDy15) (.int 12)) (.bi .sel (.fn 10 (.bi .pair (.lits []) txDy3)) (.int 12))), true)
abbrev asDy33 : Q × Bool := ((.eq (.bi .sel (.fn 9 txDy15) (.int 13)) (.bi .sel (.fn 10 (.bi .pair (.lits []) txDy3)) (.int 13))), true)
abbrev asDy34 : Q × Bool := ((.eq (.bi .sel (.fn 9 txDy15) (.int 14)) (.bi .sel (.fn 10 (.bi .pair (.lits []) txDy3)) (.int 14))), true)
abbrev asDy35 : Q × Bool := ((.eq (.bi .sel (.fn 9 txDy15) (.int 15)) (.bi .sel (.fn 10 (.bi .pair (.lits []) txDy3)) (.int 15))), true)
abbrev asDy36 : Q × Bool := ((.eq (.bi .sel (.fn 9 txDy15) (.int 16)) (.bi .sel (.fn 10 (.bi .pair (.lits []) txDy3)) (.int 16))), true)
abbrev asDy37 : Q × Bool := ((.eq (.bi .sel (.fn 9 txDy15) (.int 17)) (.bi .sel (.fn 10 (.bi .pair (.lits []) txDy3)) (.int 17))), true)
abbrev asDy38 : Q × Bool := ((.eq (.bi .sel (.fn 9 txDy15) (.int 18)) (.bi .sel (.fn 10 (.bi .pair (.lits []) txDy3)) (.int 18))), true)
abbrev asDy39 : Q × Bool := ((.eq (.bi .sel (.fn 9 txDy15) (.int 19)) (.bi .sel (.fn 10 (.bi .pair (.lits []) txDy3)) (.int 19))), true)
abbrev asDy40 : Q × Bool := ((.eq (.bi .sel (.fn 9 txDy15) (.int 20)) (.bi .sel (.fn 10 (.bi .pair (.lits []) txDy3)) (.int 20))), true)
abbrev asDy41 : Q × Bool := ((.eq (.bi .sel (.fn 9 txDy15) (.int 21)) (.bi .sel (.fn 10 (.bi .pair (.lits []) txDy3)) (.int 21))), true)
abbrev asDy42 : Q × Bool := ((.eq (.bi .sel (.fn 9 txDy15) (.int 22)) (.bi .sel (.fn 10 (.bi .pair (.lits []) txDy3)) (.int 22))), true)
abbrev asDy43 : Q × Bool := ((.eq (.bi .sel (.fn 9 txDy15) (.int 23)) (.bi .sel (.fn 10 (.bi .pair (.lits []) txDy3)) (.int 23))), true)
abbrev asDy44 : Q × Bool := ((.eq (.bi .sel (.fn 9 txDy15) (.int 24)) (.bi .sel (.fn 10 (.bi .pair (.lits []) txDy3)) (.int 24))), true)
abbrev asDy45 : Q × Bool := ((.eq (.bi .sel (.fn 9 txDy15) (.int 25)) (.bi .sel (.fn 10 (.bi .pair (.lits []) txDy3)) (.int 25))), true)
abbrev asDy46 : Q × Bool := ((.eq (.bi .sel (.fn 9 txDy15) (.int 26)) (.bi .sel (.fn 10 (.bi .pair (.lits []) txDy3)) (.int 26))), true)
abbrev asDy47 : Q × Bool := ((.eq (.bi .sel (.fn 9 txDy15) (.int 27)) (.bi .sel (.fn 10 (.bi .pair (.lits []) txDy3)) (.int 27))), true)
abbrev asDy48 : Q × Bool := ((.eq (.bi .sel (.fn 9 txDy15) (.int 28)) (.bi .sel (.fn 10 (.bi .pair (.lits []) txDy3)) (.int 28))), true)
abbrev asDy49 : Q × Bool := ((.eq (.bi .sel (.fn 9 txDy15) (.int 29)) (.bi .sel (.fn 10 (.bi .pair (.lits []) txDy3)) (.int 29))), true)
abbrev asDy50 : Q × Bool := ((.eq (.bi .sel (.fn 9 txDy15) (.int 30)) (.bi .sel (.fn 10 (.bi .pair (.lits []) txDy3)) (.int 30))), true)
abbrev asDy51 : Q × Bool := ((.eq (.bi .sel (.fn 9 txDy15) (.int 31)) (.bi .sel (.fn 10 (.bi .pair (.lits []) txDy3)) (.int 31))), true)
abbrev asDy52 : Q × Bool := ((.eq txDy5 (.int 0)), true)
abbrev asDy53 : Q × Bool := ((.fit .i64 (.bi .add (.var 1) (.int 1))), true)
def runsN_t0 : List (Q × Bool) := [asDy0, asDy9, asDy10, asDy11, asDy12, asDy13, asDy14, asDy15, asDy16, asDy17, asDy18, asDy19, asDy20, asDy21, asDy22, asDy23, asDy24, asDy25, asDy26, asDy27, asDy28, asDy29, asDy30, asDy31, asDy32, asDy33, asDy34, asDy35, asDy36, asDy37, asDy38, asDy39, asDy40, asDy41, asDy42, asDy43, asDy44, asDy45, asDy46, asDy47, asDy48, asDy49, asDy50, asDy51, asDy52, asDy53]
def runsN_d0 : List Duty := [(true, txDy5, (.int 0))]
def runsN_h0 : List (Nat × E) := [(3, (.fn 5 (.bi .pair (.var 2) txDy11))), (2, (.fn 4 (.bi .pair (.var 2) txDy11))), (1, (.bi .add (.var 1) (.int 1))), (0, (.var 0))]
theorem runsN_h0_0 : lookE runsN_h0 0 = (.var 0) := rfl
theorem runsN_h0_1 : lookE runsN_h0 1 = (.bi .add (.var 1) (.int 1)) := rfl
theorem runsN_h0_2 : lookE runsN_h0 2 = (.fn 4 (.bi .pair (.var 2) txDy11)) := rfl
theorem runsN_h0_3 : lookE runsN_h0 3 = (.fn 5 (.bi .pair (.var 2) txDy11)) := rfl
theorem runsN_y0 : nextJ (runsF 0) (runsF 0) runsN_h0 [(1, 1)] (roundC Tryd.prog [⟨9, [4, 1, 1], overL⟩] [(18, sumC), (11, rsumE), (6, lentV), (8, keptV), (7, writeC), (11, rsumO)] [(9, 5, .u8)] 3000 40 3 [4, 1, 0, 1, 1, 1, 1, 1, 1, 1] (tellA runsN_t0) (runsF 0)) = some runsN_d0 := by kernel_rfl
abbrev asDy54 : Q × Bool := ((.eq (.un .len (.bi .sel (.var 0) (.var 1))) (.int 0)), false)
abbrev asDy55 : Q × Bool := ((.le (.bi .mul (.un .len (.bi .sel (.var 0) (.var 1))) (.int 2)) (.int 281474976710656)), true)
abbrev asDy56 : Q × Bool := ((.le txDy5 (.un .len (.bi .sel (.var 0) (.var 1)))), true)
abbrev asDy57 : Q × Bool := ((.le (.int 1) (.un .len (.bi .sel (.var 0) (.var 1)))), true)
abbrev asDy58 : Q × Bool := ((.le (.un .len (.bi .sel (.var 0) (.var 1))) (.int 100000)), true)
abbrev asDy59 : Q × Bool := ((.eq (.bi .sel (.fn 9 txDy15) (.int 0)) (.bi .sel (.fn 10 txDy9) (.int 0))), true)
abbrev asDy60 : Q × Bool := ((.eq (.bi .sel (.fn 9 txDy15) (.int 1)) (.bi .sel (.fn 10 txDy9) (.int 1))), true)
abbrev asDy61 : Q × Bool := ((.eq (.bi .sel (.fn 9 txDy15) (.int 2)) (.bi .sel (.fn 10 txDy9) (.int 2))), true)
abbrev asDy62 : Q × Bool := ((.eq (.bi .sel (.fn 9 txDy15) (.int 3)) (.bi .sel (.fn 10 txDy9) (.int 3))), true)
abbrev asDy63 : Q × Bool := ((.eq (.bi .sel (.fn 9 txDy15) (.int 4)) (.bi .sel (.fn 10 txDy9) (.int 4))), true)
abbrev asDy64 : Q × Bool := ((.eq (.bi .sel (.fn 9 txDy15) (.int 5)) (.bi .sel (.fn 10 txDy9) (.int 5))), true)
abbrev asDy65 : Q × Bool := ((.eq (.bi .sel (.fn 9 txDy15) (.int 6)) (.bi .sel (.fn 10 txDy9) (.int 6))), true)
abbrev asDy66 : Q × Bool := ((.eq (.bi .sel (.fn 9 txDy15) (.int 7)) (.bi .sel (.fn 10 txDy9) (.int 7))), true)
abbrev asDy67 : Q × Bool := ((.eq (.bi .sel (.fn 9 txDy15) (.int 8)) (.bi .sel (.fn 10 txDy9) (.int 8))), true)
abbrev asDy68 : Q × Bool := ((.eq (.bi .sel (.fn 9 txDy15) (.int 9)) (.bi .sel (.fn 10 txDy9) (.int 9))), true)
abbrev asDy69 : Q × Bool := ((.eq (.bi .sel (.fn 9 txDy15) (.int 10)) (.bi .sel (.fn 10 txDy9) (.int 10))), true)
abbrev asDy70 : Q × Bool := ((.eq (.bi .sel (.fn 9 txDy15) (.int 11)) (.bi .sel (.fn 10 txDy9) (.int 11))), true)
abbrev asDy71 : Q × Bool := ((.eq (.bi .sel (.fn 9 txDy15) (.int 12)) (.bi .sel (.fn 10 txDy9) (.int 12))), true)
abbrev asDy72 : Q × Bool := ((.eq (.bi .sel (.fn 9 txDy15) (.int 13)) (.bi .sel (.fn 10 txDy9) (.int 13))), true)
abbrev asDy73 : Q × Bool := ((.eq (.bi .sel (.fn 9 txDy15) (.int 14)) (.bi .sel (.fn 10 txDy9) (.int 14))), true)
abbrev asDy74 : Q × Bool := ((.eq (.bi .sel (.fn 9 txDy15) (.int 15)) (.bi .sel (.fn 10 txDy9) (.int 15))), true)
abbrev asDy75 : Q × Bool := ((.eq (.bi .sel (.fn 9 txDy15) (.int 16)) (.bi .sel (.fn 10 txDy9) (.int 16))), true)
abbrev asDy76 : Q × Bool := ((.eq (.bi .sel (.fn 9 txDy15) (.int 17)) (.bi .sel (.fn 10 txDy9) (.int 17))), true)
abbrev asDy77 : Q × Bool := ((.eq (.bi .sel (.fn 9 txDy15) (.int 18)) (.bi .sel (.fn 10 txDy9) (.int 18))), true)
abbrev asDy78 : Q × Bool := ((.eq (.bi .sel (.fn 9 txDy15) (.int 19)) (.bi .sel (.fn 10 txDy9) (.int 19))), true)
abbrev asDy79 : Q × Bool := ((.eq (.bi .sel (.fn 9 txDy15) (.int 20)) (.bi .sel (.fn 10 txDy9) (.int 20))), true)
abbrev asDy80 : Q × Bool := ((.eq (.bi .sel (.fn 9 txDy15) (.int 21)) (.bi .sel (.fn 10 txDy9) (.int 21))), true)
abbrev asDy81 : Q × Bool := ((.eq (.bi .sel (.fn 9 txDy15) (.int 22)) (.bi .sel (.fn 10 txDy9) (.int 22))), true)
abbrev asDy82 : Q × Bool := ((.eq (.bi .sel (.fn 9 txDy15) (.int 23)) (.bi .sel (.fn 10 txDy9) (.int 23))), true)
abbrev asDy83 : Q × Bool := ((.eq (.bi .sel (.fn 9 txDy15) (.int 24)) (.bi .sel (.fn 10 txDy9) (.int 24))), true)
abbrev asDy84 : Q × Bool := ((.eq (.bi .sel (.fn 9 txDy15) (.int 25)) (.bi .sel (.fn 10 txDy9) (.int 25))), true)
abbrev asDy85 : Q × Bool := ((.eq (.bi .sel (.fn 9 txDy15) (.int 26)) (.bi .sel (.fn 10 txDy9) (.int 26))), true)
abbrev asDy86 : Q × Bool := ((.eq (.bi .sel (.fn 9 txDy15) (.int 27)) (.bi .sel (.fn 10 txDy9) (.int 27))), true)
abbrev asDy87 : Q × Bool := ((.eq (.bi .sel (.fn 9 txDy15) (.int 28)) (.bi .sel (.fn 10 txDy9) (.int 28))), true)
abbrev asDy88 : Q × Bool := ((.eq (.bi .sel (.fn 9 txDy15) (.int 29)) (.bi .sel (.fn 10 txDy9) (.int 29))), true)
abbrev asDy89 : Q × Bool := ((.eq (.bi .sel (.fn 9 txDy15) (.int 30)) (.bi .sel (.fn 10 txDy9) (.int 30))), true)
abbrev asDy90 : Q × Bool := ((.eq (.bi .sel (.fn 9 txDy15) (.int 31)) (.bi .sel (.fn 10 txDy9) (.int 31))), true)
abbrev asDy91 : Q × Bool := ((.fit .i64 (.un .len (.bi .sel (.var 0) (.var 1)))), true)
abbrev asDy92 : Q × Bool := ((.eq txDy5 (.un .len (.bi .sel (.var 0) (.var 1)))), true)
def runsN_t1 : List (Q × Bool) := [asDy0, asDy9, asDy10, asDy11, asDy12, asDy13, asDy14, asDy15, asDy54, asDy55, asDy17, asDy18, asDy19, asDy56, asDy57, asDy58, asDy59, asDy60, asDy61, asDy62, asDy63, asDy64, asDy65, asDy66, asDy67, asDy68, asDy69, asDy70, asDy71, asDy72, asDy73, asDy74, asDy75, asDy76, asDy77, asDy78, asDy79, asDy80, asDy81, asDy82, asDy83, asDy84, asDy85, asDy86, asDy87, asDy88, asDy89, asDy90, asDy91, asDy92, asDy53]
def runsN_d1 : List Duty := [(true, txDy5, (.un .len (.bi .sel (.var 0) (.var 1))))]
def runsN_h1 : List (Nat × E) := [(5, (.bi .sel (.var 0) (.var 1))), (3, (.fn 5 (.bi .pair (.var 2) txDy11))), (2, (.fn 4 (.bi .pair (.var 2) txDy11))), (1, (.bi .add (.var 1) (.int 1))), (4, (.un .len (.bi .sel (.var 0) (.var 1)))), (0, (.var 0))]
theorem runsN_h1_0 : lookE runsN_h1 0 = (.var 0) := rfl
theorem runsN_h1_1 : lookE runsN_h1 1 = (.bi .add (.var 1) (.int 1)) := rfl
theorem runsN_h1_2 : lookE runsN_h1 2 = (.fn 4 (.bi .pair (.var 2) txDy11)) := rfl
theorem runsN_h1_3 : lookE runsN_h1 3 = (.fn 5 (.bi .pair (.var 2) txDy11)) := rfl
theorem runsN_h1_4 : lookE runsN_h1 4 = (.un .len (.bi .sel (.var 0) (.var 1))) := rfl
theorem runsN_h1_5 : lookE runsN_h1 5 = (.bi .sel (.var 0) (.var 1)) := rfl
theorem runsN_y1 : nextJ (runsF 0) (runsF 1) runsN_h1 [(3, 7), (1, 1)] (roundC Tryd.prog [⟨9, [4, 1, 1], overL⟩] [(18, sumC), (11, rsumE), (6, lentV), (8, keptV), (7, writeC), (11, rsumO)] [(9, 5, .u8)] 3000 40 3 [4, 1, 0, 1, 1, 1, 1, 1, 1, 1] (tellA runsN_t1) (runsF 0)) = some runsN_d1 := by kernel_rfl
abbrev asDy93 : Q × Bool := ((.le (.un .len (.var 0)) (.var 1)), true)
def runsN_t2 : List (Q × Bool) := [asDy0, asDy93]
def runsN_d2 : List Duty := []
theorem runsN_y2 : endD (runsF 0) [(1, 1)] 1000 (roundC Tryd.prog [⟨9, [4, 1, 1], overL⟩] [(18, sumC), (11, rsumE), (6, lentV), (8, keptV), (7, writeC), (11, rsumO)] [(9, 5, .u8)] 3000 40 3 [4, 1, 0, 1, 1, 1, 1, 1, 1, 1] (tellA runsN_t2) (runsF 0)) = some runsN_d2 := by kernel_rfl
abbrev asDy94 : Q × Bool := ((.le (.int 0) (.var 4)), true)
abbrev asDy95 : Q × Bool := ((.le txDy6 (.int 4611686018427387904)), true)
abbrev asDy96 : Q × Bool := ((.le (.bi .mul txDy6 (.int 2)) (.int 281474976710656)), true)
abbrev asDy97 : Q × Bool := ((.le (.int 0) txDy6), true)
abbrev asDy98 : Q × Bool := ((.le txDy6 (.int 1152921504606846976)), true)
abbrev asDy99 : Q × Bool := ((.eq (.un .len (.fn 5 (.bi .pair (.var 2) txDy12))) (.int 64)), true)
abbrev asDy100 : Q × Bool := ((.le (.bi .add (.int 0) txDy6) txDy6), true)
abbrev asDy101 : Q × Bool := ((.le (.int 1) txDy6), true)
abbrev asDy102 : Q × Bool := ((.le txDy6 (.int 100000)), true)
abbrev asDy103 : Q × Bool := ((.eq (.bi .sel (.fn 9 txDy16) (.int 0)) (.bi .sel (.fn 10 (.bi .pair txDy0 txDy8)) (.int 0))), true)
abbrev asDy104 : Q × Bool := ((.eq (.bi .sel (.fn 9 txDy16) (.int 1)) (.bi .sel (.fn 10 (.bi .pair txDy0 txDy8)) (.int 1))), true)
abbrev asDy105 : Q × Bool := ((.eq (.bi .sel (.fn 9 txDy16) (.int 2)) (.bi .sel (.fn 10 (.bi .pair txDy0 txDy8)) (.int 2))), true)
abbrev asDy106 : Q × Bool := ((.eq (.bi .sel (.fn 9 txDy16) (.int 3)) (.bi .sel (.fn 10 (.bi .pair txDy0 txDy8)) (.int 3))), true)
abbrev asDy107 : Q × Bool := ((.eq (.bi .sel (.fn 9 txDy16) (.int 4)) (.bi .sel (.fn 10 (.bi .pair txDy0 txDy8)) (.int 4))), true)
abbrev asDy108 : Q × Bool := ((.eq (.bi .sel (.fn 9 txDy16) (.int 5)) (.bi .sel (.fn 10 (.bi .pair txDy0 txDy8)) (.int 5))), true)
abbrev asDy109 : Q × Bool := ((.eq (.bi .sel (.fn 9 txDy16) (.int 6)) (.bi .sel (.fn 10 (.bi .pair txDy0 txDy8)) (.int 6))), true)
abbrev asDy110 : Q × Bool := ((.eq (.bi .sel (.fn 9 txDy16) (.int 7)) (.bi .sel (.fn 10 (.bi .pair txDy0 txDy8)) (.int 7))), true)
abbrev asDy111 : Q × Bool := ((.eq (.bi .sel (.fn 9 txDy16) (.int 8)) (.bi .sel (.fn 10 (.bi .pair txDy0 txDy8)) (.int 8))), true)
abbrev asDy112 : Q × Bool := ((.eq (.bi .sel (.fn 9 txDy16) (.int 9)) (.bi .sel (.fn 10 (.bi .pair txDy0 txDy8)) (.int 9))), true)
abbrev asDy113 : Q × Bool := ((.eq (.bi .sel (.fn 9 txDy16) (.int 10)) (.bi .sel (.fn 10 (.bi .pair txDy0 txDy8)) (.int 10))), true)
abbrev asDy114 : Q × Bool := ((.eq (.bi .sel (.fn 9 txDy16) (.int 11)) (.bi .sel (.fn 10 (.bi .pair txDy0 txDy8)) (.int 11))), true)
abbrev asDy115 : Q × Bool := ((.eq (.bi .sel (.fn 9 txDy16) (.int 12)) (.bi .sel (.fn 10 (.bi .pair txDy0 txDy8)) (.int 12))), true)
abbrev asDy116 : Q × Bool := ((.eq (.bi .sel (.fn 9 txDy16) (.int 13)) (.bi .sel (.fn 10 (.bi .pair txDy0 txDy8)) (.int 13))), true)
abbrev asDy117 : Q × Bool := ((.eq (.bi .sel (.fn 9 txDy16) (.int 14)) (.bi .sel (.fn 10 (.bi .pair txDy0 txDy8)) (.int 14))), true)
abbrev asDy118 : Q × Bool := ((.eq (.bi .sel (.fn 9 txDy16) (.int 15)) (.bi .sel (.fn 10 (.bi .pair txDy0 txDy8)) (.int 15))), true)
abbrev asDy119 : Q × Bool := ((.eq (.bi .sel (.fn 9 txDy16) (.int 16)) (.bi .sel (.fn 10 (.bi .pair txDy0 txDy8)) (.int 16))), true)
abbrev asDy120 : Q × Bool := ((.eq (.bi .sel (.fn 9 txDy16) (.int 17)) (.bi .sel (.fn 10 (.bi .pair txDy0 txDy8)) (.int 17))), true)
abbrev asDy121 : Q × Bool := ((.eq (.bi .sel (.fn 9 txDy16) (.int 18)) (.bi .sel (.fn 10 (.bi .pair txDy0 txDy8)) (.int 18))), true)
abbrev asDy122 : Q × Bool := ((.eq (.bi .sel (.fn 9 txDy16) (.int 19)) (.bi .sel (.fn 10 (.bi .pair txDy0 txDy8)) (.int 19))), true)
abbrev asDy123 : Q × Bool := ((.eq (.bi .sel (.fn 9 txDy16) (.int 20)) (.bi .sel (.fn 10 (.bi .pair txDy0 txDy8)) (.int 20))), true)
abbrev asDy124 : Q × Bool := ((.eq (.bi .sel (.fn 9 txDy16) (.int 21)) (.bi .sel (.fn 10 (.bi .pair txDy0 txDy8)) (.int 21))), true)
abbrev asDy125 : Q × Bool := ((.eq (.bi .sel (.fn 9 txDy16) (.int 22)) (.bi .sel (.fn 10 (.bi .pair txDy0 txDy8)) (.int 22))), true)
abbrev asDy126 : Q × Bool := ((.eq (.bi .sel (.fn 9 txDy16) (.int 23)) (.bi .sel (.fn 10 (.bi .pair txDy0 txDy8)) (.int 23))), true)
abbrev asDy127 : Q × Bool := ((.eq (.bi .sel (.fn 9 txDy16) (.int 24)) (.bi .sel (.fn 10 (.bi .pair txDy0 txDy8)) (.int 24))), true)
abbrev asDy128 : Q × Bool := ((.eq (.bi .sel (.fn 9 txDy16) (.int 25)) (.bi .sel (.fn 10 (.bi .pair txDy0 txDy8)) (.int 25))), true)
abbrev asDy129 : Q × Bool := ((.eq (.bi .sel (.fn 9 txDy16) (.int 26)) (.bi .sel (.fn 10 (.bi .pair txDy0 txDy8)) (.int 26))), true)
abbrev asDy130 : Q × Bool := ((.eq (.bi .sel (.fn 9 txDy16) (.int 27)) (.bi .sel (.fn 10 (.bi .pair txDy0 txDy8)) (.int 27))), true)
abbrev asDy131 : Q × Bool := ((.eq (.bi .sel (.fn 9 txDy16) (.int 28)) (.bi .sel (.fn 10 (.bi .pair txDy0 txDy8)) (.int 28))), true)
abbrev asDy132 : Q × Bool := ((.eq (.bi .sel (.fn 9 txDy16) (.int 29)) (.bi .sel (.fn 10 (.bi .pair txDy0 txDy8)) (.int 29))), true)
abbrev asDy133 : Q × Bool := ((.eq (.bi .sel (.fn 9 txDy16) (.int 30)) (.bi .sel (.fn 10 (.bi .pair txDy0 txDy8)) (.int 30))), true)
abbrev asDy134 : Q × Bool := ((.eq (.bi .sel (.fn 9 txDy16) (.int 31)) (.bi .sel (.fn 10 (.bi .pair txDy0 txDy8)) (.int 31))), true)
abbrev asDy135 : Q × Bool := ((.fit .i64 txDy6), true)
def runsR_t0 : List (Q × Bool) := [asDy0, asDy9, asDy10, asDy11, asDy94, asDy95, asDy13, asDy14, asDy15, asDy96, asDy97, asDy98, asDy99, asDy100, asDy101, asDy102, asDy103, asDy104, asDy105, asDy106, asDy107, asDy108, asDy109, asDy110, asDy111, asDy112, asDy113, asDy114, asDy115, asDy116, asDy117, asDy118, asDy119, asDy120, asDy121, asDy122, asDy123, asDy124, asDy125, asDy126, asDy127, asDy128, asDy129, asDy130, asDy131, asDy132, asDy133, asDy134, asDy135, asDy53]
def runsR_d0 : List Duty := []
def runsR_h0 : List (Nat × E) := [(5, txDy0), (3, (.fn 5 (.bi .pair (.var 2) txDy12))), (2, (.fn 4 (.bi .pair (.var 2) txDy12))), (1, (.bi .add (.var 1) (.int 1))), (4, txDy6), (0, (.var 0))]
theorem runsR_h0_0 : lookE runsR_h0 0 = (.var 0) := rfl
theorem runsR_h0_1 : lookE runsR_h0 1 = (.bi .add (.var 1) (.int 1)) := rfl
theorem runsR_h0_2 : lookE runsR_h0 2 = (.fn 4 (.bi .pair (.var 2) txDy12)) := rfl
theorem runsR_h0_3 : lookE runsR_h0 3 = (.fn 5 (.bi .pair (.var 2) txDy12)) := rfl
theorem runsR_h0_4 : lookE runsR_h0 4 = txDy6 := rfl
theorem runsR_h0_5 : lookE runsR_h0 5 = txDy0 := rfl
theorem runsR_y0 : nextJ (runsF 1) (runsF 1) runsR_h0 [(3, 9), (1, 1)] (roundC Tryd.prog [⟨9, [4, 1, 1], overL⟩] [(18, sumC), (11, rsumE), (6, lentV), (8, keptV), (7, writeC), (11, rsumO)] [(9, 5, .u8)] 3000 40 3 [4, 1, 0, 1, 1, 1, 1, 1, 1, 1] (tellA runsR_t0) (runsF 1)) = some runsR_d0 := by kernel_rfl
def runsR_t1 : List (Q × Bool) := [asDy0, asDy93]
def runsR_d1 : List Duty := []
theorem runsR_y1 : endD (runsF 1) [(1, 1)] 1000 (roundC Tryd.prog [⟨9, [4, 1, 1], overL⟩] [(18, sumC), (11, rsumE), (6, lentV), (8, keptV), (7, writeC), (11, rsumO)] [(9, 5, .u8)] 3000 40 3 [4, 1, 0, 1, 1, 1, 1, 1, 1, 1] (tellA runsR_t1) (runsF 1)) = some runsR_d1 := by kernel_rfl
theorem runsF_holds : ∀ i, i < 2 → LHolds Tryd.prog (loopAt Tryd.prog 3 [4, 1, 0, 1, 1, 1, 1, 1, 1, 1]) (runsF i) F := by
  refine loop_famC sound (tableCons overL_holds (tableNil _ _)) (specsCons sumC_holds (specsCons rsumE_holds (specsCons lentV_holds (specsCons keptV_holds (specsCons writeC_holds (specsCons rsumO_holds (specsNil _ _))))))) (oversCons overV_holds (oversNil _ _)) (fuel := 3000) (depth := 40) (by kernel_rfl) (fun i d => match i with | 0 => ((d 0).toList.length - (d 1).toInt).toNat | _ => ((d 0).toList.length - (d 1).toInt).toNat) ?_
  intro i hi d hp hR hA
  match i, hi with
  | 0, _ =>
      have hp := allTold'_iff.2 hp
      simp only [runsF, runsN, allTold', dutiesTold, factsA, factsC, factsP, factsR, AV.facts, RW.facts, inK, and_true, Q.holds', E.i, E.s, E.n, D.nat, E.den, BO.den, UO.den, TO.den, D.toInt_int, D.toList_list, D.ints_ofInts, i64min, i64max, u8min, u8max, u16min, u16max, u32min, u32max, u64min, u64max, i32min, i32max, Om.sub, selI, ints_app, ints_cut, ints_upd, ints_rep, ints_splice, ints_seg, len_ints] at hp hR hA
      simp only [F11, F12, F30, F31, allTold', dutiesTold, factsA, factsC, factsP, factsR, AV.facts, RW.facts, inK, and_true, Q.holds', E.i, E.s, E.n, D.nat, E.den, BO.den, UO.den, TO.den, D.toInt_int, D.toList_list, D.ints_ofInts, i64min, i64max, u8min, u8max, u16min, u16max, u32min, u32max, u64min, u64max, i32min, i32max, Om.sub, selI, ints_app, ints_cut, ints_upd, ints_rep, ints_splice, ints_seg, len_ints] at hp
      obtain ⟨p1, p2, p3, p4, p5, p6, p7⟩ := hp
      have g0 : (d 0).ints.length = (d 0).toList.length := (len_ints _).symm
      by_cases h : ((d 0).toList.length : Int) ≤ (d 1).toInt
      · refine ⟨tellA runsN_t2, tellA_ok (allTold'_iff.1 ?_), .inl ⟨_, _, _, runsN_y2, dutiesTold_ok ?_⟩⟩
        · simp only [runsN_t2, allTold', dutiesTold, factsA, factsC, factsP, factsR, AV.facts, RW.facts, inK, and_true, Q.holds', E.i, E.s, E.n, D.nat, E.den, BO.den, UO.den, TO.den, D.toInt_int, D.toList_list, D.ints_ofInts, i64min, i64max, u8min, u8max, u16min, u16max, u32min, u32max, u64min, u64max, i32min, i32max, Om.sub, selI, ints_app, ints_cut, ints_upd, ints_rep, ints_splice, ints_seg, len_ints]
          omega
        · simp only [runsN_d2, allTold', dutiesTold, factsA, factsC, factsP, factsR, AV.facts, RW.facts, inK, and_true, Q.holds', E.i, E.s, E.n, D.nat, E.den, BO.den, UO.den, TO.den, D.toInt_int, D.toList_list, D.ints_ofInts, i64min, i64max, u8min, u8max, u16min, u16max, u32min, u32max, u64min, u64max, i32min, i32max, Om.sub, selI, ints_app, ints_cut, ints_upd, ints_rep, ints_splice, ints_seg, len_ints]
      · have e := lens_step (l := (d 0).toList) (i := (d 1).toInt.toNat) (by omega) (by omega)
        have ec := cat_step (l := (d 0).toList) (i := (d 1).toInt.toNat) (by omega)
        have hnn2 := lens_nn (((d 0).toList.take 21).drop ((d 1).toInt.toNat + 1))
        have hi : ((d 1).toInt + 1).toNat = (d 1).toInt.toNat + 1 := by omega
        generalize hX : (d 0).toList[(d 1).toInt.toNat]?.getD (.int 0) = X at *
        have g1 : X.ints.length = X.toList.length := (len_ints _).symm
        have hw := lent_whole (x := X.ints) (m := X.ints.length) rfl
        have hf := first_at (y := X.ints) (n := 0 + (X.ints.length : Int)) (by omega)
        have hpX := prt_all (X := X.ints) (n := X.ints.length) rfl
        have hp0 : prt [] 0 (0 + 0) = [] := prt_nil (by omega) (by omega)
        by_cases h0 : X.ints.length = 0
        · have hN := List.eq_nil_of_length_eq_zero h0
          have ht : takeI ⟨firstL, List.replicate 64 0, 0⟩ [] = ⟨firstL, List.replicate 64 0, 0⟩ := take_nil rfl
          refine ⟨tellA runsN_t0, tellA_ok (allTold'_iff.1 ?_), .inr ⟨0, runsN_h0, _, _, by decide, runsN_y0, dutiesTold_ok ?_, allTold'_iff.1 ?_, ?_⟩⟩
          · simp only [runsN_t0, hX, F4, F5, F6, F9, F10, hw, p5, p6, first_len, hf, zeroK_eq, allTold', dutiesTold, factsA, factsC, factsP, factsR, AV.facts, RW.facts, inK, and_true, Q.holds', E.i, E.s, E.n, D.nat, E.den, BO.den, UO.den, TO.den, D.toInt_int, D.toList_list, D.ints_ofInts, i64min, i64max, u8min, u8max, u16min, u16max, u32min, u32max, u64min, u64max, i32min, i32max, Om.sub, selI, ints_app, ints_cut, ints_upd, ints_rep, ints_splice, ints_seg, len_ints]
            rw [hp0, hN]
            and_intros <;> first | rfl | omega | (simp; done)
          · simp only [runsN_d0, hX, F4, F5, F6, F9, F10, hw, p5, p6, allTold', dutiesTold, factsA, factsC, factsP, factsR, AV.facts, RW.facts, inK, and_true, Q.holds', E.i, E.s, E.n, D.nat, E.den, BO.den, UO.den, TO.den, D.toInt_int, D.toList_list, D.ints_ofInts, i64min, i64max, u8min, u8max, u16min, u16max, u32min, u32max, u64min, u64max, i32min, i32max, Om.sub, selI, ints_app, ints_cut, ints_upd, ints_rep, ints_splice, ints_seg, len_ints]
            first | trivial | omega
          · simp only [runsF, runsN, runsR, runsN_h0_0, runsN_h0_1, runsN_h0_2, runsN_h0_3, hX, F4, F5, F6, F9, F10, F11, F12, F30, F31, hw, p5, p6, first_len, hf, zeroK_eq, allTold', dutiesTold, factsA, factsC, factsP, factsR, AV.facts, RW.facts, inK, and_true, Q.holds', E.i, E.s, E.n, D.nat, E.den, BO.den, UO.den, TO.den, D.toInt_int, D.toList_list, D.ints_ofInts, i64min, i64max, u8min, u8max, u16min, u16max, u32min, u32max, u64min, u64max, i32min, i32max, Om.sub, selI, ints_app, ints_cut, ints_upd, ints_rep, ints_splice, ints_seg, len_ints]
            rw [hi, ec, p7, hN, ht]
            and_intros <;> first | rfl | omega
          · simp only [runsN_h0_0, runsN_h0_1, runsN_h0_2, runsN_h0_3, allTold', dutiesTold, factsA, factsC, factsP, factsR, AV.facts, RW.facts, inK, and_true, Q.holds', E.i, E.s, E.n, D.nat, E.den, BO.den, UO.den, TO.den, D.toInt_int, D.toList_list, D.ints_ofInts, i64min, i64max, u8min, u8max, u16min, u16max, u32min, u32max, u64min, u64max, i32min, i32max, Om.sub, selI, ints_app, ints_cut, ints_upd, ints_rep, ints_splice, ints_seg, len_ints]
            omega
        · refine ⟨tellA runsN_t1, tellA_ok (allTold'_iff.1 ?_), .inr ⟨1, runsN_h1, _, _, by decide, runsN_y1, dutiesTold_ok ?_, allTold'_iff.1 ?_, ?_⟩⟩
          · simp only [runsN_t1, hX, F4, F5, F6, F9, F10, hw, p5, p6, first_len, hf, zeroK_eq, hpX, allTold', dutiesTold, factsA, factsC, factsP, factsR, AV.facts, RW.facts, inK, and_true, Q.holds', E.i, E.s, E.n, D.nat, E.den, BO.den, UO.den, TO.den, D.toInt_int, D.toList_list, D.ints_ofInts, i64min, i64max, u8min, u8max, u16min, u16max, u32min, u32max, u64min, u64max, i32min, i32max, Om.sub, selI, ints_app, ints_cut, ints_upd, ints_rep, ints_splice, ints_seg, len_ints]
            and_intros <;> first | rfl | omega
          · simp only [runsN_d1, hX, F4, F5, F6, F9, F10, hw, p5, p6, allTold', dutiesTold, factsA, factsC, factsP, factsR, AV.facts, RW.facts, inK, and_true, Q.holds', E.i, E.s, E.n, D.nat, E.den, BO.den, UO.den, TO.den, D.toInt_int, D.toList_list, D.ints_ofInts, i64min, i64max, u8min, u8max, u16min, u16max, u32min, u32max, u64min, u64max, i32min, i32max, Om.sub, selI, ints_app, ints_cut, ints_upd, ints_rep, ints_splice, ints_seg, len_ints]
            first | trivial | omega
          · simp only [runsF, runsN, runsR, runsN_h1_0, runsN_h1_1, runsN_h1_2, runsN_h1_3, runsN_h1_4, runsN_h1_5, hX, F4, F5, F6, F9, F10, F11, F12, F30, F31, hw, p5, p6, first_len, hf, zeroK_eq, hpX, allTold', dutiesTold, factsA, factsC, factsP, factsR, AV.facts, RW.facts, inK, and_true, Q.holds', E.i, E.s, E.n, D.nat, E.den, BO.den, UO.den, TO.den, D.toInt_int, D.toList_list, D.ints_ofInts, i64min, i64max, u8min, u8max, u16min, u16max, u32min, u32max, u64min, u64max, i32min, i32max, Om.sub, selI, ints_app, ints_cut, ints_upd, ints_rep, ints_splice, ints_seg, len_ints]
            rw [hi, ec, p7]
            and_intros <;> first | rfl | omega
          · simp only [runsN_h1_0, runsN_h1_1, runsN_h1_2, runsN_h1_3, runsN_h1_4, runsN_h1_5, allTold', dutiesTold, factsA, factsC, factsP, factsR, AV.facts, RW.facts, inK, and_true, Q.holds', E.i, E.s, E.n, D.nat, E.den, BO.den, UO.den, TO.den, D.toInt_int, D.toList_list, D.ints_ofInts, i64min, i64max, u8min, u8max, u16min, u16max, u32min, u32max, u64min, u64max, i32min, i32max, Om.sub, selI, ints_app, ints_cut, ints_upd, ints_rep, ints_splice, ints_seg, len_ints]
            omega
  | 1, _ =>
      have hp := allTold'_iff.2 hp
      simp only [runsF, runsR, allTold', dutiesTold, factsA, factsC, factsP, factsR, AV.facts, RW.facts, inK, and_true, Q.holds', E.i, E.s, E.n, D.nat, E.den, BO.den, UO.den, TO.den, D.toInt_int, D.toList_list, D.ints_ofInts, i64min, i64max, u8min, u8max, u16min, u16max, u32min, u32max, u64min, u64max, i32min, i32max, Om.sub, selI, ints_app, ints_cut, ints_upd, ints_rep, ints_splice, ints_seg, len_ints] at hp hR hA
      simp only [F4, F5, F11, F12, F30, F31, allTold', dutiesTold, factsA, factsC, factsP, factsR, AV.facts, RW.facts, inK, and_true, Q.holds', E.i, E.s, E.n, D.nat, E.den, BO.den, UO.den, TO.den, D.toInt_int, D.toList_list, D.ints_ofInts, i64min, i64max, u8min, u8max, u16min, u16max, u32min, u32max, u64min, u64max, i32min, i32max, Om.sub, selI, ints_app, ints_cut, ints_upd, ints_rep, ints_splice, ints_seg, len_ints] at hp
      obtain ⟨p1, p2, p3, p4, p5, p6, p7, p8, p9⟩ := hp
      have g0 : (d 0).ints.length = (d 0).toList.length := (len_ints _).symm
      rw [prt_all p6] at p7 p8
      by_cases h : ((d 0).toList.length : Int) ≤ (d 1).toInt
      · refine ⟨tellA runsR_t1, tellA_ok (allTold'_iff.1 ?_), .inl ⟨_, _, _, runsR_y1, dutiesTold_ok ?_⟩⟩
        · simp only [runsR_t1, allTold', dutiesTold, factsA, factsC, factsP, factsR, AV.facts, RW.facts, inK, and_true, Q.holds', E.i, E.s, E.n, D.nat, E.den, BO.den, UO.den, TO.den, D.toInt_int, D.toList_list, D.ints_ofInts, i64min, i64max, u8min, u8max, u16min, u16max, u32min, u32max, u64min, u64max, i32min, i32max, Om.sub, selI, ints_app, ints_cut, ints_upd, ints_rep, ints_splice, ints_seg, len_ints]
          omega
        · simp only [runsR_d1, allTold', dutiesTold, factsA, factsC, factsP, factsR, AV.facts, RW.facts, inK, and_true, Q.holds', E.i, E.s, E.n, D.nat, E.den, BO.den, UO.den, TO.den, D.toInt_int, D.toList_list, D.ints_ofInts, i64min, i64max, u8min, u8max, u16min, u16max, u32min, u32max, u64min, u64max, i32min, i32max, Om.sub, selI, ints_app, ints_cut, ints_upd, ints_rep, ints_splice, ints_seg, len_ints]
      · have e := lens_step (l := (d 0).toList) (i := (d 1).toInt.toNat) (by omega) (by omega)
        have ec := cat_step (l := (d 0).toList) (i := (d 1).toInt.toNat) (by omega)
        have hnn2 := lens_nn (((d 0).toList.take 21).drop ((d 1).toInt.toNat + 1))
        have hi : ((d 1).toInt + 1).toNat = (d 1).toInt.toNat + 1 := by omega
        generalize hX : (d 0).toList[(d 1).toInt.toNat]?.getD (.int 0) = X at *
        have g1 : X.ints.length = X.toList.length := (len_ints _).symm
        have hw := lent_whole (x := X.ints) (m := X.ints.length) rfl
        have hs := run_step (y := (d 5).ints) (x := X.ints) (n := (d 4).toInt) (m := X.ints.length) p6 rfl
        have hl : (d 4).toInt + (X.ints.length : Int) = (((d 5).ints ++ X.ints).length : Int) := by rw [List.length_append]; omega
        have hf := first_at (y := (d 5).ints ++ X.ints) (n := (d 4).toInt + (X.ints.length : Int)) hl
        have hpX := prt_all (X := (d 5).ints ++ X.ints) (n := (d 4).toInt + (X.ints.length : Int)) hl
        refine ⟨tellA runsR_t0, tellA_ok (allTold'_iff.1 ?_), .inr ⟨1, runsR_h0, _, _, by decide, runsR_y0, dutiesTold_ok ?_, allTold'_iff.1 ?_, ?_⟩⟩
        · simp only [runsR_t0, hX, F4, F5, F6, F9, F10, hw, p7, p8, first_len, hs, hf, zeroK_eq, hpX, allTold', dutiesTold, factsA, factsC, factsP, factsR, AV.facts, RW.facts, inK, and_true, Q.holds', E.i, E.s, E.n, D.nat, E.den, BO.den, UO.den, TO.den, D.toInt_int, D.toList_list, D.ints_ofInts, i64min, i64max, u8min, u8max, u16min, u16max, u32min, u32max, u64min, u64max, i32min, i32max, Om.sub, selI, ints_app, ints_cut, ints_upd, ints_rep, ints_splice, ints_seg, len_ints]
          and_intros <;> first | exact True.intro | omega | rfl
        · simp only [runsR_d0, allTold', dutiesTold, factsA, factsC, factsP, factsR, AV.facts, RW.facts, inK, and_true, Q.holds', E.i, E.s, E.n, D.nat, E.den, BO.den, UO.den, TO.den, D.toInt_int, D.toList_list, D.ints_ofInts, i64min, i64max, u8min, u8max, u16min, u16max, u32min, u32max, u64min, u64max, i32min, i32max, Om.sub, selI, ints_app, ints_cut, ints_upd, ints_rep, ints_splice, ints_seg, len_ints]
        · simp only [runsF, runsN, runsR, runsR_h0_0, runsR_h0_1, runsR_h0_2, runsR_h0_3, runsR_h0_4, runsR_h0_5, hX, F4, F5, F6, F9, F10, F11, F12, F30, F31, hw, p7, p8, first_len, hs, hf, zeroK_eq, hpX, allTold', dutiesTold, factsA, factsC, factsP, factsR, AV.facts, RW.facts, inK, and_true, Q.holds', E.i, E.s, E.n, D.nat, E.den, BO.den, UO.den, TO.den, D.toInt_int, D.toList_list, D.ints_ofInts, i64min, i64max, u8min, u8max, u16min, u16max, u32min, u32max, u64min, u64max, i32min, i32max, Om.sub, selI, ints_app, ints_cut, ints_upd, ints_rep, ints_splice, ints_seg, len_ints]
          rw [hi, ec, ← p9]
          have g5 : ((d 5).toList ++ X.toList).length = (d 5).ints.length + X.ints.length := by rw [List.length_append, len_ints, len_ints]
          and_intros <;> first | exact True.intro | omega | rfl
        · simp only [runsR_h0_0, runsR_h0_1, runsR_h0_2, runsR_h0_3, runsR_h0_4, runsR_h0_5, allTold', dutiesTold, factsA, factsC, factsP, factsR, AV.facts, RW.facts, inK, and_true, Q.holds', E.i, E.s, E.n, D.nat, E.den, BO.den, UO.den, TO.den, D.toInt_int, D.toList_list, D.ints_ofInts, i64min, i64max, u8min, u8max, u16min, u16max, u32min, u32max, u64min, u64max, i32min, i32max, Om.sub, selI, ints_app, ints_cut, ints_upd, ints_rep, ints_splice, ints_seg, len_ints]
          omega
theorem runsN_holds : LHolds Tryd.prog (loopAt Tryd.prog 3 [4, 1, 0, 1, 1, 1, 1, 1, 1, 1]) runsN F := runsF_holds 0 (by decide)
theorem runsR_holds : LHolds Tryd.prog (loopAt Tryd.prog 3 [4, 1, 0, 1, 1, 1, 1, 1, 1, 1]) runsR F := runsF_holds 1 (by decide)

def tab : List LEntry := [⟨28, [4, 1, 0, 1, 1, 1], sprL⟩, ⟨22, [4, 1, 0, 1, 1, 1], mixL⟩, ⟨16, [4], takeK⟩, ⟨16, [4], takeD⟩, ⟨25, [4, 1, 0, 1, 1, 1], rsprL⟩, ⟨20, [4, 1, 0, 1, 1, 1], stepL⟩, ⟨19, [4, 0, 1, 1, 1], rfillL⟩, ⟨11, [4, 1, 0, 1, 1, 1], rsumL⟩, ⟨9, [4, 1, 1], overL⟩, ⟨3, [4, 1, 0, 1, 1, 1, 1], lensL⟩, ⟨3, [4, 1, 0, 1, 1, 1, 1, 1, 1, 1], runsN⟩, ⟨3, [4, 1, 0, 1, 1, 1, 1, 1, 1, 1], runsR⟩]
def specs : List (FuncId × CSpec) := [(22, mixedC), (23, fillC), (24, bytesC), (16, takeC), (18, sumC), (4, newC), (25, wordsC), (20, stepC), (5, awakeC), (11, rsumE), (6, lentV), (8, keptV), (7, writeC), (19, rfillO), (11, rsumO)]
def overs : Overs := [(9, 5, .u8)]
theorem tab_ok : TableOK Tryd.prog tab F := tableCons sprL_holds (tableCons mixL_holds (tableCons takeK_holds (tableCons takeD_holds (tableCons rsprL_holds (tableCons stepL_holds (tableCons rfillL_holds (tableCons rsumL_holds (tableCons overL_holds (tableCons lensL_holds (tableCons runsN_holds (tableCons runsR_holds (tableNil _ _))))))))))))
theorem specs_ok : SpecsOK Tryd.prog specs F := specsCons mixedC_holds (specsCons fillC_holds (specsCons bytesC_holds (specsCons takeC_holds (specsCons sumC_holds (specsCons newC_holds (specsCons wordsC_holds (specsCons stepC_holds (specsCons awakeC_holds (specsCons rsumE_holds (specsCons lentV_holds (specsCons keptV_holds (specsCons writeC_holds (specsCons rfillO_holds (specsCons rsumO_holds (specsNil _ _)))))))))))))))
theorem overs_ok : OversOK Tryd.prog overs F := oversCons overV_holds (oversNil _ _)
end Go.Proofs.YtfphohneafeleaaDoor.Dy
