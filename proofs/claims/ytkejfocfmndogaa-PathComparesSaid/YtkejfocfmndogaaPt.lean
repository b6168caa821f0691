/-
 Contracts of this seat: what loops and calls leave, for all inputs. No condition.
-/
import Derived.Test.YtkejfocfmndogaaSycp
import Derived.Test.YtkejfocfmndogaaSyfm
import Derived.Test.YtkejfocfmndogaaCo
import Derived.Test.YtkejfocfmndogaaShelf
import Derived.Test.YtkejfocfmndogaaPa
import Derived.Test.YtkejfocfmndogaaPb
import Derived.Test.YtkejfocfmndogaaPh
import Derived.Test.YtkejfocfmndogaaPr
import Derived.Test.YtkejfocfmndogaaPs
set_option linter.unusedSimpArgs false
set_option linter.unusedVariables false
namespace Go.Proofs.Ytkejfocfmndogaa.Pt
open Go.RowKit Go.Ev Go.Proofs.Ytkejfocfmndogaa.Co

open Go.Proofs.Ytkejfocfmndogaa.Pa
open Go.Proofs.Ytkejfocfmndogaa.Pb
open Go.Proofs.Ytkejfocfmndogaa.Ph
open Go.Proofs.Ytkejfocfmndogaa.Pr
open Go.Proofs.Ytkejfocfmndogaa.Ps
theorem like_cmp : ∀ (l m : List (List Int)), likeL l m = true → cmpP l m = if l.length < m.length then -1 else if m.length < l.length then 1 else 0
 | [], [], _ => rfl
 | [], q :: m, _ => by rw [if_pos (by simp)]; rfl
 | p :: l, [], _ => by rw [if_neg (by simp), if_pos (by simp)]; rfl
 | p :: l, q :: m, h => by
  simp only [likeL, Bool.and_eq_true, decide_eq_true_eq] at h
  obtain ⟨rfl, h⟩ := h
  have ih := like_cmp l m h
  show (if cmpB p p = 0 then cmpP l m else cmpB p p) = _
  rw [if_pos (cmpB_ord.refl p), ih]
  simp only [List.length_cons, Nat.add_lt_add_iff_right]
theorem tail_cons {l : List D} {i : Int} (h : 0 ≤ i) (g : i < l.length) : tailD l i = (l[i.toNat]?.getD (.int 0)).ints :: tailD l (i + 1) := by
 have hl : i.toNat < l.length := by omega
 unfold tailD
 rw [List.drop_eq_getElem_cons hl, List.map_cons, List.getElem?_eq_getElem hl, Option.getD_some, show (i + 1).toNat = i.toNat + 1 by omega]
theorem tail_end {l : List D} {i : Int} (h : l.length ≤ i) : tailD l i = [] := by unfold tailD; rw [List.drop_of_length_le (by omega)]; rfl
theorem like_left {l m : List D} {i : Int} (h : l.length ≤ i) : likeL (tailD l i) (tailD m i) = true := by rw [tail_end h]; cases tailD m i <;> rfl
theorem like_right {l m : List D} {i : Int} (h : m.length ≤ i) : likeL (tailD l i) (tailD m i) = true := by rw [tail_end h]; cases tailD l i <;> rfl
theorem like_step {l m : List D} {i : Int} (h : 0 ≤ i) (g : i < l.length) (k : i < m.length) : likeL (tailD l i) (tailD m i) = (decide ((l[i.toNat]?.getD (.int 0)).ints = (m[i.toNat]?.getD (.int 0)).ints) && likeL (tailD l (i + 1)) (tailD m (i + 1))) := by rw [tail_cons h g, tail_cons h k]; rfl
theorem cmp_step {l m : List D} {i : Int} (h : 0 ≤ i) (g : i < l.length) (k : i < m.length) : cmpP (tailD l i) (tailD m i) = if cmpB (l[i.toNat]?.getD (.int 0)).ints (m[i.toNat]?.getD (.int 0)).ints = 0 then cmpP (tailD l (i + 1)) (tailD m (i + 1)) else cmpB (l[i.toNat]?.getD (.int 0)).ints (m[i.toNat]?.getD (.int 0)).ints := by rw [tail_cons h g, tail_cons h k]; rfl
abbrev txPt0 : E := (.bi .pair (.bi .add (.var 0) (.int 1)) (.int 0))
abbrev txPt1 : E := (.bi .pair (.bi .sel (.var 8) (.var 0)) (.int 0))
abbrev txPt2 : E := (.un .len (.fn 57 (.bi .pair (.var 1) (.int 0))))
abbrev txPt3 : E := (.un .len (.fn 57 (.bi .pair (.var 3) (.int 0))))
abbrev txPt4 : E := (.bi .pair (.var 8) (.bi .pair (.var 0) (.int 0)))
abbrev txPt5 : E := (.bi .pair (.var 1) (.bi .pair (.var 3) (.int 0)))
abbrev txPt6 : E := (.bi .pair (.fn 57 (.bi .pair (.var 3) (.int 0))) (.bi .pair (.int 0) (.int 0)))
abbrev txPt7 : E := (.bi .pair (.bi .sel (.var 6) (.var 0)) txPt1)
abbrev txPt8 : E := (.bi .pair (.var 6) (.bi .pair (.var 8) txPt0))
abbrev txPt9 : E := (.bi .pair (.fn 57 (.bi .pair (.var 1) (.int 0))) txPt6)
theorem tail_all (x : D) : tailD ((splitR x.toList).map D.list) 0 = splitL x.ints := by unfold tailD; rw [show Int.toNat 0 = 0 from rfl, List.drop_zero, parts_ints]
theorem ints_tk {x : D} {n : Nat} : (D.list (List.take n x.toList)).ints = List.take n x.ints := by
 show (List.take n x.toList).map D.toInt = _
 rw [List.map_take]
 rfl
theorem pre_at {s d m : List Int} {n : Int} (h : s = d ++ 47 :: m) (hn : n = d.length) : s.take n.toNat = d ∧ s[n.toNat]?.getD 0 = 47 := by
 have e : n.toNat = d.length := by omega
 rw [e, h]
 refine ⟨by rw [List.take_left], ?_⟩
 rw [List.getElem?_append_right (Nat.le_refl _), Nat.sub_self]
 rfl
theorem at_pre {s d : List Int} {n : Nat} (h : s.take n = d) (l : n < s.length) (k : s[n]?.getD 0 = 47) : ∃ m, s = d ++ 47 :: m := by
 refine ⟨s.drop (n + 1), ?_⟩
 rw [List.getElem?_eq_getElem l, Option.getD_some] at k
 rw [← h, ← k, ← List.drop_eq_getElem_cons l, List.take_append_drop]
theorem ok_z {x : List Int} (h : okP x = true) : (checkF x).1 = 0 := of_decide_eq_true h

def rbAOO : LSpec := { n := 71, next := 2, pat := [(7, .vslice 1 1 (.int 0) (.var 7) (.var 7) true), (8, .vslice 3 1 (.int 0) (.var 9) (.var 9) true), (9, .sint .i64 (.var 0))], rows := [(1, .vseq ⟨9, .str, .var 7, .var 6, true⟩), (3, .vseq ⟨9, .str, .var 9, .var 8, true⟩)], pre := [(.le (.int 0) (.var 0), true), (.le (.var 0) (.var 7), true), (.le (.var 0) (.var 9), true), (.le (.var 7) (.int 1001), true), (.le (.var 9) (.int 1001), true), (.eq (.fn 62 (.bi .pair (.var 6) txPt4)) (.int 1), true)], x := 0, fin := [(7, .vslice 1 1 (.int 0) (.var 7) (.var 7) true), (8, .vslice 3 1 (.int 0) (.var 9) (.var 9) true)], frows := [(1, .vseq ⟨9, .str, .var 7, .var 6, true⟩), (3, .vseq ⟨9, .str, .var 9, .var 8, true⟩)], same := [1, 3], chg := [7, 8, 9, 31, 32, 33, 34, 35, 36, 37, 38, 39, 40, 41, 42, 43, 44, 45, 46, 47, 48, 49, 50, 51] }
abbrev asPt0 : Q × Bool := ((.fit .i64 (.var 7)), true)
abbrev asPt1 : Q × Bool := ((.le (.var 7) (.var 0)), false)
abbrev asPt2 : Q × Bool := ((.fit .i64 (.var 9)), true)
abbrev asPt3 : Q × Bool := ((.le (.var 9) (.var 0)), false)
abbrev asPt4 : Q × Bool := ((.le (.int 0) (.var 0)), true)
abbrev asPt5 : Q × Bool := ((.same (.bi .sel (.var 6) (.var 0)) (.bi .sel (.var 8) (.var 0))), true)
abbrev asPt6 : Q × Bool := ((.fit .i64 (.bi .add (.var 0) (.int 1))), true)
def rbAOO_t0 : List (Q × Bool) := [asPt0, asPt1, asPt2, asPt3, asPt4, asPt5, asPt6]
def rbAOO_d0 : List Duty := []
def rbAOO_h0 : List (Nat × E) := [(8, (.var 8)), (6, (.var 6)), (0, (.bi .add (.var 0) (.int 1))), (9, (.var 9)), (7, (.var 7))]
theorem rbAOO_h0_0 : lookE rbAOO_h0 0 = (.bi .add (.var 0) (.int 1)) := rfl
theorem rbAOO_h0_6 : lookE rbAOO_h0 6 = (.var 6) := rfl
theorem rbAOO_h0_7 : lookE rbAOO_h0 7 = (.var 7) := rfl
theorem rbAOO_h0_8 : lookE rbAOO_h0 8 = (.var 8) := rfl
theorem rbAOO_h0_9 : lookE rbAOO_h0 9 = (.var 9) := rfl
theorem rbAOO_y0 : nextD rbAOO rbAOO_h0 [(3, 3), (1, 1)] (roundC Try.prog [] [(37, bytesC)] [] 3000 40 19 [4, 1, 0, 1, 1, 1, 1, 1, 1] (tellA rbAOO_t0) rbAOO) = some rbAOO_d0 := by kernel_rfl
abbrev asPt7 : Q × Bool := ((.le (.var 7) (.var 0)), true)
def rbAOO_t1 : List (Q × Bool) := [asPt0, asPt7]
def rbAOO_d1 : List Duty := []
theorem rbAOO_y1 : endD rbAOO [(3, 3), (1, 1)] 1000 (roundC Try.prog [] [(37, bytesC)] [] 3000 40 19 [4, 1, 0, 1, 1, 1, 1, 1, 1] (tellA rbAOO_t1) rbAOO) = some rbAOO_d1 := by kernel_rfl
abbrev asPt8 : Q × Bool := ((.le (.var 9) (.var 0)), true)
def rbAOO_t2 : List (Q × Bool) := [asPt0, asPt1, asPt2, asPt8]
def rbAOO_d2 : List Duty := []
theorem rbAOO_y2 : endD rbAOO [(3, 3), (1, 1)] 1000 (roundC Try.prog [] [(37, bytesC)] [] 3000 40 19 [4, 1, 0, 1, 1, 1, 1, 1, 1] (tellA rbAOO_t2) rbAOO) = some rbAOO_d2 := by kernel_rfl
theorem rbAOO_holds : LHolds Try.prog (loopAt Try.prog 19 [4, 1, 0, 1, 1, 1, 1, 1, 1]) rbAOO F := by
 refine loop_roundsC sound (tableNil _ _) (specsCons bytesC_holds (specsNil _ _)) (oversNil _ _) (fuel := 3000) (depth := 40) (by kernel_rfl) (by kernel_rfl) (by kernel_rfl) (fun d => ((d 7).toInt - (d 0).toInt).toNat) fun d hp hR hA => ?_
 have hp := allTold'_iff.2 hp
 simp only [rbAOO, tl] at hp hR hA
 simp only [F62, D.toInt_int, one_if] at hp
 obtain ⟨p0, p1, p2, p3, p4, hz⟩ := hp
 have h6 : (d 6).ints.length = (d 6).toList.length := List.length_map ..
 have h8 : (d 8).ints.length = (d 8).toList.length := List.length_map ..
 by_cases e : (d 7).toInt ≤ (d 0).toInt
 ·refine ⟨tellA rbAOO_t1, tellA_ok (allTold'_iff.1 ?_), .inl ⟨_, _, _, rbAOO_y1, dutiesTold_ok ?_⟩⟩
  ·simp only [rbAOO_t1, F41, F62, F63, one_if, tl]
   and_intros <;> first | omega | assumption | rfl | exact one_if.2 hz | exact if_pos hz | exact fun h => hz (one_if.1 h)
  ·simp only [rbAOO_d1, F41, F62, F63, one_if, tl]
 by_cases e2 : (d 9).toInt ≤ (d 0).toInt
 ·refine ⟨tellA rbAOO_t2, tellA_ok (allTold'_iff.1 ?_), .inl ⟨_, _, _, rbAOO_y2, dutiesTold_ok ?_⟩⟩
  ·simp only [rbAOO_t2, F41, F62, F63, one_if, tl]
   and_intros <;> first | omega | assumption | rfl | exact one_if.2 hz | exact if_pos hz | exact fun h => hz (one_if.1 h)
  ·simp only [rbAOO_d2, F41, F62, F63, one_if, tl]
 have hs := like_step (l := (d 6).toList) (m := (d 8).toList) (i := (d 0).toInt) (by omega) (by omega) (by omega)
 by_cases q : ((d 6).toList[(d 0).toInt.toNat]?.getD (D.int 0)).ints = ((d 8).toList[(d 0).toInt.toNat]?.getD (D.int 0)).ints
 ·rw [hs, Bool.and_eq_true] at hz
  have hz := hz.2
  refine ⟨tellA rbAOO_t0, tellA_ok (allTold'_iff.1 ?_), .inr ⟨rbAOO_h0, _, _, rbAOO_y0, dutiesTold_ok ?_, allTold'_iff.1 ?_, ?_⟩⟩
  ·simp only [rbAOO_t0, F41, F62, F63, one_if, tl]
   and_intros <;> first | omega | assumption | rfl | exact one_if.2 hz | exact if_pos hz | exact fun h => hz (one_if.1 h)
  ·simp only [rbAOO_d0, F41, F62, F63, one_if, tl]
  ·simp only [rbAOO, rbAOO_h0_0, rbAOO_h0_6, rbAOO_h0_7, rbAOO_h0_8, rbAOO_h0_9, F41, F62, F63, one_if, tl]
   and_intros <;> first | omega | assumption | rfl | exact one_if.2 hz | exact if_pos hz | exact fun h => hz (one_if.1 h)
  ·simp only [rbAOO_h0_0, rbAOO_h0_6, rbAOO_h0_7, rbAOO_h0_8, rbAOO_h0_9, tl]
   omega
 ·rw [hs, Bool.and_eq_true, decide_eq_true_eq] at hz
  exact absurd hz.1 q

def rbBOO : LSpec := { n := 71, next := 2, pat := [(7, .vslice 1 1 (.int 0) (.var 7) (.var 7) true), (8, .vslice 3 1 (.int 0) (.var 9) (.var 9) true), (9, .sint .i64 (.var 0))], rows := [(1, .vseq ⟨9, .str, .var 7, .var 6, true⟩), (3, .vseq ⟨9, .str, .var 9, .var 8, true⟩)], pre := [(.le (.int 0) (.var 0), true), (.le (.var 0) (.var 7), true), (.le (.var 0) (.var 9), true), (.le (.var 7) (.int 1001), true), (.le (.var 9) (.int 1001), true), (.eq (.fn 62 (.bi .pair (.var 6) txPt4)) (.int 1), false)], x := 999999, fin := [(4, .sint .i64 (.fn 63 (.bi .pair (.var 6) txPt4)))], frows := [], same := [], chg := [4, 7, 8, 9, 31, 32, 33, 34, 35, 36, 37, 38, 39, 40, 41, 42, 43, 44, 45, 46, 47, 48, 49, 50, 51, 52, 53, 54, 55, 56, 57, 58, 59, 60] }
def rbBOO_t0 : List (Q × Bool) := [asPt0, asPt1, asPt2, asPt3, asPt4, asPt5, asPt6]
def rbBOO_d0 : List Duty := [(true, (.fn 63 txPt8), (.fn 63 (.bi .pair (.var 6) txPt4)))]
def rbBOO_h0 : List (Nat × E) := [(8, (.var 8)), (6, (.var 6)), (0, (.bi .add (.var 0) (.int 1))), (9, (.var 9)), (7, (.var 7))]
theorem rbBOO_h0_0 : lookE rbBOO_h0 0 = (.bi .add (.var 0) (.int 1)) := rfl
theorem rbBOO_h0_6 : lookE rbBOO_h0 6 = (.var 6) := rfl
theorem rbBOO_h0_7 : lookE rbBOO_h0 7 = (.var 7) := rfl
theorem rbBOO_h0_8 : lookE rbBOO_h0 8 = (.var 8) := rfl
theorem rbBOO_h0_9 : lookE rbBOO_h0 9 = (.var 9) := rfl
theorem rbBOO_y0 : nextD rbBOO rbBOO_h0 [(3, 3), (1, 1)] (roundC Try.prog [] [(37, bytesC)] [] 3000 40 19 [4, 1, 0, 1, 1, 1, 1, 1, 1] (tellA rbBOO_t0) rbBOO) = some rbBOO_d0 := by kernel_rfl
abbrev asPt9 : Q × Bool := ((.same (.bi .sel (.var 6) (.var 0)) (.bi .sel (.var 8) (.var 0))), false)
def rbBOO_t1 : List (Q × Bool) := [asPt0, asPt1, asPt2, asPt3, asPt4, asPt9]
def rbBOO_d1 : List Duty := [(true, (.fn 41 txPt7), (.fn 63 (.bi .pair (.var 6) txPt4)))]
theorem rbBOO_y1 : endD rbBOO [(3, 3), (1, 1)] 1000 (roundC Try.prog [] [(37, bytesC)] [] 3000 40 19 [4, 1, 0, 1, 1, 1, 1, 1, 1] (tellA rbBOO_t1) rbBOO) = some rbBOO_d1 := by kernel_rfl
theorem rbBOO_holds : LHolds Try.prog (loopAt Try.prog 19 [4, 1, 0, 1, 1, 1, 1, 1, 1]) rbBOO F := by
 refine loop_roundsC sound (tableNil _ _) (specsCons bytesC_holds (specsNil _ _)) (oversNil _ _) (fuel := 3000) (depth := 40) (by kernel_rfl) (by kernel_rfl) (by kernel_rfl) (fun d => ((d 7).toInt - (d 0).toInt).toNat) fun d hp hR hA => ?_
 have hp := allTold'_iff.2 hp
 simp only [rbBOO, tl] at hp hR hA
 simp only [F62, D.toInt_int, one_if] at hp
 obtain ⟨p0, p1, p2, p3, p4, hz⟩ := hp
 have hz := fun h => hz (one_if.2 h)
 have h6 : (d 6).ints.length = (d 6).toList.length := List.length_map ..
 have h8 : (d 8).ints.length = (d 8).toList.length := List.length_map ..
 by_cases e : (d 7).toInt ≤ (d 0).toInt
 ·have hl := like_left (l := (d 6).toList) (m := (d 8).toList) (i := (d 0).toInt) (by omega)
  exact absurd hl hz
 by_cases e2 : (d 9).toInt ≤ (d 0).toInt
 ·have hl := like_right (l := (d 6).toList) (m := (d 8).toList) (i := (d 0).toInt) (by omega)
  exact absurd hl hz
 have hs := like_step (l := (d 6).toList) (m := (d 8).toList) (i := (d 0).toInt) (by omega) (by omega) (by omega)
 by_cases q : ((d 6).toList[(d 0).toInt.toNat]?.getD (D.int 0)).ints = ((d 8).toList[(d 0).toInt.toNat]?.getD (D.int 0)).ints
 ·have hz : ¬ likeL (tailD (d 6).toList ((d 0).toInt + 1)) (tailD (d 8).toList ((d 0).toInt + 1)) = true := fun h => hz (by rw [hs, h, q]; simp)
  have hc := cmp_step (l := (d 6).toList) (m := (d 8).toList) (i := (d 0).toInt) (by omega) (by omega) (by omega)
  rw [q, if_pos (cmpB_ord.refl _)] at hc
  refine ⟨tellA rbBOO_t0, tellA_ok (allTold'_iff.1 ?_), .inr ⟨rbBOO_h0, _, _, rbBOO_y0, dutiesTold_ok ?_, allTold'_iff.1 ?_, ?_⟩⟩
  ·simp only [rbBOO_t0, F41, F62, F63, one_if, tl]
   and_intros <;> first | omega | assumption | rfl | exact one_if.2 hz | exact if_pos hz | exact fun h => hz (one_if.1 h)
  ·simp only [rbBOO_d0, F41, F62, F63, one_if, hc, tl]
  ·simp only [rbBOO, rbBOO_h0_0, rbBOO_h0_6, rbBOO_h0_7, rbBOO_h0_8, rbBOO_h0_9, F41, F62, F63, one_if, tl]
   and_intros <;> first | omega | assumption | rfl | exact one_if.2 hz | exact if_pos hz | exact fun h => hz (one_if.1 h)
  ·simp only [rbBOO_h0_0, rbBOO_h0_6, rbBOO_h0_7, rbBOO_h0_8, rbBOO_h0_9, tl]
   omega
 ·have hc := cmp_step (l := (d 6).toList) (m := (d 8).toList) (i := (d 0).toInt) (by omega) (by omega) (by omega)
  rw [if_neg (fun h => q (cmpB_ord.zero _ _ h))] at hc
  refine ⟨tellA rbBOO_t1, tellA_ok (allTold'_iff.1 ?_), .inl ⟨_, _, _, rbBOO_y1, dutiesTold_ok ?_⟩⟩
  ·simp only [rbBOO_t1, F41, F62, F63, one_if, tl]
   and_intros <;> first | omega | assumption | rfl | exact one_if.2 hz | exact if_pos hz | exact fun h => hz (one_if.1 h)
  ·simp only [rbBOO_d1, F41, F62, F63, one_if, hc, tl]

def rbAOC : LSpec := { n := 71, next := 2, pat := [(7, .vslice 1 1 (.int 0) (.var 7) (.var 7) true), (8, .vslice 3 1 (.int 0) (.var 9) (.var 9) false), (9, .sint .i64 (.var 0))], rows := [(1, .vseq ⟨9, .str, .var 7, .var 6, true⟩), (3, .vseq ⟨9, .str, .var 9, .var 8, false⟩)], pre := [(.le (.int 0) (.var 0), true), (.le (.var 0) (.var 7), true), (.le (.var 0) (.var 9), true), (.le (.var 7) (.int 1001), true), (.le (.var 9) (.int 1001), true), (.eq (.fn 62 (.bi .pair (.var 6) txPt4)) (.int 1), true)], x := 0, fin := [(7, .vslice 1 1 (.int 0) (.var 7) (.var 7) true), (8, .vslice 3 1 (.int 0) (.var 9) (.var 9) false)], frows := [(1, .vseq ⟨9, .str, .var 7, .var 6, true⟩), (3, .vseq ⟨9, .str, .var 9, .var 8, false⟩)], same := [1, 3], chg := [7, 8, 9, 31, 32, 33, 34, 35, 36, 37, 38, 39, 40, 41, 42, 43, 44, 45, 46, 47, 48, 49, 50, 51] }
def rbAOC_t0 : List (Q × Bool) := [asPt0, asPt1, asPt2, asPt3, asPt4, asPt5, asPt6]
def rbAOC_d0 : List Duty := []
def rbAOC_h0 : List (Nat × E) := [(8, (.var 8)), (6, (.var 6)), (0, (.bi .add (.var 0) (.int 1))), (9, (.var 9)), (7, (.var 7))]
theorem rbAOC_h0_0 : lookE rbAOC_h0 0 = (.bi .add (.var 0) (.int 1)) := rfl
theorem rbAOC_h0_6 : lookE rbAOC_h0 6 = (.var 6) := rfl
theorem rbAOC_h0_7 : lookE rbAOC_h0 7 = (.var 7) := rfl
theorem rbAOC_h0_8 : lookE rbAOC_h0 8 = (.var 8) := rfl
theorem rbAOC_h0_9 : lookE rbAOC_h0 9 = (.var 9) := rfl
theorem rbAOC_y0 : nextD rbAOC rbAOC_h0 [(3, 3), (1, 1)] (roundC Try.prog [] [(37, bytesC)] [] 3000 40 19 [4, 1, 0, 1, 1, 1, 1, 1, 1] (tellA rbAOC_t0) rbAOC) = some rbAOC_d0 := by kernel_rfl
def rbAOC_t1 : List (Q × Bool) := [asPt0, asPt7]
def rbAOC_d1 : List Duty := []
theorem rbAOC_y1 : endD rbAOC [(3, 3), (1, 1)] 1000 (roundC Try.prog [] [(37, bytesC)] [] 3000 40 19 [4, 1, 0, 1, 1, 1, 1, 1, 1] (tellA rbAOC_t1) rbAOC) = some rbAOC_d1 := by kernel_rfl
def rbAOC_t2 : List (Q × Bool) := [asPt0, asPt1, asPt2, asPt8]
def rbAOC_d2 : List Duty := []
theorem rbAOC_y2 : endD rbAOC [(3, 3), (1, 1)] 1000 (roundC Try.prog [] [(37, bytesC)] [] 3000 40 19 [4, 1, 0, 1, 1, 1, 1, 1, 1] (tellA rbAOC_t2) rbAOC) = some rbAOC_d2 := by kernel_rfl
theorem rbAOC_holds : LHolds Try.prog (loopAt Try.prog 19 [4, 1, 0, 1, 1, 1, 1, 1, 1]) rbAOC F := by
 refine loop_roundsC sound (tableNil _ _) (specsCons bytesC_holds (specsNil _ _)) (oversNil _ _) (fuel := 3000) (depth := 40) (by kernel_rfl) (by kernel_rfl) (by kernel_rfl) (fun d => ((d 7).toInt - (d 0).toInt).toNat) fun d hp hR hA => ?_
 have hp := allTold'_iff.2 hp
 simp only [rbAOC, tl] at hp hR hA
 simp only [F62, D.toInt_int, one_if] at hp
 obtain ⟨p0, p1, p2, p3, p4, hz⟩ := hp
 have h6 : (d 6).ints.length = (d 6).toList.length := List.length_map ..
 have h8 : (d 8).ints.length = (d 8).toList.length := List.length_map ..
 by_cases e : (d 7).toInt ≤ (d 0).toInt
 ·refine ⟨tellA rbAOC_t1, tellA_ok (allTold'_iff.1 ?_), .inl ⟨_, _, _, rbAOC_y1, dutiesTold_ok ?_⟩⟩
  ·simp only [rbAOC_t1, F41, F62, F63, one_if, tl]
   and_intros <;> first | omega | assumption | rfl | exact one_if.2 hz | exact if_pos hz | exact fun h => hz (one_if.1 h)
  ·simp only [rbAOC_d1, F41, F62, F63, one_if, tl]
 by_cases e2 : (d 9).toInt ≤ (d 0).toInt
 ·refine ⟨tellA rbAOC_t2, tellA_ok (allTold'_iff.1 ?_), .inl ⟨_, _, _, rbAOC_y2, dutiesTold_ok ?_⟩⟩
  ·simp only [rbAOC_t2, F41, F62, F63, one_if, tl]
   and_intros <;> first | omega | assumption | rfl | exact one_if.2 hz | exact if_pos hz | exact fun h => hz (one_if.1 h)
  ·simp only [rbAOC_d2, F41, F62, F63, one_if, tl]
 have hs := like_step (l := (d 6).toList) (m := (d 8).toList) (i := (d 0).toInt) (by omega) (by omega) (by omega)
 by_cases q : ((d 6).toList[(d 0).toInt.toNat]?.getD (D.int 0)).ints = ((d 8).toList[(d 0).toInt.toNat]?.getD (D.int 0)).ints
 ·rw [hs, Bool.and_eq_true] at hz
  have hz := hz.2
  refine ⟨tellA rbAOC_t0, tellA_ok (allTold'_iff.1 ?_), .inr ⟨rbAOC_h0, _, _, rbAOC_y0, dutiesTold_ok ?_, allTold'_iff.1 ?_, ?_⟩⟩
  ·simp only [rbAOC_t0, F41, F62, F63, one_if, tl]
   and_intros <;> first | omega | assumption | rfl | exact one_if.2 hz | exact if_pos hz | exact fun h => hz (one_if.1 h)
  ·simp only [rbAOC_d0, F41, F62, F63, one_if, tl]
  ·simp only [rbAOC, rbAOC_h0_0, rbAOC_h0_6, rbAOC_h0_7, rbAOC_h0_8, rbAOC_h0_9, F41, F62, F63, one_if, tl]
   and_intros <;> first | omega | assumption | rfl | exact one_if.2 hz | exact if_pos hz | exact fun h => hz (one_if.1 h)
  ·simp only [rbAOC_h0_0, rbAOC_h0_6, rbAOC_h0_7, rbAOC_h0_8, rbAOC_h0_9, tl]
   omega
 ·rw [hs, Bool.and_eq_true, decide_eq_true_eq] at hz
  exact absurd hz.1 q

def rbBOC : LSpec := { n := 71, next := 2, pat := [(7, .vslice 1 1 (.int 0) (.var 7) (.var 7) true), (8, .vslice 3 1 (.int 0) (.var 9) (.var 9) false), (9, .sint .i64 (.var 0))], rows := [(1, .vseq ⟨9, .str, .var 7, .var 6, true⟩), (3, .vseq ⟨9, .str, .var 9, .var 8, false⟩)], pre := [(.le (.int 0) (.var 0), true), (.le (.var 0) (.var 7), true), (.le (.var 0) (.var 9), true), (.le (.var 7) (.int 1001), true), (.le (.var 9) (.int 1001), true), (.eq (.fn 62 (.bi .pair (.var 6) txPt4)) (.int 1), false)], x := 999999, fin := [(4, .sint .i64 (.fn 63 (.bi .pair (.var 6) txPt4)))], frows := [], same := [], chg := [4, 7, 8, 9, 31, 32, 33, 34, 35, 36, 37, 38, 39, 40, 41, 42, 43, 44, 45, 46, 47, 48, 49, 50, 51, 52, 53, 54, 55, 56, 57, 58, 59, 60] }
def rbBOC_t0 : List (Q × Bool) := [asPt0, asPt1, asPt2, asPt3, asPt4, asPt5, asPt6]
def rbBOC_d0 : List Duty := [(true, (.fn 63 txPt8), (.fn 63 (.bi .pair (.var 6) txPt4)))]
def rbBOC_h0 : List (Nat × E) := [(8, (.var 8)), (6, (.var 6)), (0, (.bi .add (.var 0) (.int 1))), (9, (.var 9)), (7, (.var 7))]
theorem rbBOC_h0_0 : lookE rbBOC_h0 0 = (.bi .add (.var 0) (.int 1)) := rfl
theorem rbBOC_h0_6 : lookE rbBOC_h0 6 = (.var 6) := rfl
theorem rbBOC_h0_7 : lookE rbBOC_h0 7 = (.var 7) := rfl
theorem rbBOC_h0_8 : lookE rbBOC_h0 8 = (.var 8) := rfl
theorem rbBOC_h0_9 : lookE rbBOC_h0 9 = (.var 9) := rfl
theorem rbBOC_y0 : nextD rbBOC rbBOC_h0 [(3, 3), (1, 1)] (roundC Try.prog [] [(37, bytesC)] [] 3000 40 19 [4, 1, 0, 1, 1, 1, 1, 1, 1] (tellA rbBOC_t0) rbBOC) = some rbBOC_d0 := by kernel_rfl
def rbBOC_t1 : List (Q × Bool) := [asPt0, asPt1, asPt2, asPt3, asPt4, asPt9]
def rbBOC_d1 : List Duty := [(true, (.fn 41 txPt7), (.fn 63 (.bi .pair (.var 6) txPt4)))]
theorem rbBOC_y1 : endD rbBOC [(3, 3), (1, 1)] 1000 (roundC Try.prog [] [(37, bytesC)] [] 3000 40 19 [4, 1, 0, 1, 1, 1, 1, 1, 1] (tellA rbBOC_t1) rbBOC) = some rbBOC_d1 := by kernel_rfl
theorem rbBOC_holds : LHolds Try.prog (loopAt Try.prog 19 [4, 1, 0, 1, 1, 1, 1, 1, 1]) rbBOC F := by
 refine loop_roundsC sound (tableNil _ _) (specsCons bytesC_holds (specsNil _ _)) (oversNil _ _) (fuel := 3000) (depth := 40) (by kernel_rfl) (by kernel_rfl) (by kernel_rfl) (fun d => ((d 7).toInt - (d 0).toInt).toNat) fun d hp hR hA => ?_
 have hp := allTold'_iff.2 hp
 simp only [rbBOC, tl] at hp hR hA
 simp only [F62, D.toInt_int, one_if] at hp
 obtain ⟨p0, p1, p2, p3, p4, hz⟩ := hp
 have hz := fun h => hz (one_if.2 h)
 have h6 : (d 6).ints.length = (d 6).toList.length := List.length_map ..
 have h8 : (d 8).ints.length = (d 8).toList.length := List.length_map ..
 by_cases e : (d 7).toInt ≤ (d 0).toInt
 ·have hl := like_left (l := (d 6).toList) (m := (d 8).toList) (i := (d 0).toInt) (by omega)
  exact absurd hl hz
 by_cases e2 : (d 9).toInt ≤ (d 0).toInt
 ·have hl := like_right (l := (d 6).toList) (m := (d 8).toList) (i := (d 0).toInt) (by omega)
  exact absurd hl hz
 have hs := like_step (l := (d 6).toList) (m := (d 8).toList) (i := (d 0).toInt) (by omega) (by omega) (by omega)
 by_cases q : ((d 6).toList[(d 0).toInt.toNat]?.getD (D.int 0)).ints = ((d 8).toList[(d 0).toInt.toNat]?.getD (D.int 0)).ints
 ·have hz : ¬ likeL (tailD (d 6).toList ((d 0).toInt + 1)) (tailD (d 8).toList ((d 0).toInt + 1)) = true := fun h => hz (by rw [hs, h, q]; simp)
  have hc := cmp_step (l := (d 6).toList) (m := (d 8).toList) (i := (d 0).toInt) (by omega) (by omega) (by omega)
  rw [q, if_pos (cmpB_ord.refl _)] at hc
  refine ⟨tellA rbBOC_t0, tellA_ok (allTold'_iff.1 ?_), .inr ⟨rbBOC_h0, _, _, rbBOC_y0, dutiesTold_ok ?_, allTold'_iff.1 ?_, ?_⟩⟩
  ·simp only [rbBOC_t0, F41, F62, F63, one_if, tl]
   and_intros <;> first | omega | assumption | rfl | exact one_if.2 hz | exact if_pos hz | exact fun h => hz (one_if.1 h)
  ·simp only [rbBOC_d0, F41, F62, F63, one_if, hc, tl]
  ·simp only [rbBOC, rbBOC_h0_0, rbBOC_h0_6, rbBOC_h0_7, rbBOC_h0_8, rbBOC_h0_9, F41, F62, F63, one_if, tl]
   and_intros <;> first | omega | assumption | rfl | exact one_if.2 hz | exact if_pos hz | exact fun h => hz (one_if.1 h)
  ·simp only [rbBOC_h0_0, rbBOC_h0_6, rbBOC_h0_7, rbBOC_h0_8, rbBOC_h0_9, tl]
   omega
 ·have hc := cmp_step (l := (d 6).toList) (m := (d 8).toList) (i := (d 0).toInt) (by omega) (by omega) (by omega)
  rw [if_neg (fun h => q (cmpB_ord.zero _ _ h))] at hc
  refine ⟨tellA rbBOC_t1, tellA_ok (allTold'_iff.1 ?_), .inl ⟨_, _, _, rbBOC_y1, dutiesTold_ok ?_⟩⟩
  ·simp only [rbBOC_t1, F41, F62, F63, one_if, tl]
   and_intros <;> first | omega | assumption | rfl | exact one_if.2 hz | exact if_pos hz | exact fun h => hz (one_if.1 h)
  ·simp only [rbBOC_d1, F41, F62, F63, one_if, hc, tl]

def rbACO : LSpec := { n := 71, next := 2, pat := [(7, .vslice 1 1 (.int 0) (.var 7) (.var 7) false), (8, .vslice 3 1 (.int 0) (.var 9) (.var 9) true), (9, .sint .i64 (.var 0))], rows := [(1, .vseq ⟨9, .str, .var 7, .var 6, false⟩), (3, .vseq ⟨9, .str, .var 9, .var 8, true⟩)], pre := [(.le (.int 0) (.var 0), true), (.le (.var 0) (.var 7), true), (.le (.var 0) (.var 9), true), (.le (.var 7) (.int 1001), true), (.le (.var 9) (.int 1001), true), (.eq (.fn 62 (.bi .pair (.var 6) txPt4)) (.int 1), true)], x := 0, fin := [(7, .vslice 1 1 (.int 0) (.var 7) (.var 7) false), (8, .vslice 3 1 (.int 0) (.var 9) (.var 9) true)], frows := [(1, .vseq ⟨9, .str, .var 7, .var 6, false⟩), (3, .vseq ⟨9, .str, .var 9, .var 8, true⟩)], same := [1, 3], chg := [7, 8, 9, 31, 32, 33, 34, 35, 36, 37, 38, 39, 40, 41, 42, 43, 44, 45, 46, 47, 48, 49, 50, 51] }
def rbACO_t0 : List (Q × Bool) := [asPt0, asPt1, asPt2, asPt3, asPt4, asPt5, asPt6]
def rbACO_d0 : List Duty := []
def rbACO_h0 : List (Nat × E) := [(8, (.var 8)), (6, (.var 6)), (0, (.bi .add (.var 0) (.int 1))), (9, (.var 9)), (7, (.var 7))]
theorem rbACO_h0_0 : lookE rbACO_h0 0 = (.bi .add (.var 0) (.int 1)) := rfl
theorem rbACO_h0_6 : lookE rbACO_h0 6 = (.var 6) := rfl
theorem rbACO_h0_7 : lookE rbACO_h0 7 = (.var 7) := rfl
theorem rbACO_h0_8 : lookE rbACO_h0 8 = (.var 8) := rfl
theorem rbACO_h0_9 : lookE rbACO_h0 9 = (.var 9) := rfl
theorem rbACO_y0 : nextD rbACO rbACO_h0 [(3, 3), (1, 1)] (roundC Try.prog [] [(37, bytesC)] [] 3000 40 19 [4, 1, 0, 1, 1, 1, 1, 1, 1] (tellA rbACO_t0) rbACO) = some rbACO_d0 := by kernel_rfl
def rbACO_t1 : List (Q × Bool) := [asPt0, asPt7]
def rbACO_d1 : List Duty := []
theorem rbACO_y1 : endD rbACO [(3, 3), (1, 1)] 1000 (roundC Try.prog [] [(37, bytesC)] [] 3000 40 19 [4, 1, 0, 1, 1, 1, 1, 1, 1] (tellA rbACO_t1) rbACO) = some rbACO_d1 := by kernel_rfl
def rbACO_t2 : List (Q × Bool) := [asPt0, asPt1, asPt2, asPt8]
def rbACO_d2 : List Duty := []
theorem rbACO_y2 : endD rbACO [(3, 3), (1, 1)] 1000 (roundC Try.prog [] [(37, bytesC)] [] 3000 40 19 [4, 1, 0, 1, 1, 1, 1, 1, 1] (tellA rbACO_t2) rbACO) = some rbACO_d2 := by kernel_rfl
theorem rbACO_holds : LHolds Try.prog (loopAt Try.prog 19 [4, 1, 0, 1, 1, 1, 1, 1, 1]) rbACO F := by
 refine loop_roundsC sound (tableNil _ _) (specsCons bytesC_holds (specsNil _ _)) (oversNil _ _) (fuel := 3000) (depth := 40) (by kernel_rfl) (by kernel_rfl) (by kernel_rfl) (fun d => ((d 7).toInt - (d 0).toInt).toNat) fun d hp hR hA => ?_
 have hp := allTold'_iff.2 hp
 simp only [rbACO, tl] at hp hR hA
 simp only [F62, D.toInt_int, one_if] at hp
 obtain ⟨p0, p1, p2, p3, p4, hz⟩ := hp
 have h6 : (d 6).ints.length = (d 6).toList.length := List.length_map ..
 have h8 : (d 8).ints.length = (d 8).toList.length := List.length_map ..
 by_cases e : (d 7).toInt ≤ (d 0).toInt
 ·refine ⟨tellA rbACO_t1, tellA_ok (allTold'_iff.1 ?_), .inl ⟨_, _, _, rbACO_y1, dutiesTold_ok ?_⟩⟩
  ·simp only [rbACO_t1, F41, F62, F63, one_if, tl]
   and_intros <;> first | omega | assumption | rfl | exact one_if.2 hz | exact if_pos hz | exact fun h => hz (one_if.1 h)
  ·simp only [rbACO_d1, F41, F62, F63, one_if, tl]
 by_cases e2 : (d 9).toInt ≤ (d 0).toInt
 ·refine ⟨tellA rbACO_t2, tellA_ok (allTold'_iff.1 ?_), .inl ⟨_, _, _, rbACO_y2, dutiesTold_ok ?_⟩⟩
  ·simp only [rbACO_t2, F41, F62, F63, one_if, tl]
   and_intros <;> first | omega | assumption | rfl | exact one_if.2 hz | exact if_pos hz | exact fun h => hz (one_if.1 h)
  ·simp only [rbACO_d2, F41, F62, F63, one_if, tl]
 have hs := like_step (l := (d 6).toList) (m := (d 8).toList) (i := (d 0).toInt) (by omega) (by omega) (by omega)
 by_cases q : ((d 6).toList[(d 0).toInt.toNat]?.getD (D.int 0)).ints = ((d 8).toList[(d 0).toInt.toNat]?.getD (D.int 0)).ints
 ·rw [hs, Bool.and_eq_true] at hz
  have hz := hz.2
  refine ⟨tellA rbACO_t0, tellA_ok (allTold'_iff.1 ?_), .inr ⟨rbACO_h0, _, _, rbACO_y0, dutiesTold_ok ?_, allTold'_iff.1 ?_, ?_⟩⟩
  ·simp only [rbACO_t0, F41, F62, F63, one_if, tl]
   and_intros <;> first | omega | assumption | rfl | exact one_if.2 hz | exact if_pos hz | exact fun h => hz (one_if.1 h)
  ·simp only [rbACO_d0, F41, F62, F63, one_if, tl]
  ·simp only [rbACO, rbACO_h0_0, rbACO_h0_6, rbACO_h0_7, rbACO_h0_8, rbACO_h0_9, F41, F62, F63, one_if, tl]
   and_intros <;> first | omega | assumption | rfl | exact one_if.2 hz | exact if_pos hz | exact fun h => hz (one_if.1 h)
  ·simp only [rbACO_h0_0, rbACO_h0_6, rbACO_h0_7, rbACO_h0_8, rbACO_h0_9, tl]
   omega
 ·rw [hs, Bool.and_eq_true, decide_eq_true_eq] at hz
  exact absurd hz.1 q

def rbBCO : LSpec := { n := 71, next := 2, pat := [(7, .vslice 1 1 (.int 0) (.var 7) (.var 7) false), (8, .vslice 3 1 (.int 0) (.var 9) (.var 9) true), (9, .sint .i64 (.var 0))], rows := [(1, .vseq ⟨9, .str, .var 7, .var 6, false⟩), (3, .vseq ⟨9, .str, .var 9, .var 8, true⟩)], pre := [(.le (.int 0) (.var 0), true), (.le (.var 0) (.var 7), true), (.le (.var 0) (.var 9), true), (.le (.var 7) (.int 1001), true), (.le (.var 9) (.int 1001), true), (.eq (.fn 62 (.bi .pair (.var 6) txPt4)) (.int 1), false)], x := 999999, fin := [(4, .sint .i64 (.fn 63 (.bi .pair (.var 6) txPt4)))], frows := [], same := [], chg := [4, 7, 8, 9, 31, 32, 33, 34, 35, 36, 37, 38, 39, 40, 41, 42, 43, 44, 45, 46, 47, 48, 49, 50, 51, 52, 53, 54, 55, 56, 57, 58, 59, 60] }
def rbBCO_t0 : List (Q × Bool) := [asPt0, asPt1, asPt2, asPt3, asPt4, asPt5, asPt6]
def rbBCO_d0 : List Duty := [(true, (.fn 63 txPt8), (.fn 63 (.bi .pair (.var 6) txPt4)))]
def rbBCO_h0 : List (Nat × E) := [(8, (.var 8)), (6, (.var 6)), (0, (.bi .add (.var 0) (.int 1))), (9, (.var 9)), (7, (.var 7))]
theorem rbBCO_h0_0 : lookE rbBCO_h0 0 = (.bi .add (.var 0) (.int 1)) := rfl
theorem rbBCO_h0_6 : lookE rbBCO_h0 6 = (.var 6) := rfl
theorem rbBCO_h0_7 : lookE rbBCO_h0 7 = (.var 7) := rfl
theorem rbBCO_h0_8 : lookE rbBCO_h0 8 = (.var 8) := rfl
theorem rbBCO_h0_9 : lookE rbBCO_h0 9 = (.var 9) := rfl
theorem rbBCO_y0 : nextD rbBCO rbBCO_h0 [(3, 3), (1, 1)] (roundC Try.prog [] [(37, bytesC)] [] 3000 40 19 [4, 1, 0, 1, 1, 1, 1, 1, 1] (tellA rbBCO_t0) rbBCO) = some rbBCO_d0 := by kernel_rfl
def rbBCO_t1 : List (Q × Bool) := [asPt0, asPt1, asPt2, asPt3, asPt4, asPt9]
def rbBCO_d1 : List Duty := [(true, (.fn 41 txPt7), (.fn 63 (.bi .pair (.var 6) txPt4)))]
theorem rbBCO_y1 : endD rbBCO [(3, 3), (1, 1)] 1000 (roundC Try.prog [] [(37, bytesC)] [] 3000 40 19 [4, 1, 0, 1, 1, 1, 1, 1, 1] (tellA rbBCO_t1) rbBCO) = some rbBCO_d1 := by kernel_rfl
theorem rbBCO_holds : LHolds Try.prog (loopAt Try.prog 19 [4, 1, 0, 1, 1, 1, 1, 1, 1]) rbBCO F := by
 refine loop_roundsC sound (tableNil _ _) (specsCons bytesC_holds (specsNil _ _)) (oversNil _ _) (fuel := 3000) (depth := 40) (by kernel_rfl) (by kernel_rfl) (by kernel_rfl) (fun d => ((d 7).toInt - (d 0).toInt).toNat) fun d hp hR hA => ?_
 have hp := allTold'_iff.2 hp
 simp only [rbBCO, tl] at hp hR hA
 simp only [F62, D.toInt_int, one_if] at hp
 obtain ⟨p0, p1, p2, p3, p4, hz⟩ := hp
 have hz := fun h => hz (one_if.2 h)
 have h6 : (d 6).ints.length = (d 6).toList.length := List.length_map ..
 have h8 : (d 8).ints.length = (d 8).toList.length := List.length_map ..
 by_cases e : (d 7).toInt ≤ (d 0).toInt
 ·have hl := like_left (l := (d 6).toList) (m := (d 8).toList) (i := (d 0).toInt) (by omega)
  exact absurd hl hz
 by_cases e2 : (d 9).toInt ≤ (d 0).toInt
 ·have hl := like_right (l := (d 6).toList) (m := (d 8).toList) (i := (d 0).toInt) (by omega)
  exact absurd hl hz
 have hs := like_step (l := (d 6).toList) (m := (d 8).toList) (i := (d 0).toInt) (by omega) (by omega) (by omega)
 by_cases q : ((d 6).toList[(d 0).toInt.toNat]?.getD (D.int 0)).ints = ((d 8).toList[(d 0).toInt.toNat]?.getD (D.int 0)).ints
 ·have hz : ¬ likeL (tailD (d 6).toList ((d 0).toInt + 1)) (tailD (d 8).toList ((d 0).toInt + 1)) = true := fun h => hz (by rw [hs, h, q]; simp)
  have hc := cmp_step (l := (d 6).toList) (m := (d 8).toList) (i := (d 0).toInt) (by omega) (by omega) (by omega)
  rw [q, if_pos (cmpB_ord.refl _)] at hc
  refine ⟨tellA rbBCO_t0, tellA_ok (allTold'_iff.1 ?_), .inr ⟨rbBCO_h0, _, _, rbBCO_y0, dutiesTold_ok ?_, allTold'_iff.1 ?_, ?_⟩⟩
  ·simp only [rbBCO_t0, F41, F62, F63, one_if, tl]
   and_intros <;> first | omega | assumption | rfl | exact one_if.2 hz | exact if_pos hz | exact fun h => hz (one_if.1 h)
  ·simp only [rbBCO_d0, F41, F62, F63, one_if, hc, tl]
  ·simp only [rbBCO, rbBCO_h0_0, rbBCO_h0_6, rbBCO_h0_7, rbBCO_h0_8, rbBCO_h0_9, F41, F62, F63, one_if, tl]
   and_intros <;> first | omega | assumption | rfl | exact one_if.2 hz | exact if_pos hz | exact fun h => hz (one_if.1 h)
  ·simp only [rbBCO_h0_0, rbBCO_h0_6, rbBCO_h0_7, rbBCO_h0_8, rbBCO_h0_9, tl]
   omega
 ·have hc := cmp_step (l := (d 6).toList) (m := (d 8).toList) (i := (d 0).toInt) (by omega) (by omega) (by omega)
  rw [if_neg (fun h => q (cmpB_ord.zero _ _ h))] at hc
  refine ⟨tellA rbBCO_t1, tellA_ok (allTold'_iff.1 ?_), .inl ⟨_, _, _, rbBCO_y1, dutiesTold_ok ?_⟩⟩
  ·simp only [rbBCO_t1, F41, F62, F63, one_if, tl]
   and_intros <;> first | omega | assumption | rfl | exact one_if.2 hz | exact if_pos hz | exact fun h => hz (one_if.1 h)
  ·simp only [rbBCO_d1, F41, F62, F63, one_if, hc, tl]

def rbACC : LSpec := { n := 71, next := 2, pat := [(7, .vslice 1 1 (.int 0) (.var 7) (.var 7) false), (8, .vslice 3 1 (.int 0) (.var 9) (.var 9) false), (9, .sint .i64 (.var 0))], rows := [(1, .vseq ⟨9, .str, .var 7, .var 6, false⟩), (3, .vseq ⟨9, .str, .var 9, .var 8, false⟩)], pre := [(.le (.int 0) (.var 0), true), (.le (.var 0) (.var 7), true), (.le (.var 0) (.var 9), true), (.le (.var 7) (.int 1001), true), (.le (.var 9) (.int 1001), true), (.eq (.fn 62 (.bi .pair (.var 6) txPt4)) (.int 1), true)], x := 0, fin := [(7, .vslice 1 1 (.int 0) (.var 7) (.var 7) false), (8, .vslice 3 1 (.int 0) (.var 9) (.var 9) false)], frows := [(1, .vseq ⟨9, .str, .var 7, .var 6, false⟩), (3, .vseq ⟨9, .str, .var 9, .var 8, false⟩)], same := [1, 3], chg := [7, 8, 9, 31, 32, 33, 34, 35, 36, 37, 38, 39, 40, 41, 42, 43, 44, 45, 46, 47, 48, 49, 50, 51] }
def rbACC_t0 : List (Q × Bool) := [asPt0, asPt1, asPt2, asPt3, asPt4, asPt5, asPt6]
def rbACC_d0 : List Duty := []
def rbACC_h0 : List (Nat × E) := [(8, (.var 8)), (6, (.var 6)), (0, (.bi .add (.var 0) (.int 1))), (9, (.var 9)), (7, (.var 7))]
theorem rbACC_h0_0 : lookE rbACC_h0 0 = (.bi .add (.var 0) (.int 1)) := rfl
theorem rbACC_h0_6 : lookE rbACC_h0 6 = (.var 6) := rfl
theorem rbACC_h0_7 : lookE rbACC_h0 7 = (.var 7) := rfl
theorem rbACC_h0_8 : lookE rbACC_h0 8 = (.var 8) := rfl
theorem rbACC_h0_9 : lookE rbACC_h0 9 = (.var 9) := rfl
theorem rbACC_y0 : nextD rbACC rbACC_h0 [(3, 3), (1, 1)] (roundC Try.prog [] [(37, bytesC)] [] 3000 40 19 [4, 1, 0, 1, 1, 1, 1, 1, 1] (tellA rbACC_t0) rbACC) = some rbACC_d0 := by kernel_rfl
def rbACC_t1 : List (Q × Bool) := [asPt0, asPt7]
def rbACC_d1 : List Duty := []
theorem rbACC_y1 : endD rbACC [(3, 3), (1, 1)] 1000 (roundC Try.prog [] [(37, bytesC)] [] 3000 40 19 [4, 1, 0, 1, 1, 1, 1, 1, 1] (tellA rbACC_t1) rbACC) = some rbACC_d1 := by kernel_rfl
def rbACC_t2 : List (Q × Bool) := [asPt0, asPt1, asPt2, asPt8]
def rbACC_d2 : List Duty := []
theorem rbACC_y2 : endD rbACC [(3, 3), (1, 1)] 1000 (roundC Try.prog [] [(37, bytesC)] [] 3000 40 19 [4, 1, 0, 1, 1, 1, 1, 1, 1] (tellA rbACC_t2) rbACC) = some rbACC_d2 := by kernel_rfl
theorem rbACC_holds : LHolds Try.prog (loopAt Try.prog 19 [4, 1, 0, 1, 1, 1, 1, 1, 1]) rbACC F := by
 refine loop_roundsC sound (tableNil _ _) (specsCons bytesC_holds (specsNil _ _)) (oversNil _ _) (fuel := 3000) (depth := 40) (by kernel_rfl) (by kernel_rfl) (by kernel_rfl) (fun d => ((d 7).toInt - (d 0).toInt).toNat) fun d hp hR hA => ?_
 have hp := allTold'_iff.2 hp
 simp only [rbACC, tl] at hp hR hA
 simp only [F62, D.toInt_int, one_if] at hp
 obtain ⟨p0, p1, p2, p3, p4, hz⟩ := hp
 have h6 : (d 6).ints.length = (d 6).toList.length := List.length_map ..
 have h8 : (d 8).ints.length = (d 8).toList.length := List.length_map ..
 by_cases e : (d 7).toInt ≤ (d 0).toInt
 ·refine ⟨tellA rbACC_t1, tellA_ok (allTold'_iff.1 ?_), .inl ⟨_, _, _, rbACC_y1, dutiesTold_ok ?_⟩⟩
  ·simp only [rbACC_t1, F41, F62, F63, one_if, tl]
   and_intros <;> first | omega | assumption | rfl | exact one_if.2 hz | exact if_pos hz | exact fun h => hz (one_if.1 h)
  ·simp only [rbACC_d1, F41, F62, F63, one_if, tl]
 by_cases e2 : (d 9).toInt ≤ (d 0).toInt
 ·refine ⟨tellA rbACC_t2, tellA_ok (allTold'_iff.1 ?_), .inl ⟨_, _, _, rbACC_y2, dutiesTold_ok ?_⟩⟩
  ·simp only [rbACC_t2, F41, F62, F63, one_if, tl]
   and_intros <;> first | omega | assumption | rfl | exact one_if.2 hz | exact if_pos hz | exact fun h => hz (one_if.1 h)
  ·simp only [rbACC_d2, F41, F62, F63, one_if, tl]
 have hs := like_step (l := (d 6).toList) (m := (d 8).toList) (i := (d 0).toInt) (by omega) (by omega) (by omega)
 by_cases q : ((d 6).toList[(d 0).toInt.toNat]?.getD (D.int 0)).ints = ((d 8).toList[(d 0).toInt.toNat]?.getD (D.int 0)).ints
 ·rw [hs, Bool.and_eq_true] at hz
  have hz := hz.2
  refine ⟨tellA rbACC_t0, tellA_ok (allTold'_iff.1 ?_), .inr ⟨rbACC_h0, _, _, rbACC_y0, dutiesTold_ok ?_, allTold'_iff.1 ?_, ?_⟩⟩
  ·simp only [rbACC_t0, F41, F62, F63, one_if, tl]
   and_intros <;> first | omega | assumption | rfl | exact one_if.2 hz | exact if_pos hz | exact fun h => hz (one_if.1 h)
  ·simp only [rbACC_d0, F41, F62, F63, one_if, tl]
  ·simp only [rbACC, rbACC_h0_0, rbACC_h0_6, rbACC_h0_7, rbACC_h0_8, rbACC_h0_9, F41, F62, F63, one_if, tl]
   and_intros <;> first | omega | assumption | rfl | exact one_if.2 hz | exact if_pos hz | exact fun h => hz (one_if.1 h)
  ·simp only [rbACC_h0_0, rbACC_h0_6, rbACC_h0_7, rbACC_h0_8, rbACC_h0_9, tl]
   omega
 ·rw [hs, Bool.and_eq_true, decide_eq_true_eq] at hz
  exact absurd hz.1 q

def rbBCC : LSpec := { n := 71, next := 2, pat := [(7, .vslice 1 1 (.int 0) (.var 7) (.var 7) false), (8, .vslice 3 1 (.int 0) (.var 9) (.var 9) false), (9, .sint .i64 (.var 0))], rows := [(1, .vseq ⟨9, .str, .var 7, .var 6, false⟩), (3, .vseq ⟨9, .str, .var 9, .var 8, false⟩)], pre := [(.le (.int 0) (.var 0), true), (.le (.var 0) (.var 7), true), (.le (.var 0) (.var 9), true), (.le (.var 7) (.int 1001), true), (.le (.var 9) (.int 1001), true), (.eq (.fn 62 (.bi .pair (.var 6) txPt4)) (.int 1), false)], x := 999999, fin := [(4, .sint .i64 (.fn 63 (.bi .pair (.var 6) txPt4)))], frows := [], same := [], chg := [4, 7, 8, 9, 31, 32, 33, 34, 35, 36, 37, 38, 39, 40, 41, 42, 43, 44, 45, 46, 47, 48, 49, 50, 51, 52, 53, 54, 55, 56, 57, 58, 59, 60] }
def rbBCC_t0 : List (Q × Bool) := [asPt0, asPt1, asPt2, asPt3, asPt4, asPt5, asPt6]
def rbBCC_d0 : List Duty := [(true, (.fn 63 txPt8), (.fn 63 (.bi .pair (.var 6) txPt4)))]
def rbBCC_h0 : List (Nat × E) := [(8, (.var 8)), (6, (.var 6)), (0, (.bi .add (.var 0) (.int 1))), (9, (.var 9)), (7, (.var 7))]
theorem rbBCC_h0_0 : lookE rbBCC_h0 0 = (.bi .add (.var 0) (.int 1)) := rfl
theorem rbBCC_h0_6 : lookE rbBCC_h0 6 = (.var 6) := rfl
theorem rbBCC_h0_7 : lookE rbBCC_h0 7 = (.var 7) := rfl
theorem rbBCC_h0_8 : lookE rbBCC_h0 8 = (.var 8) := rfl
theorem rbBCC_h0_9 : lookE rbBCC_h0 9 = (.var 9) := rfl
theorem rbBCC_y0 : nextD rbBCC rbBCC_h0 [(3, 3), (1, 1)] (roundC Try.prog [] [(37, bytesC)] [] 3000 40 19 [4, 1, 0, 1, 1, 1, 1, 1, 1] (tellA rbBCC_t0) rbBCC) = some rbBCC_d0 := by kernel_rfl
def rbBCC_t1 : List (Q × Bool) := [asPt0, asPt1, asPt2, asPt3, asPt4, asPt9]
def rbBCC_d1 : List Duty := [(true, (.fn 41 txPt7), (.fn 63 (.bi .pair (.var 6) txPt4)))]
theorem rbBCC_y1 : endD rbBCC [(3, 3), (1, 1)] 1000 (roundC Try.prog [] [(37, bytesC)] [] 3000 40 19 [4, 1, 0, 1, 1, 1, 1, 1, 1] (tellA rbBCC_t1) rbBCC) = some rbBCC_d1 := by kernel_rfl
theorem rbBCC_holds : LHolds Try.prog (loopAt Try.prog 19 [4, 1, 0, 1, 1, 1, 1, 1, 1]) rbBCC F := by
 refine loop_roundsC sound (tableNil _ _) (specsCons bytesC_holds (specsNil _ _)) (oversNil _ _) (fuel := 3000) (depth := 40) (by kernel_rfl) (by kernel_rfl) (by kernel_rfl) (fun d => ((d 7).toInt - (d 0).toInt).toNat) fun d hp hR hA => ?_
 have hp := allTold'_iff.2 hp
 simp only [rbBCC, tl] at hp hR hA
 simp only [F62, D.toInt_int, one_if] at hp
 obtain ⟨p0, p1, p2, p3, p4, hz⟩ := hp
 have hz := fun h => hz (one_if.2 h)
 have h6 : (d 6).ints.length = (d 6).toList.length := List.length_map ..
 have h8 : (d 8).ints.length = (d 8).toList.length := List.length_map ..
 by_cases e : (d 7).toInt ≤ (d 0).toInt
 ·have hl := like_left (l := (d 6).toList) (m := (d 8).toList) (i := (d 0).toInt) (by omega)
  exact absurd hl hz
 by_cases e2 : (d 9).toInt ≤ (d 0).toInt
 ·have hl := like_right (l := (d 6).toList) (m := (d 8).toList) (i := (d 0).toInt) (by omega)
  exact absurd hl hz
 have hs := like_step (l := (d 6).toList) (m := (d 8).toList) (i := (d 0).toInt) (by omega) (by omega) (by omega)
 by_cases q : ((d 6).toList[(d 0).toInt.toNat]?.getD (D.int 0)).ints = ((d 8).toList[(d 0).toInt.toNat]?.getD (D.int 0)).ints
 ·have hz : ¬ likeL (tailD (d 6).toList ((d 0).toInt + 1)) (tailD (d 8).toList ((d 0).toInt + 1)) = true := fun h => hz (by rw [hs, h, q]; simp)
  have hc := cmp_step (l := (d 6).toList) (m := (d 8).toList) (i := (d 0).toInt) (by omega) (by omega) (by omega)
  rw [q, if_pos (cmpB_ord.refl _)] at hc
  refine ⟨tellA rbBCC_t0, tellA_ok (allTold'_iff.1 ?_), .inr ⟨rbBCC_h0, _, _, rbBCC_y0, dutiesTold_ok ?_, allTold'_iff.1 ?_, ?_⟩⟩
  ·simp only [rbBCC_t0, F41, F62, F63, one_if, tl]
   and_intros <;> first | omega | assumption | rfl | exact one_if.2 hz | exact if_pos hz | exact fun h => hz (one_if.1 h)
  ·simp only [rbBCC_d0, F41, F62, F63, one_if, hc, tl]
  ·simp only [rbBCC, rbBCC_h0_0, rbBCC_h0_6, rbBCC_h0_7, rbBCC_h0_8, rbBCC_h0_9, F41, F62, F63, one_if, tl]
   and_intros <;> first | omega | assumption | rfl | exact one_if.2 hz | exact if_pos hz | exact fun h => hz (one_if.1 h)
  ·simp only [rbBCC_h0_0, rbBCC_h0_6, rbBCC_h0_7, rbBCC_h0_8, rbBCC_h0_9, tl]
   omega
 ·have hc := cmp_step (l := (d 6).toList) (m := (d 8).toList) (i := (d 0).toInt) (by omega) (by omega) (by omega)
  rw [if_neg (fun h => q (cmpB_ord.zero _ _ h))] at hc
  refine ⟨tellA rbBCC_t1, tellA_ok (allTold'_iff.1 ?_), .inl ⟨_, _, _, rbBCC_y1, dutiesTold_ok ?_⟩⟩
  ·simp only [rbBCC_t1, F41, F62, F63, one_if, tl]
   and_intros <;> first | omega | assumption | rfl | exact one_if.2 hz | exact if_pos hz | exact fun h => hz (one_if.1 h)
  ·simp only [rbBCC_d1, F41, F62, F63, one_if, hc, tl]

def rcmpC : CSpec := { args := [.sstr (.var 0) (.var 1), .sstr (.var 2) (.var 3)], next := 0, rows := [], pre := [(.le (.var 0) (.int 100000000000000), true), (.le (.var 2) (.int 100000000000000), true)], res := .sint .i64 (.fn 52 (argsE [.var 1, .var 3])), frows := [], same := [] }
abbrev asPt10 : Q × Bool := ((.le (.var 0) (.int 100000000000000)), true)
abbrev asPt11 : Q × Bool := ((.eq (.fn 45 (.bi .pair (.var 1) (.int 0))) (.int 0)), true)
abbrev asPt12 : Q × Bool := ((.le (.var 2) (.int 100000000000000)), true)
abbrev asPt13 : Q × Bool := ((.eq (.fn 45 (.bi .pair (.var 3) (.int 0))) (.int 0)), true)
abbrev asPt14 : Q × Bool := ((.le (.var 0) (.int 1000)), true)
abbrev asPt15 : Q × Bool := ((.le (.int 0) (.fn 40 (.bi .pair (.var 1) (.int 0)))), true)
abbrev asPt16 : Q × Bool := ((.le (.var 2) (.int 1000)), true)
abbrev asPt17 : Q × Bool := ((.le (.int 0) (.fn 40 (.bi .pair (.var 3) (.int 0)))), true)
abbrev asPt18 : Q × Bool := ((.le (.int 0) txPt2), true)
abbrev asPt19 : Q × Bool := ((.le (.int 0) txPt3), true)
abbrev asPt20 : Q × Bool := ((.le txPt2 (.int 1001)), true)
abbrev asPt21 : Q × Bool := ((.le txPt3 (.int 1001)), true)
abbrev asPt22 : Q × Bool := ((.eq (.fn 62 txPt9) (.int 1)), false)
def rcmpC_t0 : List (Q × Bool) := [asPt10, asPt11, asPt12, asPt13, asPt14, asPt15, asPt16, asPt17, asPt18, asPt19, asPt20, asPt21, asPt22]
def rcmpC_d0 : List Duty := [(true, (.fn 63 txPt9), (.fn 52 txPt5))]
theorem rcmpC_y0 : endC rcmpC [] 1000 (callC Try.prog (tellA rcmpC_t0) [⟨19, [4, 1, 0, 1, 1, 1, 1, 1, 1], rbAOO⟩, ⟨19, [4, 1, 0, 1, 1, 1, 1, 1, 1], rbBOO⟩, ⟨19, [4, 1, 0, 1, 1, 1, 1, 1, 1], rbAOC⟩, ⟨19, [4, 1, 0, 1, 1, 1, 1, 1, 1], rbBOC⟩, ⟨19, [4, 1, 0, 1, 1, 1, 1, 1, 1], rbACO⟩, ⟨19, [4, 1, 0, 1, 1, 1, 1, 1, 1], rbBCO⟩, ⟨19, [4, 1, 0, 1, 1, 1, 1, 1, 1], rbACC⟩, ⟨19, [4, 1, 0, 1, 1, 1, 1, 1, 1], rbBCC⟩] [(32, splitY), (32, splitN), (37, bytesC), (12, rcC)] [] 3000 40 19 rcmpC) = some rcmpC_d0 := by kernel_rfl
abbrev asPt23 : Q × Bool := ((.eq (.fn 62 txPt9) (.int 1)), true)
abbrev asPt24 : Q × Bool := ((.fit .i64 txPt2), true)
abbrev asPt25 : Q × Bool := ((.fit .i64 txPt3), true)
abbrev asPt26 : Q × Bool := ((.le txPt3 txPt2), false)
def rcmpC_t1 : List (Q × Bool) := [asPt10, asPt11, asPt12, asPt13, asPt14, asPt15, asPt16, asPt17, asPt18, asPt19, asPt20, asPt21, asPt23, asPt24, asPt25, asPt26]
def rcmpC_d1 : List Duty := [(true, (.int (-1)), (.fn 52 txPt5))]
theorem rcmpC_y1 : endC rcmpC [] 1000 (callC Try.prog (tellA rcmpC_t1) [⟨19, [4, 1, 0, 1, 1, 1, 1, 1, 1], rbAOO⟩, ⟨19, [4, 1, 0, 1, 1, 1, 1, 1, 1], rbBOO⟩, ⟨19, [4, 1, 0, 1, 1, 1, 1, 1, 1], rbAOC⟩, ⟨19, [4, 1, 0, 1, 1, 1, 1, 1, 1], rbBOC⟩, ⟨19, [4, 1, 0, 1, 1, 1, 1, 1, 1], rbACO⟩, ⟨19, [4, 1, 0, 1, 1, 1, 1, 1, 1], rbBCO⟩, ⟨19, [4, 1, 0, 1, 1, 1, 1, 1, 1], rbACC⟩, ⟨19, [4, 1, 0, 1, 1, 1, 1, 1, 1], rbBCC⟩] [(32, splitY), (32, splitN), (37, bytesC), (12, rcC)] [] 3000 40 19 rcmpC) = some rcmpC_d1 := by kernel_rfl
abbrev asPt27 : Q × Bool := ((.le txPt3 txPt2), true)
abbrev asPt28 : Q × Bool := ((.le txPt2 txPt3), false)
def rcmpC_t2 : List (Q × Bool) := [asPt10, asPt11, asPt12, asPt13, asPt14, asPt15, asPt16, asPt17, asPt18, asPt19, asPt20, asPt21, asPt23, asPt24, asPt25, asPt27, asPt28]
def rcmpC_d2 : List Duty := [(true, (.int 1), (.fn 52 txPt5))]
theorem rcmpC_y2 : endC rcmpC [] 1000 (callC Try.prog (tellA rcmpC_t2) [⟨19, [4, 1, 0, 1, 1, 1, 1, 1, 1], rbAOO⟩, ⟨19, [4, 1, 0, 1, 1, 1, 1, 1, 1], rbBOO⟩, ⟨19, [4, 1, 0, 1, 1, 1, 1, 1, 1], rbAOC⟩, ⟨19, [4, 1, 0, 1, 1, 1, 1, 1, 1], rbBOC⟩, ⟨19, [4, 1, 0, 1, 1, 1, 1, 1, 1], rbACO⟩, ⟨19, [4, 1, 0, 1, 1, 1, 1, 1, 1], rbBCO⟩, ⟨19, [4, 1, 0, 1, 1, 1, 1, 1, 1], rbACC⟩, ⟨19, [4, 1, 0, 1, 1, 1, 1, 1, 1], rbBCC⟩] [(32, splitY), (32, splitN), (37, bytesC), (12, rcC)] [] 3000 40 19 rcmpC) = some rcmpC_d2 := by kernel_rfl
abbrev asPt29 : Q × Bool := ((.le txPt2 txPt3), true)
def rcmpC_t3 : List (Q × Bool) := [asPt10, asPt11, asPt12, asPt13, asPt14, asPt15, asPt16, asPt17, asPt18, asPt19, asPt20, asPt21, asPt23, asPt24, asPt25, asPt27, asPt29]
def rcmpC_d3 : List Duty := [(true, (.int 0), (.fn 52 txPt5))]
theorem rcmpC_y3 : endC rcmpC [] 1000 (callC Try.prog (tellA rcmpC_t3) [⟨19, [4, 1, 0, 1, 1, 1, 1, 1, 1], rbAOO⟩, ⟨19, [4, 1, 0, 1, 1, 1, 1, 1, 1], rbBOO⟩, ⟨19, [4, 1, 0, 1, 1, 1, 1, 1, 1], rbAOC⟩, ⟨19, [4, 1, 0, 1, 1, 1, 1, 1, 1], rbBOC⟩, ⟨19, [4, 1, 0, 1, 1, 1, 1, 1, 1], rbACO⟩, ⟨19, [4, 1, 0, 1, 1, 1, 1, 1, 1], rbBCO⟩, ⟨19, [4, 1, 0, 1, 1, 1, 1, 1, 1], rbACC⟩, ⟨19, [4, 1, 0, 1, 1, 1, 1, 1, 1], rbBCC⟩] [(32, splitY), (32, splitN), (37, bytesC), (12, rcC)] [] 3000 40 19 rcmpC) = some rcmpC_d3 := by kernel_rfl
abbrev asPt30 : Q × Bool := ((.le (.int 0) (.fn 40 (.bi .pair (.var 3) (.int 0)))), false)
abbrev asPt31 : Q × Bool := ((.le (.int 1) txPt2), true)
abbrev asPt32 : Q × Bool := ((.le txPt2 (.int 1)), false)
def rcmpC_t4 : List (Q × Bool) := [asPt10, asPt11, asPt12, asPt13, asPt14, asPt15, asPt16, asPt30, asPt18, asPt20, asPt23, asPt24, asPt31, asPt32]
def rcmpC_d4 : List Duty := [(true, (.int 1), (.fn 52 txPt5))]
theorem rcmpC_y4 : endC rcmpC [] 1000 (callC Try.prog (tellA rcmpC_t4) [⟨19, [4, 1, 0, 1, 1, 1, 1, 1, 1], rbAOO⟩, ⟨19, [4, 1, 0, 1, 1, 1, 1, 1, 1], rbBOO⟩, ⟨19, [4, 1, 0, 1, 1, 1, 1, 1, 1], rbAOC⟩, ⟨19, [4, 1, 0, 1, 1, 1, 1, 1, 1], rbBOC⟩, ⟨19, [4, 1, 0, 1, 1, 1, 1, 1, 1], rbACO⟩, ⟨19, [4, 1, 0, 1, 1, 1, 1, 1, 1], rbBCO⟩, ⟨19, [4, 1, 0, 1, 1, 1, 1, 1, 1], rbACC⟩, ⟨19, [4, 1, 0, 1, 1, 1, 1, 1, 1], rbBCC⟩] [(32, splitY), (32, splitN), (37, bytesC), (12, rcC)] [] 3000 40 19 rcmpC) = some rcmpC_d4 := by kernel_rfl
def rcmpC_t5 : List (Q × Bool) := [asPt10, asPt11, asPt12, asPt13, asPt14, asPt15, asPt16, asPt30, asPt18, asPt20, asPt22]
def rcmpC_d5 : List Duty := [(true, (.fn 63 txPt9), (.fn 52 txPt5))]
theorem rcmpC_y5 : endC rcmpC [] 1000 (callC Try.prog (tellA rcmpC_t5) [⟨19, [4, 1, 0, 1, 1, 1, 1, 1, 1], rbAOO⟩, ⟨19, [4, 1, 0, 1, 1, 1, 1, 1, 1], rbBOO⟩, ⟨19, [4, 1, 0, 1, 1, 1, 1, 1, 1], rbAOC⟩, ⟨19, [4, 1, 0, 1, 1, 1, 1, 1, 1], rbBOC⟩, ⟨19, [4, 1, 0, 1, 1, 1, 1, 1, 1], rbACO⟩, ⟨19, [4, 1, 0, 1, 1, 1, 1, 1, 1], rbBCO⟩, ⟨19, [4, 1, 0, 1, 1, 1, 1, 1, 1], rbACC⟩, ⟨19, [4, 1, 0, 1, 1, 1, 1, 1, 1], rbBCC⟩] [(32, splitY), (32, splitN), (37, bytesC), (12, rcC)] [] 3000 40 19 rcmpC) = some rcmpC_d5 := by kernel_rfl
abbrev asPt33 : Q × Bool := ((.le (.int 0) (.fn 40 (.bi .pair (.var 1) (.int 0)))), false)
abbrev asPt34 : Q × Bool := ((.le txPt3 (.int 1)), false)
def rcmpC_t6 : List (Q × Bool) := [asPt10, asPt11, asPt12, asPt13, asPt14, asPt33, asPt16, asPt17, asPt19, asPt21, asPt23, asPt25, asPt34]
def rcmpC_d6 : List Duty := [(true, (.int (-1)), (.fn 52 txPt5))]
theorem rcmpC_y6 : endC rcmpC [] 1000 (callC Try.prog (tellA rcmpC_t6) [⟨19, [4, 1, 0, 1, 1, 1, 1, 1, 1], rbAOO⟩, ⟨19, [4, 1, 0, 1, 1, 1, 1, 1, 1], rbBOO⟩, ⟨19, [4, 1, 0, 1, 1, 1, 1, 1, 1], rbAOC⟩, ⟨19, [4, 1, 0, 1, 1, 1, 1, 1, 1], rbBOC⟩, ⟨19, [4, 1, 0, 1, 1, 1, 1, 1, 1], rbACO⟩, ⟨19, [4, 1, 0, 1, 1, 1, 1, 1, 1], rbBCO⟩, ⟨19, [4, 1, 0, 1, 1, 1, 1, 1, 1], rbACC⟩, ⟨19, [4, 1, 0, 1, 1, 1, 1, 1, 1], rbBCC⟩] [(32, splitY), (32, splitN), (37, bytesC), (12, rcC)] [] 3000 40 19 rcmpC) = some rcmpC_d6 := by kernel_rfl
def rcmpC_t7 : List (Q × Bool) := [asPt10, asPt11, asPt12, asPt13, asPt14, asPt33, asPt16, asPt17, asPt19, asPt21, asPt22]
def rcmpC_d7 : List Duty := [(true, (.fn 63 txPt9), (.fn 52 txPt5))]
theorem rcmpC_y7 : endC rcmpC [] 1000 (callC Try.prog (tellA rcmpC_t7) [⟨19, [4, 1, 0, 1, 1, 1, 1, 1, 1], rbAOO⟩, ⟨19, [4, 1, 0, 1, 1, 1, 1, 1, 1], rbBOO⟩, ⟨19, [4, 1, 0, 1, 1, 1, 1, 1, 1], rbAOC⟩, ⟨19, [4, 1, 0, 1, 1, 1, 1, 1, 1], rbBOC⟩, ⟨19, [4, 1, 0, 1, 1, 1, 1, 1, 1], rbACO⟩, ⟨19, [4, 1, 0, 1, 1, 1, 1, 1, 1], rbBCO⟩, ⟨19, [4, 1, 0, 1, 1, 1, 1, 1, 1], rbACC⟩, ⟨19, [4, 1, 0, 1, 1, 1, 1, 1, 1], rbBCC⟩] [(32, splitY), (32, splitN), (37, bytesC), (12, rcC)] [] 3000 40 19 rcmpC) = some rcmpC_d7 := by kernel_rfl
def rcmpC_t8 : List (Q × Bool) := [asPt10, asPt11, asPt12, asPt13, asPt14, asPt33, asPt16, asPt30, asPt22]
def rcmpC_d8 : List Duty := [(true, (.fn 63 txPt9), (.fn 52 txPt5))]
theorem rcmpC_y8 : endC rcmpC [] 1000 (callC Try.prog (tellA rcmpC_t8) [⟨19, [4, 1, 0, 1, 1, 1, 1, 1, 1], rbAOO⟩, ⟨19, [4, 1, 0, 1, 1, 1, 1, 1, 1], rbBOO⟩, ⟨19, [4, 1, 0, 1, 1, 1, 1, 1, 1], rbAOC⟩, ⟨19, [4, 1, 0, 1, 1, 1, 1, 1, 1], rbBOC⟩, ⟨19, [4, 1, 0, 1, 1, 1, 1, 1, 1], rbACO⟩, ⟨19, [4, 1, 0, 1, 1, 1, 1, 1, 1], rbBCO⟩, ⟨19, [4, 1, 0, 1, 1, 1, 1, 1, 1], rbACC⟩, ⟨19, [4, 1, 0, 1, 1, 1, 1, 1, 1], rbBCC⟩] [(32, splitY), (32, splitN), (37, bytesC), (12, rcC)] [] 3000 40 19 rcmpC) = some rcmpC_d8 := by kernel_rfl
def rcmpC_t9 : List (Q × Bool) := [asPt10, asPt11, asPt12, asPt13, asPt14, asPt33, asPt16, asPt30, asPt23]
def rcmpC_d9 : List Duty := [(true, (.int 0), (.fn 52 txPt5))]
theorem rcmpC_y9 : endC rcmpC [] 1000 (callC Try.prog (tellA rcmpC_t9) [⟨19, [4, 1, 0, 1, 1, 1, 1, 1, 1], rbAOO⟩, ⟨19, [4, 1, 0, 1, 1, 1, 1, 1, 1], rbBOO⟩, ⟨19, [4, 1, 0, 1, 1, 1, 1, 1, 1], rbAOC⟩, ⟨19, [4, 1, 0, 1, 1, 1, 1, 1, 1], rbBOC⟩, ⟨19, [4, 1, 0, 1, 1, 1, 1, 1, 1], rbACO⟩, ⟨19, [4, 1, 0, 1, 1, 1, 1, 1, 1], rbBCO⟩, ⟨19, [4, 1, 0, 1, 1, 1, 1, 1, 1], rbACC⟩, ⟨19, [4, 1, 0, 1, 1, 1, 1, 1, 1], rbBCC⟩] [(32, splitY), (32, splitN), (37, bytesC), (12, rcC)] [] 3000 40 19 rcmpC) = some rcmpC_d9 := by kernel_rfl
abbrev asPt35 : Q × Bool := ((.eq (.fn 45 (.bi .pair (.var 3) (.int 0))) (.int 0)), false)
def rcmpC_t10 : List (Q × Bool) := [asPt10, asPt11, asPt12, asPt35]
def rcmpC_d10 : List Duty := [(true, (.int 1), (.fn 52 txPt5))]
theorem rcmpC_y10 : endC rcmpC [] 1000 (callC Try.prog (tellA rcmpC_t10) [⟨19, [4, 1, 0, 1, 1, 1, 1, 1, 1], rbAOO⟩, ⟨19, [4, 1, 0, 1, 1, 1, 1, 1, 1], rbBOO⟩, ⟨19, [4, 1, 0, 1, 1, 1, 1, 1, 1], rbAOC⟩, ⟨19, [4, 1, 0, 1, 1, 1, 1, 1, 1], rbBOC⟩, ⟨19, [4, 1, 0, 1, 1, 1, 1, 1, 1], rbACO⟩, ⟨19, [4, 1, 0, 1, 1, 1, 1, 1, 1], rbBCO⟩, ⟨19, [4, 1, 0, 1, 1, 1, 1, 1, 1], rbACC⟩, ⟨19, [4, 1, 0, 1, 1, 1, 1, 1, 1], rbBCC⟩] [(32, splitY), (32, splitN), (37, bytesC), (12, rcC)] [] 3000 40 19 rcmpC) = some rcmpC_d10 := by kernel_rfl
abbrev asPt36 : Q × Bool := ((.eq (.fn 45 (.bi .pair (.var 1) (.int 0))) (.int 0)), false)
def rcmpC_t11 : List (Q × Bool) := [asPt10, asPt36, asPt12, asPt13]
def rcmpC_d11 : List Duty := [(true, (.int (-1)), (.fn 52 txPt5))]
theorem rcmpC_y11 : endC rcmpC [] 1000 (callC Try.prog (tellA rcmpC_t11) [⟨19, [4, 1, 0, 1, 1, 1, 1, 1, 1], rbAOO⟩, ⟨19, [4, 1, 0, 1, 1, 1, 1, 1, 1], rbBOO⟩, ⟨19, [4, 1, 0, 1, 1, 1, 1, 1, 1], rbAOC⟩, ⟨19, [4, 1, 0, 1, 1, 1, 1, 1, 1], rbBOC⟩, ⟨19, [4, 1, 0, 1, 1, 1, 1, 1, 1], rbACO⟩, ⟨19, [4, 1, 0, 1, 1, 1, 1, 1, 1], rbBCO⟩, ⟨19, [4, 1, 0, 1, 1, 1, 1, 1, 1], rbACC⟩, ⟨19, [4, 1, 0, 1, 1, 1, 1, 1, 1], rbBCC⟩] [(32, splitY), (32, splitN), (37, bytesC), (12, rcC)] [] 3000 40 19 rcmpC) = some rcmpC_d11 := by kernel_rfl
def rcmpC_t12 : List (Q × Bool) := [asPt10, asPt36, asPt12, asPt35]
def rcmpC_d12 : List Duty := [(true, (.fn 41 txPt5), (.fn 52 txPt5))]
theorem rcmpC_y12 : endC rcmpC [] 1000 (callC Try.prog (tellA rcmpC_t12) [⟨19, [4, 1, 0, 1, 1, 1, 1, 1, 1], rbAOO⟩, ⟨19, [4, 1, 0, 1, 1, 1, 1, 1, 1], rbBOO⟩, ⟨19, [4, 1, 0, 1, 1, 1, 1, 1, 1], rbAOC⟩, ⟨19, [4, 1, 0, 1, 1, 1, 1, 1, 1], rbBOC⟩, ⟨19, [4, 1, 0, 1, 1, 1, 1, 1, 1], rbACO⟩, ⟨19, [4, 1, 0, 1, 1, 1, 1, 1, 1], rbBCO⟩, ⟨19, [4, 1, 0, 1, 1, 1, 1, 1, 1], rbACC⟩, ⟨19, [4, 1, 0, 1, 1, 1, 1, 1, 1], rbBCC⟩] [(32, splitY), (32, splitN), (37, bytesC), (12, rcC)] [] 3000 40 19 rcmpC) = some rcmpC_d12 := by kernel_rfl
theorem rcmpC_holds : CHolds Try.prog 19 rcmpC F := by
 refine cholds_of sound (tableCons rbAOO_holds (tableCons rbBOO_holds (tableCons rbAOC_holds (tableCons rbBOC_holds (tableCons rbACO_holds (tableCons rbBCO_holds (tableCons rbACC_holds (tableCons rbBCC_holds (tableNil _ _))))))))) (specsCons splitY_holds (specsCons splitN_holds (specsCons bytesC_holds (specsCons rcC_holds (specsNil _ _))))) (oversNil _ _) (fuel := 3000) (depth := 40) (by kernel_rfl) fun d hp hR hA => ?_
 have hp := allTold'_iff.2 hp
 simp only [rcmpC, tl] at hp hR hA
 have la := congrArg List.length (parts_ints (d 1))
 have lb := congrArg List.length (parts_ints (d 3))
 rw [List.length_map, List.length_map] at la lb
 have ma := parts_many (d 1).ints
 have mb := parts_many (d 3).ints
 by_cases a : (checkF (d 1).ints).1 = 0
 ·have oa : okP (d 1).ints = true := decide_eq_true a
  by_cases b : (checkF (d 3).ints).1 = 0
  ·have ob : okP (d 3).ints = true := decide_eq_true b
   have ba := ((ok_iff _).1 oa).2.1
   have bb := ((ok_iff _).1 ob).2.1
   have hq : cmpT (d 1).ints (d 3).ints = cmpP (splitL (d 1).ints) (splitL (d 3).ints) := by unfold cmpT; rw [if_pos oa, if_pos ob]
   by_cases i : 0 ≤ idxI (d 1).ints
   ·have m1 := many_d (x := d 1) i
    by_cases j : 0 ≤ idxI (d 3).ints
    ·have m3 := many_d (x := d 3) j
     by_cases hz : likeL (splitL (d 1).ints) (splitL (d 3).ints) = true
     ·have hc := like_cmp _ _ hz
      by_cases x : (splitL (d 1).ints).length < (splitL (d 3).ints).length
      ·have hr : cmpT (d 1).ints (d 3).ints = -1 := by rw [hq, hc]; first | (rw [if_pos (by omega)]; done) | (rw [if_neg (by omega), if_pos (by omega)]; done) | rw [if_neg (by omega), if_neg (by omega)]
       refine ⟨tellA rcmpC_t1, _, _, _, tellA_ok (allTold'_iff.1 ?_), rcmpC_y1, dutiesTold_ok ?_⟩
       ·simp only [rcmpC_t1, F40, F41, F45, F51, F52, F57, F62, F63, one_if, tail_all, D.toList_list, List.length_map, la, lb, tl]
        and_intros <;> first | omega | assumption | rfl | trivial | exact one_if.2 hz | exact if_pos hz | exact fun h => hz (one_if.1 h)
       ·simp only [rcmpC_d1, F40, F41, F45, F51, F52, F57, F62, F63, one_if, tail_all, D.toList_list, List.length_map, la, lb, hr, tl]
      by_cases y : (splitL (d 3).ints).length < (splitL (d 1).ints).length
      ·have hr : cmpT (d 1).ints (d 3).ints = 1 := by rw [hq, hc]; first | (rw [if_pos (by omega)]; done) | (rw [if_neg (by omega), if_pos (by omega)]; done) | rw [if_neg (by omega), if_neg (by omega)]
       refine ⟨tellA rcmpC_t2, _, _, _, tellA_ok (allTold'_iff.1 ?_), rcmpC_y2, dutiesTold_ok ?_⟩
       ·simp only [rcmpC_t2, F40, F41, F45, F51, F52, F57, F62, F63, one_if, tail_all, D.toList_list, List.length_map, la, lb, tl]
        and_intros <;> first | omega | assumption | rfl | trivial | exact one_if.2 hz | exact if_pos hz | exact fun h => hz (one_if.1 h)
       ·simp only [rcmpC_d2, F40, F41, F45, F51, F52, F57, F62, F63, one_if, tail_all, D.toList_list, List.length_map, la, lb, hr, tl]
      have hr : cmpT (d 1).ints (d 3).ints = 0 := by rw [hq, hc]; first | (rw [if_pos (by omega)]; done) | (rw [if_neg (by omega), if_pos (by omega)]; done) | rw [if_neg (by omega), if_neg (by omega)]
      refine ⟨tellA rcmpC_t3, _, _, _, tellA_ok (allTold'_iff.1 ?_), rcmpC_y3, dutiesTold_ok ?_⟩
      ·simp only [rcmpC_t3, F40, F41, F45, F51, F52, F57, F62, F63, one_if, tail_all, D.toList_list, List.length_map, la, lb, tl]
       and_intros <;> first | omega | assumption | rfl | trivial | exact one_if.2 hz | exact if_pos hz | exact fun h => hz (one_if.1 h)
      ·simp only [rcmpC_d3, F40, F41, F45, F51, F52, F57, F62, F63, one_if, tail_all, D.toList_list, List.length_map, la, lb, hr, tl]
     have hr := hq
     refine ⟨tellA rcmpC_t0, _, _, _, tellA_ok (allTold'_iff.1 ?_), rcmpC_y0, dutiesTold_ok ?_⟩
     ·simp only [rcmpC_t0, F40, F41, F45, F51, F52, F57, F62, F63, one_if, tail_all, D.toList_list, List.length_map, la, lb, tl]
      and_intros <;> first | omega | assumption | rfl | trivial | exact one_if.2 hz | exact if_pos hz | exact fun h => hz (one_if.1 h)
     ·simp only [rcmpC_d0, F40, F41, F45, F51, F52, F57, F62, F63, one_if, tail_all, D.toList_list, List.length_map, la, lb, hr, tl]
    have m3 := one_d (x := d 3) (by omega)
    by_cases hz : likeL (splitL (d 1).ints) (splitL (d 3).ints) = true
    ·have hc := like_cmp _ _ hz
     have hr : cmpT (d 1).ints (d 3).ints = 1 := by rw [hq, hc]; first | (rw [if_pos (by omega)]; done) | (rw [if_neg (by omega), if_pos (by omega)]; done) | rw [if_neg (by omega), if_neg (by omega)]
     refine ⟨tellA rcmpC_t4, _, _, _, tellA_ok (allTold'_iff.1 ?_), rcmpC_y4, dutiesTold_ok ?_⟩
     ·simp only [rcmpC_t4, F40, F41, F45, F51, F52, F57, F62, F63, one_if, tail_all, D.toList_list, List.length_map, la, lb, tl]
      and_intros <;> first | omega | assumption | rfl | trivial | exact one_if.2 hz | exact if_pos hz | exact fun h => hz (one_if.1 h)
     ·simp only [rcmpC_d4, F40, F41, F45, F51, F52, F57, F62, F63, one_if, tail_all, D.toList_list, List.length_map, la, lb, hr, tl]
    have hr := hq
    refine ⟨tellA rcmpC_t5, _, _, _, tellA_ok (allTold'_iff.1 ?_), rcmpC_y5, dutiesTold_ok ?_⟩
    ·simp only [rcmpC_t5, F40, F41, F45, F51, F52, F57, F62, F63, one_if, tail_all, D.toList_list, List.length_map, la, lb, tl]
     and_intros <;> first | omega | assumption | rfl | trivial | exact one_if.2 hz | exact if_pos hz | exact fun h => hz (one_if.1 h)
    ·simp only [rcmpC_d5, F40, F41, F45, F51, F52, F57, F62, F63, one_if, tail_all, D.toList_list, List.length_map, la, lb, hr, tl]
   have m1 := one_d (x := d 1) (by omega)
   by_cases j : 0 ≤ idxI (d 3).ints
   ·have m3 := many_d (x := d 3) j
    by_cases hz : likeL (splitL (d 1).ints) (splitL (d 3).ints) = true
    ·have hc := like_cmp _ _ hz
     have hr : cmpT (d 1).ints (d 3).ints = -1 := by rw [hq, hc]; first | (rw [if_pos (by omega)]; done) | (rw [if_neg (by omega), if_pos (by omega)]; done) | rw [if_neg (by omega), if_neg (by omega)]
     refine ⟨tellA rcmpC_t6, _, _, _, tellA_ok (allTold'_iff.1 ?_), rcmpC_y6, dutiesTold_ok ?_⟩
     ·simp only [rcmpC_t6, F40, F41, F45, F51, F52, F57, F62, F63, one_if, tail_all, D.toList_list, List.length_map, la, lb, tl]
      and_intros <;> first | omega | assumption | rfl | trivial | exact one_if.2 hz | exact if_pos hz | exact fun h => hz (one_if.1 h)
     ·simp only [rcmpC_d6, F40, F41, F45, F51, F52, F57, F62, F63, one_if, tail_all, D.toList_list, List.length_map, la, lb, hr, tl]
    have hr := hq
    refine ⟨tellA rcmpC_t7, _, _, _, tellA_ok (allTold'_iff.1 ?_), rcmpC_y7, dutiesTold_ok ?_⟩
    ·simp only [rcmpC_t7, F40, F41, F45, F51, F52, F57, F62, F63, one_if, tail_all, D.toList_list, List.length_map, la, lb, tl]
     and_intros <;> first | omega | assumption | rfl | trivial | exact one_if.2 hz | exact if_pos hz | exact fun h => hz (one_if.1 h)
    ·simp only [rcmpC_d7, F40, F41, F45, F51, F52, F57, F62, F63, one_if, tail_all, D.toList_list, List.length_map, la, lb, hr, tl]
   have m3 := one_d (x := d 3) (by omega)
   by_cases hz : likeL (splitL (d 1).ints) (splitL (d 3).ints) = true
   ·have hc := like_cmp _ _ hz
    have hr : cmpT (d 1).ints (d 3).ints = 0 := by rw [hq, hc]; first | (rw [if_pos (by omega)]; done) | (rw [if_neg (by omega), if_pos (by omega)]; done) | rw [if_neg (by omega), if_neg (by omega)]
    refine ⟨tellA rcmpC_t9, _, _, _, tellA_ok (allTold'_iff.1 ?_), rcmpC_y9, dutiesTold_ok ?_⟩
    ·simp only [rcmpC_t9, F40, F41, F45, F51, F52, F57, F62, F63, one_if, tail_all, D.toList_list, List.length_map, la, lb, tl]
     and_intros <;> first | omega | assumption | rfl | trivial | exact one_if.2 hz | exact if_pos hz | exact fun h => hz (one_if.1 h)
    ·simp only [rcmpC_d9, F40, F41, F45, F51, F52, F57, F62, F63, one_if, tail_all, D.toList_list, List.length_map, la, lb, hr, tl]
   have hr := hq
   refine ⟨tellA rcmpC_t8, _, _, _, tellA_ok (allTold'_iff.1 ?_), rcmpC_y8, dutiesTold_ok ?_⟩
   ·simp only [rcmpC_t8, F40, F41, F45, F51, F52, F57, F62, F63, one_if, tail_all, D.toList_list, List.length_map, la, lb, tl]
    and_intros <;> first | omega | assumption | rfl | trivial | exact one_if.2 hz | exact if_pos hz | exact fun h => hz (one_if.1 h)
   ·simp only [rcmpC_d8, F40, F41, F45, F51, F52, F57, F62, F63, one_if, tail_all, D.toList_list, List.length_map, la, lb, hr, tl]
  have ob : ¬ okP (d 3).ints = true := fun h => b (of_decide_eq_true h)
  have hr : cmpT (d 1).ints (d 3).ints = 1 := by unfold cmpT; rw [if_pos oa, if_neg ob]
  refine ⟨tellA rcmpC_t10, _, _, _, tellA_ok (allTold'_iff.1 ?_), rcmpC_y10, dutiesTold_ok ?_⟩
  ·simp only [rcmpC_t10, F40, F41, F45, F51, F52, F57, F62, F63, one_if, tail_all, D.toList_list, List.length_map, la, lb, tl]
   and_intros <;> first | omega | assumption | rfl | trivial | exact one_if.2 hz | exact if_pos hz | exact fun h => hz (one_if.1 h)
  ·simp only [rcmpC_d10, F40, F41, F45, F51, F52, F57, F62, F63, one_if, tail_all, D.toList_list, List.length_map, la, lb, hr, tl]
 have oa : ¬ okP (d 1).ints = true := fun h => a (of_decide_eq_true h)
 by_cases b : (checkF (d 3).ints).1 = 0
 ·have ob : okP (d 3).ints = true := decide_eq_true b
  have hr : cmpT (d 1).ints (d 3).ints = -1 := by unfold cmpT; rw [if_neg oa, if_pos ob]
  refine ⟨tellA rcmpC_t11, _, _, _, tellA_ok (allTold'_iff.1 ?_), rcmpC_y11, dutiesTold_ok ?_⟩
  ·simp only [rcmpC_t11, F40, F41, F45, F51, F52, F57, F62, F63, one_if, tail_all, D.toList_list, List.length_map, la, lb, tl]
   and_intros <;> first | omega | assumption | rfl | trivial | exact one_if.2 hz | exact if_pos hz | exact fun h => hz (one_if.1 h)
  ·simp only [rcmpC_d11, F40, F41, F45, F51, F52, F57, F62, F63, one_if, tail_all, D.toList_list, List.length_map, la, lb, hr, tl]
 have ob : ¬ okP (d 3).ints = true := fun h => b (of_decide_eq_true h)
 have hr : cmpT (d 1).ints (d 3).ints = cmpB (d 1).ints (d 3).ints := by unfold cmpT; rw [if_neg oa, if_neg ob]
 refine ⟨tellA rcmpC_t12, _, _, _, tellA_ok (allTold'_iff.1 ?_), rcmpC_y12, dutiesTold_ok ?_⟩
 ·simp only [rcmpC_t12, F40, F41, F45, F51, F52, F57, F62, F63, one_if, tail_all, D.toList_list, List.length_map, la, lb, tl]
  and_intros <;> first | omega | assumption | rfl | trivial | exact one_if.2 hz | exact if_pos hz | exact fun h => hz (one_if.1 h)
 ·simp only [rcmpC_d12, F40, F41, F45, F51, F52, F57, F62, F63, one_if, tail_all, D.toList_list, List.length_map, la, lb, hr, tl]

def rundY : CSpec := { args := [.sstr (.var 0) (.var 1), .sstr (.var 2) (.var 3)], next := 0, rows := [], pre := [(.le (.var 0) (.int 100000000000000), true), (.le (.var 2) (.int 100000000000000), true), (.eq (.fn 53 txPt5) (.int 1), true)], res := .bool true, frows := [], same := [] }
abbrev asPt37 : Q × Bool := ((.fit .i64 (.var 0)), true)
abbrev asPt38 : Q × Bool := ((.fit .i64 (.var 2)), true)
abbrev asPt39 : Q × Bool := ((.le (.var 0) (.var 2)), false)
abbrev asPt40 : Q × Bool := ((.le (.int 0) (.var 2)), true)
abbrev asPt41 : Q × Bool := ((.le (.var 2) (.var 0)), true)
abbrev asPt42 : Q × Bool := ((.same (.tr .cut (.var 1) (.int 0) (.var 2)) (.var 3)), true)
abbrev asPt43 : Q × Bool := ((.eq (.bi .sel (.var 1) (.var 2)) (.int 47)), true)
def rundY_t0 : List (Q × Bool) := [asPt10, asPt11, asPt12, asPt13, asPt37, asPt38, asPt39, asPt40, asPt41, asPt42, asPt43]
def rundY_d0 : List Duty := []
theorem rundY_y0 : endC rundY [] 1000 (callC Try.prog (tellA rundY_t0) [] [(12, rcC)] [] 3000 40 21 rundY) = some rundY_d0 := by kernel_rfl
theorem rundY_holds : CHolds Try.prog 21 rundY F := by
 refine cholds_of sound (tableNil _ _) (specsCons rcC_holds (specsNil _ _)) (oversNil _ _) (fuel := 3000) (depth := 40) (by kernel_rfl) fun d hp hR hA => ?_
 have hp := allTold'_iff.2 hp
 simp only [rundY, tl] at hp hR hA
 simp only [F53, D.toInt_int, one_if] at hp
 obtain ⟨q0, q2, hu⟩ := hp
 obtain ⟨oa, ob, m, hm⟩ := und_iff.1 hu
 have a := ok_z oa
 have b := ok_z ob
 have hl : (d 1).ints.length = (d 3).ints.length + (m.length + 1) := by rw [hm, List.length_append, List.length_cons]
 obtain ⟨ht, hk⟩ := pre_at (n := (d 2).toInt) hm (by omega)
 refine ⟨tellA rundY_t0, _, _, _, tellA_ok (allTold'_iff.1 ?_), rundY_y0, dutiesTold_ok ?_⟩
 ·simp only [rundY_t0, F40, F45, F53, one_if, show Int.toNat 0 = 0 from rfl, List.drop_zero, ints_tk, tl]
  and_intros <;> first | assumption | omega | exact ht | exact hk | (rw [ht]; done) | exact fun h => ht h
 ·simp only [rundY_d0, tl]

def rundN : CSpec := { args := [.sstr (.var 0) (.var 1), .sstr (.var 2) (.var 3)], next := 0, rows := [], pre := [(.le (.var 0) (.int 100000000000000), true), (.le (.var 2) (.int 100000000000000), true), (.eq (.fn 53 txPt5) (.int 1), false)], res := .bool false, frows := [], same := [] }
def rundN_t0 : List (Q × Bool) := [asPt10, asPt36]
def rundN_d0 : List Duty := []
theorem rundN_y0 : endC rundN [] 1000 (callC Try.prog (tellA rundN_t0) [] [(12, rcC)] [] 3000 40 21 rundN) = some rundN_d0 := by kernel_rfl
def rundN_t1 : List (Q × Bool) := [asPt10, asPt11, asPt12, asPt35]
def rundN_d1 : List Duty := []
theorem rundN_y1 : endC rundN [] 1000 (callC Try.prog (tellA rundN_t1) [] [(12, rcC)] [] 3000 40 21 rundN) = some rundN_d1 := by kernel_rfl
abbrev asPt44 : Q × Bool := ((.le (.var 0) (.var 2)), true)
def rundN_t2 : List (Q × Bool) := [asPt10, asPt11, asPt12, asPt13, asPt37, asPt38, asPt44]
def rundN_d2 : List Duty := []
theorem rundN_y2 : endC rundN [] 1000 (callC Try.prog (tellA rundN_t2) [] [(12, rcC)] [] 3000 40 21 rundN) = some rundN_d2 := by kernel_rfl
abbrev asPt45 : Q × Bool := ((.same (.tr .cut (.var 1) (.int 0) (.var 2)) (.var 3)), false)
def rundN_t3 : List (Q × Bool) := [asPt10, asPt11, asPt12, asPt13, asPt37, asPt38, asPt39, asPt40, asPt41, asPt45]
def rundN_d3 : List Duty := []
theorem rundN_y3 : endC rundN [] 1000 (callC Try.prog (tellA rundN_t3) [] [(12, rcC)] [] 3000 40 21 rundN) = some rundN_d3 := by kernel_rfl
abbrev asPt46 : Q × Bool := ((.eq (.bi .sel (.var 1) (.var 2)) (.int 47)), false)
def rundN_t4 : List (Q × Bool) := [asPt10, asPt11, asPt12, asPt13, asPt37, asPt38, asPt39, asPt40, asPt41, asPt42, asPt46]
def rundN_d4 : List Duty := []
theorem rundN_y4 : endC rundN [] 1000 (callC Try.prog (tellA rundN_t4) [] [(12, rcC)] [] 3000 40 21 rundN) = some rundN_d4 := by kernel_rfl
theorem rundN_holds : CHolds Try.prog 21 rundN F := by
 refine cholds_of sound (tableNil _ _) (specsCons rcC_holds (specsNil _ _)) (oversNil _ _) (fuel := 3000) (depth := 40) (by kernel_rfl) fun d hp hR hA => ?_
 have hp := allTold'_iff.2 hp
 simp only [rundN, tl] at hp hR hA
 simp only [F53, D.toInt_int, one_if] at hp
 obtain ⟨q0, q2, hu⟩ := hp
 have hu := fun h => hu (one_if.2 h)
 by_cases a : (checkF (d 1).ints).1 = 0
 ·by_cases b : (checkF (d 3).ints).1 = 0
  ·by_cases c : (d 2).toInt < (d 0).toInt
   ·by_cases ht : (d 1).ints.take (d 2).toInt.toNat = (d 3).ints
    ·have hk : ¬ (d 1).ints[(d 2).toInt.toNat]?.getD 0 = 47 := fun h => hu (und_iff.2 ⟨decide_eq_true a, decide_eq_true b, at_pre ht (by omega) h⟩)
     refine ⟨tellA rundN_t4, _, _, _, tellA_ok (allTold'_iff.1 ?_), rundN_y4, dutiesTold_ok ?_⟩
     ·simp only [rundN_t4, F40, F45, F53, one_if, show Int.toNat 0 = 0 from rfl, List.drop_zero, ints_tk, tl]
      and_intros <;> first | assumption | omega | exact ht | exact hk | (rw [ht]; done) | exact fun h => ht h
     ·simp only [rundN_d4, tl]
    refine ⟨tellA rundN_t3, _, _, _, tellA_ok (allTold'_iff.1 ?_), rundN_y3, dutiesTold_ok ?_⟩
    ·simp only [rundN_t3, F40, F45, F53, one_if, show Int.toNat 0 = 0 from rfl, List.drop_zero, ints_tk, tl]
     and_intros <;> first | assumption | omega | exact ht | exact hk | (rw [ht]; done) | exact fun h => ht h
    ·simp only [rundN_d3, tl]
   refine ⟨tellA rundN_t2, _, _, _, tellA_ok (allTold'_iff.1 ?_), rundN_y2, dutiesTold_ok ?_⟩
   ·simp only [rundN_t2, F40, F45, F53, one_if, show Int.toNat 0 = 0 from rfl, List.drop_zero, ints_tk, tl]
    and_intros <;> first | assumption | omega | exact ht | exact hk | (rw [ht]; done) | exact fun h => ht h
   ·simp only [rundN_d2, tl]
  refine ⟨tellA rundN_t1, _, _, _, tellA_ok (allTold'_iff.1 ?_), rundN_y1, dutiesTold_ok ?_⟩
  ·simp only [rundN_t1, F40, F45, F53, one_if, show Int.toNat 0 = 0 from rfl, List.drop_zero, ints_tk, tl]
   and_intros <;> first | assumption | omega | exact ht | exact hk | (rw [ht]; done) | exact fun h => ht h
  ·simp only [rundN_d1, tl]
 refine ⟨tellA rundN_t0, _, _, _, tellA_ok (allTold'_iff.1 ?_), rundN_y0, dutiesTold_ok ?_⟩
 ·simp only [rundN_t0, F40, F45, F53, one_if, show Int.toNat 0 = 0 from rfl, List.drop_zero, ints_tk, tl]
  and_intros <;> first | assumption | omega | exact ht | exact hk | (rw [ht]; done) | exact fun h => ht h
 ·simp only [rundN_d0, tl]

end Go.Proofs.Ytkejfocfmndogaa.Pt
