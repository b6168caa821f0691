/-
 Contracts of this seat: what loops and calls leave, for all inputs. No condition.
-/
import Derived.Test.YtmmfjmmldhnpfaaSycp
import Derived.Test.YtmmfjmmldhnpfaaCo
import Derived.Test.YtmmfjmmldhnpfaaNa
set_option linter.unusedSimpArgs false
set_option linter.unusedVariables false
namespace Go.Proofs.Ytmmfjmmldhnpfaa.Nb
open Go.RowKit Go.Ev Go.Proofs.Ytmmfjmmldhnpfaa.Co

open Go.Proofs.Ytmmfjmmldhnpfaa.Na
theorem enc_end {x : List Int} {i : Int} (h : (x.length : Int) ≤ i) : encI x i = [] := by
 unfold encI; rw [List.drop_of_length_le (by omega)]; rfl
theorem enc_step {x : List Int} {i : Int} (h0 : 0 ≤ i) (h : i < x.length) : encI x i = putL (x[i.toNat]?.getD 0) ++ encI x (i + 1) := by
 have hl : i.toNat < x.length := by omega
 unfold encI
 rw [List.drop_eq_getElem_cons hl, show (i + 1).toNat = i.toNat + 1 by omega, List.getElem?_eq_getElem hl]
 rfl
theorem ids_end {y : List D} {i : Int} (h : (y.length : Int) ≤ i) : idsI y i = [] := by
 unfold idsI; rw [List.drop_of_length_le (by omega)]; rfl
theorem ids_step {y : List D} {i : Int} (h0 : 0 ≤ i) (h : i < y.length) : idsI y i = segI (y[i.toNat]?.getD (D.int 0)).ints 0 16 ++ idsI y (i + 1) := by
 have hl : i.toNat < y.length := by omega
 unfold idsI
 rw [List.drop_eq_getElem_cons hl, show (i + 1).toNat = i.toNat + 1 by omega, List.getElem?_eq_getElem hl]
 rfl
theorem wrong_iff {k n i b : Int} {x : List Int} : wrongI k n i b x = 0 ↔ nameI (kindI k) ≠ [] ∧ (lowI (kindI k) 1 ≤ n ∧ n ≤ topI (kindI k) 1 ∧ lowI (kindI k) 2 ≤ i ∧ i ≤ topI (kindI k) 2 ∧ lowI (kindI k) 3 ≤ b ∧ b ≤ topI (kindI k) 3) ∧ fineL x = true := by
 unfold wrongI
 by_cases h0 : nameI (kindI k) = []
 ·simp [h0]
 ·rw [if_neg h0]
  by_cases h1 : (holdB (kindI k) 1 n && holdB (kindI k) 2 i && holdB (kindI k) 3 b) = true
  ·rw [if_pos h1]
   simp only [holdB, Bool.and_eq_true, decide_eq_true_eq] at h1
   by_cases h2 : fineL x = true
   ·rw [if_pos h2]; simp [h0, h2, h1]
   ·rw [if_neg h2]; simp [h2]
  ·rw [if_neg h1]
   simp only [holdB, Bool.and_eq_true, decide_eq_true_eq] at h1
   constructor
   ·intro h; omega
   ·intro ⟨_, h, _⟩; exact absurd ⟨⟨⟨h.1, h.2.1⟩, h.2.2.1, h.2.2.2.1⟩, h.2.2.2.2.1, h.2.2.2.2.2⟩ h1
theorem enc_len : ∀ {x : List Int}, fineL x = true → ((encI x 0).length : Int) ≤ 5 * x.length
 | [], _ => by simp [encI]
 | a :: x, h => by
  have h' := h
  simp only [fineL, List.all_cons, Bool.and_eq_true, decide_eq_true_eq] at h'
  have i := enc_len (x := x) h'.2
  have p := put_len h'.1.1 h'.1.2
  have q := sz_in a
  simp only [encI, Int.toNat_zero, List.drop_zero, List.flatMap_cons, List.length_append, List.length_cons] at *
  omega
theorem ids_len : ∀ {y : List D}, ((idsI y 0).length : Int) = 16 * y.length
 | [] => by simp [idsI]
 | a :: y => by
  have i := ids_len (y := y)
  have p := seg_len a.ints
  simp only [idsI, Int.toNat_zero, List.drop_zero, List.flatMap_cons, List.length_append, List.length_cons] at *
  omega
theorem kind_some {k : Int} (h : nameI (kindI k) ≠ []) : 1 ≤ k ∧ k ≤ 24 := by
 refine Decidable.byContradiction fun g => h ?_
 rw [show kindI k = 0 from if_neg g]
 rfl
theorem seg_map (x : D) : List.map D.toInt (List.map (fun j => x.toList[Int.toNat 0 + j]?.getD (D.int 0)) (List.range (Int.toNat 16))) = segI x.ints 0 16 := ints_seg x 0 16
theorem cast_z : ((0 : Nat) : Int) = 0 := rfl
theorem put_nilD : putL ((([] : List D).length : Nat) : Int) = putL 0 := rfl
theorem put_nilI : putL ((([] : List Int).length : Nat) : Int) = putL 0 := rfl
theorem ids_nil : idsI (D.ofInts []).toList 0 = [] := rfl
theorem len_eq {x y : List Int} (h : x = y) : (x.length : Int) = y.length := by rw [h]


abbrev zNb14 : E := (.bi .sel (.var 2) (.var 0))
abbrev txNb0 : E := (.bi .pair zNb14 (.int 0))
abbrev zNb3 : E := (.bi .add (.var 0) (.int 1))
abbrev txNb1 : E := (.bi .pair zNb3 (.int 0))
abbrev zNb1 : E := (.bi .pair (.var 0) (.int 0))
abbrev txNb2 : E := (.bi .pair (.var 2) zNb1)
abbrev txNb3 : E := (.bi .pair (.var 4) zNb1)
abbrev txNb4 : E := (.bi .pair (.var 5) (.bi .pair (.var 2) (.int 0)))
abbrev zNb2 : E := (.bi .pair (.int 0) (.int 0))
abbrev txNb5 : E := (.bi .pair (.var 2) zNb2)
abbrev txNb6 : E := (.bi .pair (.var 4) (.bi .pair (.var 6) (.int 0)))
abbrev txNb7 : E := (.bi .pair (.var 4) zNb2)
abbrev txNb8 : E := (.bi .pair (.lits []) (.bi .pair (.var 6) (.int 0)))
abbrev txNb9 : E := (.bi .sub (.int 5) (.fn 1 zNb1))
abbrev zNb12 : E := (.bi .pair (.var 1) (.int 0))
abbrev txNb10 : E := (.bi .sub (.int 5) (.fn 1 zNb12))
abbrev txNb11 : E := (.bi .sub (.int 5) (.fn 1 zNb2))
abbrev zNb6 : E := (.fn 1 (.bi .pair (.var 5) (.int 0)))
abbrev txNb12 : E := (.bi .sub (.int 5) zNb6)
abbrev zNb11 : E := (.bi .pair (.var 3) (.int 0))
abbrev txNb13 : E := (.bi .sub (.int 5) (.fn 1 zNb11))
abbrev txNb14 : E := (.tr .seg (.bi .sel (.var 4) (.var 0)) (.int 0) (.int 16))
abbrev txNb15 : E := (.bi .add (.fn 1 zNb1) (.fn 1 zNb12))
abbrev txNb16 : E := (.un .len (.fn 80 (.bi .pair (.var 2) txNb1)))
abbrev txNb17 : E := (.un .len (.fn 81 (.bi .pair (.var 4) txNb1)))
abbrev txNb18 : E := (.bi .add (.var 21) (.un .len (.fn 80 txNb2)))
abbrev txNb19 : E := (.bi .add (.var 21) (.un .len (.fn 81 txNb3)))
abbrev txNb20 : E := (.bi .pair (.var 1) (.bi .pair (.int 0) txNb4))
abbrev txNb21 : E := (.bi .pair (.var 1) (.bi .pair (.var 3) txNb4))
abbrev txNb22 : E := (.bi .pair (.var 0) (.bi .pair (.var 2) txNb6))
abbrev txNb23 : E := (.bi .pair (.var 0) (.bi .pair (.var 2) txNb8))
abbrev txNb24 : E := (.bi .add txNb9 (.fn 1 zNb1))
abbrev txNb25 : E := (.bi .add txNb10 (.fn 1 zNb12))
abbrev txNb26 : E := (.bi .add txNb11 (.fn 1 zNb2))
abbrev txNb27 : E := (.bi .add txNb12 zNb6)
abbrev txNb28 : E := (.bi .add txNb13 (.fn 1 zNb11))
abbrev zNb10 : E := (.bi .add (.var 21) (.int 16))
abbrev txNb29 : E := (.bi .add zNb10 txNb17)
abbrev txNb30 : E := (.bi .add (.bi .sub (.int 5) (.fn 1 txNb0)) (.fn 1 txNb0))
abbrev zNb8 : E := (.bi .add (.var 21) (.fn 1 txNb0))
abbrev txNb31 : E := (.bi .add zNb8 txNb16)
abbrev txNb32 : E := (.tr .cut (.fn 2 zNb1) txNb9 txNb24)
abbrev txNb33 : E := (.tr .cut (.fn 2 zNb12) txNb10 txNb25)
abbrev txNb34 : E := (.tr .cut (.fn 2 (.bi .pair (.var 5) (.int 0))) txNb12 txNb27)
abbrev zNb9 : E := (.bi .add txNb15 (.un .len (.fn 80 txNb5)))
abbrev txNb35 : E := (.bi .add zNb9 (.fn 1 zNb2))
abbrev txNb36 : E := (.bi .add zNb9 (.fn 1 zNb11))
abbrev txNb37 : E := (.bi .add txNb35 zNb6)
abbrev txNb38 : E := (.tr .cut (.fn 2 txNb0) (.bi .sub (.int 5) (.fn 1 txNb0)) txNb30)
abbrev zNb20 : E := (.bi .add txNb36 (.un .len (.fn 81 txNb7)))
abbrev txNb39 : E := (.bi .add zNb20 zNb6)
abbrev txNb40 : E := (.bi .app (.bi .app txNb32 txNb33) (.fn 80 txNb5))
abbrev zNb0 : Nat × RW := (5, .vseq ⟨49, (.agg [.int .u8, .int .u8, .int .u8, .int .u8, .int .u8, .int .u8, .int .u8, .int .u8, .int .u8, .int .u8, .int .u8, .int .u8, .int .u8, .int .u8, .int .u8, .int .u8]), .var 3, .var 4, true⟩)
abbrev zNb17 : E := (.un .len (.fn 82 txNb23))
abbrev zNb4 : Duty := (true, (.bi .add txNb37 (.var 5)), zNb17)
abbrev zNb18 : E := (.un .len (.fn 82 txNb22))
abbrev zNb5 : Duty := (true, (.bi .add txNb39 (.var 5)), zNb18)
abbrev zNb7 : Nat × RW := (1, .cells 91 0 false false [.ptr 1 0, .sslice 13 (.int 0) (.var 21) (.var 21) true, .bool false])
abbrev zNb13 : Nat × RW := (3, .eseq ⟨.i64, .var 1, .var 2⟩)
abbrev zNb15 : E := (.bi .app (.var 22) txNb38)
abbrev zNb16 : E := (.bi .app (.var 22) txNb14)
abbrev zNb19 : Nat × RW := (13, .seq ⟨5, .u8, .var 21, .var 22, true, false⟩)
def numW : LSpec := { n := 60, next := 14, pat := [(5, .ptr 1 0), (26, .sslice 3 (.int 0) (.var 1) (.var 9) true), (27, .sint .i64 (.var 1)), (28, .sint .i64 (.var 0))], rows := [zNb7, zNb13, zNb19], pre := [(.le (.int 0) (.var 0), true), (.le (.var 0) (.var 1), true), (.eq (.fn 33 txNb2) (.int 1), true), (.le (.int 1) (.var 21), true), (.le (.bi .add (.var 21) (.bi .mul (.int 5) (.bi .sub (.var 1) (.var 0)))) (.int 500000), true)], x := 0, fin := [(5, .ptr 1 0)], frows := [(1, .cells 91 0 false false [.ptr 1 0, .sslice 13 (.int 0) txNb18 txNb18 true, .bool false]), (13, .seq ⟨5, .u8, .bi .add (.var 21) (.un .len (.fn 80 txNb2)), .bi .app (.var 22) (.fn 80 txNb2), true, false⟩)], same := [1, 3], chg := [5, 7, 26, 27, 28, 29, 30, 31, 32, 33, 34, 35] }
abbrev asNb0 : Q × Bool := ((.le (.var 1) (.var 0)), false)
abbrev asNb1 : Q × Bool := ((.le (.int 0) (.var 0)), true)
abbrev asNb2 : Q × Bool := ((.le (.int 0) zNb14), true)
abbrev asNb3 : Q × Bool := ((.le zNb14 (.int 2147483647)), true)
abbrev asNb4 : Q × Bool := ((.le (.int 1) (.var 21)), true)
abbrev asNb5 : Q × Bool := ((.le txNb30 (.int 5)), true)
abbrev asNb6 : Q × Bool := ((.le (.bi .mul zNb8 (.int 2)) (.int 281474976710656)), true)
abbrev asNb7 : Q × Bool := ((.fit .i64 zNb3), true)
def numW_t0 : List (Q × Bool) := [asNb0, asNb1, asNb2, asNb3, asNb4, asNb5, asNb6, asNb7]
def numW_d0 : List Duty := [(true, txNb31, txNb18), (true, txNb31, txNb18), (true, txNb31, txNb18), (false, (.bi .app zNb15 (.fn 80 (.bi .pair (.var 2) txNb1))), (.bi .app (.var 22) (.fn 80 txNb2)))]
def numW_h0 : List (Nat × E) := [(22, zNb15), (2, (.var 2)), (21, zNb8), (0, zNb3), (1, (.var 1)), (9, (.var 9))]
theorem numW_h0_a : lookE numW_h0 0 = zNb3 ∧ lookE numW_h0 1 = (.var 1) ∧ lookE numW_h0 2 = (.var 2) ∧ lookE numW_h0 9 = (.var 9) ∧ lookE numW_h0 21 = zNb8 ∧ lookE numW_h0 22 = zNb15 := ⟨rfl, rfl, rfl, rfl, rfl, rfl⟩
theorem numW_y0 : nextD numW numW_h0 [(13, 31), (3, 3), (1, 1)] (roundC Try.prog [] [(60, partsC)] [] 3000 40 10 [4, 1, 0, 1, 1, 1, 1, 1] (tellA numW_t0) numW) = some numW_d0 := by kernel_rfl
abbrev asNb8 : Q × Bool := ((.le (.var 1) (.var 0)), true)
def numW_t1 : List (Q × Bool) := [asNb8]
def numW_d1 : List Duty := [(true, (.var 21), txNb18), (true, (.var 21), txNb18), (true, (.var 21), txNb18), (false, (.var 22), (.bi .app (.var 22) (.fn 80 txNb2)))]
theorem numW_y1 : endD numW [(13, 13), (3, 3), (1, 1)] 1000 (roundC Try.prog [] [(60, partsC)] [] 3000 40 10 [4, 1, 0, 1, 1, 1, 1, 1] (tellA numW_t1) numW) = some numW_d1 := by kernel_rfl
set_option maxHeartbeats 16000000 in
theorem numW_holds : LHolds Try.prog (loopAt Try.prog 10 [4, 1, 0, 1, 1, 1, 1, 1]) numW F := by
 refine loop_roundsC sound (tableNil _ _) (specsCons partsC_holds (specsNil _ _)) (oversNil _ _) (fuel := 3000) (depth := 40) (by kernel_rfl) (by kernel_rfl) (by kernel_rfl) (fun d => ((d 1).toInt - (d 0).toInt).toNat) fun d hp hR hA => ?_
 have hp := allTold'_iff.2 hp
 simp only [numW, tl] at hp hR hA
 simp only [F33] at hp
 obtain ⟨p0, p1, p2, p3, p4⟩ := hp
 have hl : ((d 2).ints.length : Int) = (d 1).toInt := by omega
 by_cases h : (d 1).toInt ≤ (d 0).toInt
 ·have e := enc_end (x := (d 2).ints) (i := (d 0).toInt) (by omega)
  refine ⟨tellA numW_t1, tellA_ok (allTold'_iff.1 ?_), .inl ⟨_, _, _, numW_y1, dutiesTold_ok ?_⟩⟩
  all_goals simp only [numW_t1, numW_d1, F80, D.ints_ofInts, e, List.append_nil, List.length_nil, tl]
  all_goals first | done | omega | exact True.intro | (and_intros <;> first | done | omega | exact True.intro | exact one_to (by assumption) | (simp only [ints_list, List.map_append, List.map_drop, List.map_take, map_ints, D.ints_ofInts, seg_map, List.append_assoc, List.nil_append, seg_map]; done))
 ·have e := enc_step (x := (d 2).ints) p0 (show (d 0).toInt < _ by omega)
  have p2 := one_of p2
  have hs := fine_step (x := (d 2).ints) (i := (d 0).toInt) p0 (by omega)
  rw [hs] at p2
  simp only [Bool.and_eq_true, decide_eq_true_eq] at p2
  obtain ⟨⟨q0, q1⟩, q2⟩ := p2
  have g1 := put_len q0 q1
  have g2 := sz_in ((d 2).ints[(d 0).toInt.toNat]?.getD 0)
  have g3 := five_cut q0 q1
  refine ⟨tellA numW_t0, tellA_ok (allTold'_iff.1 ?_), .inr ⟨numW_h0, _, _, numW_y0, dutiesTold_ok ?_, allTold'_iff.1 ?_, ?_⟩⟩
  all_goals simp only [numW_t0, numW_d0, numW, numW_h0_a, F80, D.toInt_int, D.ints_ofInts, F1, F2, F3, F33, F40, e, g3, List.length_append, tl]
  all_goals first | done | omega | exact True.intro | (and_intros <;> first | done | omega | exact True.intro | exact one_to (by assumption) | (simp only [ints_list, List.map_append, List.map_drop, List.map_take, map_ints, D.ints_ofInts, seg_map, List.append_assoc, List.nil_append, g3]; done))

def idsW : LSpec := { n := 60, next := 14, pat := [(5, .ptr 1 0), (42, .vslice 5 16 (.int 0) (.var 3) (.var 10) true), (43, .sint .i64 (.var 3)), (44, .sint .i64 (.var 0))], rows := [zNb7, zNb0, zNb19], pre := [(.le (.int 0) (.var 0), true), (.le (.var 0) (.var 3), true), (.le (.int 1) (.var 21), true), (.le (.bi .add (.var 21) (.bi .mul (.int 16) (.bi .sub (.var 3) (.var 0)))) (.int 500000), true)], x := 2, fin := [(5, .ptr 1 0)], frows := [(1, .cells 91 0 false false [.ptr 1 0, .sslice 13 (.int 0) txNb19 txNb19 true, .bool false]), zNb0, (13, .seq ⟨5, .u8, .bi .add (.var 21) (.un .len (.fn 81 txNb3)), .bi .app (.var 22) (.fn 81 txNb3), true, false⟩)], same := [1, 5], chg := [5, 9, 42, 43, 44, 45, 46, 47, 48, 49, 50, 51] }
abbrev asNb9 : Q × Bool := ((.le (.var 3) (.var 0)), false)
abbrev asNb10 : Q × Bool := ((.le (.bi .mul zNb10 (.int 2)) (.int 281474976710656)), true)
def idsW_t0 : List (Q × Bool) := [asNb9, asNb1, asNb10, asNb7]
def idsW_d0 : List Duty := [(true, txNb29, txNb19), (true, txNb29, txNb19), (true, txNb29, txNb19), (false, (.bi .app zNb16 (.fn 81 (.bi .pair (.var 4) txNb1))), (.bi .app (.var 22) (.fn 81 txNb3)))]
def idsW_h0 : List (Nat × E) := [(22, zNb16), (4, (.var 4)), (21, zNb10), (0, zNb3), (3, (.var 3)), (10, (.var 10))]
theorem idsW_h0_a : lookE idsW_h0 0 = zNb3 ∧ lookE idsW_h0 3 = (.var 3) ∧ lookE idsW_h0 4 = (.var 4) ∧ lookE idsW_h0 10 = (.var 10) ∧ lookE idsW_h0 21 = zNb10 ∧ lookE idsW_h0 22 = zNb16 := ⟨rfl, rfl, rfl, rfl, rfl, rfl⟩
theorem idsW_y0 : nextD idsW idsW_h0 [(13, 33), (5, 5), (1, 1)] (roundC Try.prog [] [] [] 3000 40 10 [4, 1, 0, 1, 1, 1, 1, 1, 1, 1] (tellA idsW_t0) idsW) = some idsW_d0 := by kernel_rfl
abbrev asNb11 : Q × Bool := ((.le (.var 3) (.var 0)), true)
def idsW_t1 : List (Q × Bool) := [asNb11]
def idsW_d1 : List Duty := [(true, (.var 21), txNb19), (true, (.var 21), txNb19), (true, (.var 21), txNb19), (false, (.var 22), (.bi .app (.var 22) (.fn 81 txNb3)))]
theorem idsW_y1 : endD idsW [(13, 13), (5, 5), (1, 1)] 1000 (roundC Try.prog [] [] [] 3000 40 10 [4, 1, 0, 1, 1, 1, 1, 1, 1, 1] (tellA idsW_t1) idsW) = some idsW_d1 := by kernel_rfl
set_option maxHeartbeats 16000000 in
theorem idsW_holds : LHolds Try.prog (loopAt Try.prog 10 [4, 1, 0, 1, 1, 1, 1, 1, 1, 1]) idsW F := by
 refine loop_roundsC sound (tableNil _ _) (specsNil _ _) (oversNil _ _) (fuel := 3000) (depth := 40) (by kernel_rfl) (by kernel_rfl) (by kernel_rfl) (fun d => ((d 3).toInt - (d 0).toInt).toNat) fun d hp hR hA => ?_
 have hp := allTold'_iff.2 hp
 simp only [idsW, tl] at hp hR hA
 obtain ⟨p0, p1, p3, p4⟩ := hp
 have h4 : (d 4).ints.length = (d 4).toList.length := List.length_map ..
 have hl : ((d 4).toList.length : Int) = (d 3).toInt := by omega
 by_cases h : (d 3).toInt ≤ (d 0).toInt
 ·have e := ids_end (y := (d 4).toList) (i := (d 0).toInt) (by omega)
  refine ⟨tellA idsW_t1, tellA_ok (allTold'_iff.1 ?_), .inl ⟨_, _, _, idsW_y1, dutiesTold_ok ?_⟩⟩
  all_goals simp only [idsW_t1, idsW_d1, F81, D.ints_ofInts, e, List.append_nil, List.length_nil, tl]
  all_goals first | done | omega | exact True.intro | (and_intros <;> first | done | omega | exact True.intro | exact one_to (by assumption) | (simp only [ints_list, List.map_append, List.map_drop, List.map_take, map_ints, D.ints_ofInts, seg_map, List.append_assoc, List.nil_append, seg_map]; done))
 ·have e := ids_step (y := (d 4).toList) p0 (show (d 0).toInt < _ by omega)
  have g1 := seg_len ((d 4).toList[(d 0).toInt.toNat]?.getD (D.int 0)).ints
  refine ⟨tellA idsW_t0, tellA_ok (allTold'_iff.1 ?_), .inr ⟨idsW_h0, _, _, idsW_y0, dutiesTold_ok ?_, allTold'_iff.1 ?_, ?_⟩⟩
  all_goals simp only [idsW_t0, idsW_d0, idsW, idsW_h0_a, F81, D.toInt_int, D.ints_ofInts, e, List.length_append, g1, tl]
  all_goals first | done | omega | exact True.intro | (and_intros <;> first | done | omega | exact True.intro | exact one_to (by assumption) | (simp only [ints_list, List.map_append, List.map_drop, List.map_take, map_ints, D.ints_ofInts, seg_map, List.append_assoc, List.nil_append, seg_map]; done))

def bytOe : CSpec := { args := [.agg [.sint .i64 (.var 0), .sslice 3 (.int 0) (.var 1) (.var 9) true, .slice 5 0 0 0 false, .sslice 7 (.int 0) (.var 5) (.var 11) true]], next := 8, rows := [zNb13, (7, .eseq ⟨.u8, .var 5, .var 6⟩)], pre := [(.eq (.fn 32 (.bi .pair (.var 0) txNb20)) (.int 0), true), (.le (.int 0) (.var 1), true), (.le (.var 1) (.int 5000), true), (.le (.int 0) (.var 5), true), (.le (.var 5) (.int 5000), true)], res := .tuple [.sslice 9 (.int 0) zNb17 zNb17 true, .int .i64 0], frows := [(9, .seq ⟨5, .u8, .un .len (.fn 82 txNb23), .fn 82 txNb23, true, false⟩)], same := [3, 7] }
abbrev asNb12 : Q × Bool := ((.le (.int 0) (.var 1)), true)
abbrev asNb13 : Q × Bool := ((.le (.var 1) (.int 5000)), true)
abbrev asNb14 : Q × Bool := ((.le (.int 0) (.var 5)), true)
abbrev asNb15 : Q × Bool := ((.le (.var 5) (.int 5000)), true)
abbrev asNb16 : Q × Bool := ((.eq (.fn 32 (.bi .pair (.var 0) txNb20)) (.int 0)), true)
abbrev asNb17 : Q × Bool := ((.le (.var 0) (.int 2147483647)), true)
abbrev asNb18 : Q × Bool := ((.le txNb24 (.int 5)), true)
abbrev asNb19 : Q × Bool := ((.eq (.fn 1 zNb1) (.int 0)), false)
abbrev asNb20 : Q × Bool := ((.le (.bi .mul (.fn 1 zNb1) (.int 2)) (.int 281474976710656)), true)
abbrev asNb21 : Q × Bool := ((.fit .i64 (.var 1)), true)
abbrev asNb22 : Q × Bool := ((.le (.var 1) (.int 2147483647)), true)
abbrev asNb23 : Q × Bool := ((.le (.int 1) (.fn 1 zNb1)), true)
abbrev asNb24 : Q × Bool := ((.le txNb25 (.int 5)), true)
abbrev asNb25 : Q × Bool := ((.le (.bi .mul txNb15 (.int 2)) (.int 281474976710656)), true)
abbrev asNb26 : Q × Bool := ((.eq (.fn 33 txNb5) (.int 1)), true)
abbrev asNb27 : Q × Bool := ((.le (.int 1) txNb15), true)
abbrev asNb28 : Q × Bool := ((.le (.bi .add txNb15 (.bi .mul (.int 5) (.bi .sub (.var 1) (.int 0)))) (.int 500000)), true)
abbrev asNb29 : Q × Bool := ((.le (.int 1) zNb9), true)
abbrev asNb30 : Q × Bool := ((.le txNb26 (.int 5)), true)
abbrev asNb31 : Q × Bool := ((.le (.bi .mul txNb35 (.int 2)) (.int 281474976710656)), true)
abbrev asNb32 : Q × Bool := ((.fit .i64 (.var 5)), true)
abbrev asNb33 : Q × Bool := ((.le (.var 5) (.int 2147483647)), true)
abbrev asNb34 : Q × Bool := ((.le (.int 1) txNb35), true)
abbrev asNb35 : Q × Bool := ((.le txNb27 (.int 5)), true)
abbrev asNb36 : Q × Bool := ((.le (.bi .mul txNb37 (.int 2)) (.int 281474976710656)), true)
abbrev asNb37 : Q × Bool := ((.le (.bi .mul (.bi .add txNb37 (.var 5)) (.int 2)) (.int 281474976710656)), true)
def bytOe_t0 : List (Q × Bool) := [asNb12, asNb13, asNb14, asNb15, asNb16, asNb1, asNb17, asNb18, asNb19, asNb20, asNb21, asNb22, asNb23, asNb24, asNb25, asNb26, asNb27, asNb28, asNb29, asNb30, asNb31, asNb32, asNb33, asNb34, asNb35, asNb36, asNb37]
def bytOe_d0 : List Duty := [zNb4, zNb4, zNb4, (false, (.bi .app (.bi .app (.bi .app txNb40 (.tr .cut (.fn 2 zNb2) txNb11 txNb26)) txNb34) (.var 6)), (.fn 82 txNb23))]
theorem bytOe_y0 : endC bytOe [(9, 45), (3, 3), (7, 7)] 1000 (callC Try.prog (tellA bytOe_t0) [⟨10, [4, 1, 0, 1, 1, 1, 1, 1], numW⟩, ⟨10, [4, 1, 0, 1, 1, 1, 1, 1, 1, 1], idsW⟩] [(60, partsC), (13, chkoeo)] [] 3000 40 10 bytOe) = some bytOe_d0 := by kernel_rfl
set_option maxHeartbeats 16000000 in
theorem bytOe_holds : CHolds Try.prog 10 bytOe F := by
 refine cholds_of sound (tableCons numW_holds (tableCons idsW_holds (tableNil _ _))) (specsCons partsC_holds (specsCons chkoeo_holds (specsNil _ _))) (oversNil _ _) (fuel := 3000) (depth := 40) (by kernel_rfl) fun d hp hR hA => ?_
 have hp := allTold'_iff.2 hp
 simp only [bytOe, tl] at hp hR hA
 simp only [F32, D.toInt_int] at hp
 obtain ⟨pw, p1, p2, p3, p4⟩ := hp
 obtain ⟨w0, w1, w2⟩ := wrong_iff.1 pw
 have wk := kind_some w0
 have l2 : ((d 2).ints.length : Int) = (d 1).toInt := by omega
 have l6 : ((d 6).ints.length : Int) = (d 5).toInt := by omega
 have e8 := enc_len w2
 have s0 := sz_in (d 0).toInt
 have c0 := five_cut (n := (d 0).toInt) (by omega) (by omega)
 have m0 := put_len (n := (d 0).toInt) (by omega) (by omega)
 have s1 := sz_in (d 1).toInt
 have c1 := five_cut (n := (d 1).toInt) (by omega) (by omega)
 have m1 := put_len (n := (d 1).toInt) (by omega) (by omega)
 have s2 := sz_in (d 5).toInt
 have c2 := five_cut (n := (d 5).toInt) (by omega) (by omega)
 have m2 := put_len (n := (d 5).toInt) (by omega) (by omega)
 have s3 := sz_in (0 : Int)
 have c3 := five_cut (n := (0 : Int)) (by omega) (by omega)
 have m3 := put_len (n := (0 : Int)) (by omega) (by omega)
 have f0 : fineL (List.drop (Int.toNat 0) (d 2).ints) = true := w2
 refine ⟨tellA bytOe_t0, _, _, _, tellA_ok (allTold'_iff.1 ?_), bytOe_y0, dutiesTold_ok ?_⟩
 all_goals simp only [bytOe_t0, bytOe_d0, F1, F2, F3, F32, F33, F80, F81, F82, noteI, D.toInt_int, D.ints_ofInts, c0, c1, c2, c3, l2, l6, put_nilD, put_nilI, ids_nil, cast_z, List.length_append, List.length_nil, tl]
 all_goals first | done | omega | exact True.intro | (and_intros <;> first | done | omega | exact True.intro | exact one_to (by assumption) | (simp only [ints_list, List.map_append, List.map_drop, List.map_take, map_ints, D.ints_ofInts, seg_map, List.append_assoc, List.nil_append, c0, c1, c2, c3, put_nilD, put_nilI, ids_nil, cast_z]; done))

def bytOo : CSpec := { args := [.agg [.sint .i64 (.var 0), .sslice 3 (.int 0) (.var 1) (.var 9) true, .vslice 5 16 (.int 0) (.var 3) (.var 10) true, .sslice 7 (.int 0) (.var 5) (.var 11) true]], next := 8, rows := [zNb13, zNb0, (7, .eseq ⟨.u8, .var 5, .var 6⟩)], pre := [(.eq (.fn 32 (.bi .pair (.var 0) txNb21)) (.int 0), true), (.le (.int 0) (.var 1), true), (.le (.var 1) (.int 5000), true), (.le (.int 0) (.var 5), true), (.le (.var 5) (.int 5000), true), (.le (.int 1) (.var 3), true), (.le (.var 3) (.int 5000), true)], res := .tuple [.sslice 9 (.int 0) zNb18 zNb18 true, .int .i64 0], frows := [zNb0, (9, .seq ⟨5, .u8, .un .len (.fn 82 txNb22), .fn 82 txNb22, true, false⟩)], same := [3, 5, 7] }
abbrev asNb38 : Q × Bool := ((.le (.int 0) (.var 3)), true)
abbrev asNb39 : Q × Bool := ((.le (.var 3) (.int 5000)), true)
abbrev asNb40 : Q × Bool := ((.eq (.fn 32 (.bi .pair (.var 0) txNb21)) (.int 0)), true)
abbrev asNb41 : Q × Bool := ((.fit .i64 (.var 3)), true)
abbrev asNb42 : Q × Bool := ((.le (.var 3) (.int 2147483647)), true)
abbrev asNb43 : Q × Bool := ((.le txNb28 (.int 5)), true)
abbrev asNb44 : Q × Bool := ((.le (.bi .mul txNb36 (.int 2)) (.int 281474976710656)), true)
abbrev asNb45 : Q × Bool := ((.le (.int 1) txNb36), true)
abbrev asNb46 : Q × Bool := ((.le (.bi .add txNb36 (.bi .mul (.int 16) (.bi .sub (.var 3) (.int 0)))) (.int 500000)), true)
abbrev asNb47 : Q × Bool := ((.le (.int 1) zNb20), true)
abbrev asNb48 : Q × Bool := ((.le (.bi .mul txNb39 (.int 2)) (.int 281474976710656)), true)
abbrev asNb49 : Q × Bool := ((.le (.bi .mul (.bi .add txNb39 (.var 5)) (.int 2)) (.int 281474976710656)), true)
def bytOo_t0 : List (Q × Bool) := [asNb12, asNb13, asNb38, asNb39, asNb14, asNb15, asNb40, asNb1, asNb17, asNb18, asNb19, asNb20, asNb21, asNb22, asNb23, asNb24, asNb25, asNb26, asNb27, asNb28, asNb41, asNb42, asNb29, asNb43, asNb44, asNb45, asNb46, asNb32, asNb33, asNb47, asNb35, asNb48, asNb49]
def bytOo_d0 : List Duty := [zNb5, zNb5, zNb5, (false, (.bi .app (.bi .app (.bi .app (.bi .app txNb40 (.tr .cut (.fn 2 zNb11) txNb13 txNb28)) (.fn 81 txNb7)) txNb34) (.var 6)), (.fn 82 txNb22))]
theorem bytOo_y0 : endC bytOo [(9, 51), (3, 3), (5, 5), (7, 7)] 1000 (callC Try.prog (tellA bytOo_t0) [⟨10, [4, 1, 0, 1, 1, 1, 1, 1], numW⟩, ⟨10, [4, 1, 0, 1, 1, 1, 1, 1, 1, 1], idsW⟩] [(60, partsC), (13, chkooo)] [] 3000 40 10 bytOo) = some bytOo_d0 := by kernel_rfl
set_option maxHeartbeats 16000000 in
theorem bytOo_holds : CHolds Try.prog 10 bytOo F := by
 refine cholds_of sound (tableCons numW_holds (tableCons idsW_holds (tableNil _ _))) (specsCons partsC_holds (specsCons chkooo_holds (specsNil _ _))) (oversNil _ _) (fuel := 3000) (depth := 40) (by kernel_rfl) fun d hp hR hA => ?_
 have hp := allTold'_iff.2 hp
 simp only [bytOo, tl] at hp hR hA
 simp only [F32, D.toInt_int] at hp
 obtain ⟨pw, p1, p2, p3, p4, p5, p6⟩ := hp
 obtain ⟨w0, w1, w2⟩ := wrong_iff.1 pw
 have wk := kind_some w0
 have l2 : ((d 2).ints.length : Int) = (d 1).toInt := by omega
 have l6 : ((d 6).ints.length : Int) = (d 5).toInt := by omega
 have e8 := enc_len w2
 have h4 : (d 4).ints.length = (d 4).toList.length := List.length_map ..
 have l4 : ((d 4).toList.length : Int) = (d 3).toInt := by omega
 have l4i : ((d 4).ints.length : Int) = (d 3).toInt := by omega
 have e9 := ids_len (y := (d 4).toList)
 have s0 := sz_in (d 0).toInt
 have c0 := five_cut (n := (d 0).toInt) (by omega) (by omega)
 have m0 := put_len (n := (d 0).toInt) (by omega) (by omega)
 have s1 := sz_in (d 1).toInt
 have c1 := five_cut (n := (d 1).toInt) (by omega) (by omega)
 have m1 := put_len (n := (d 1).toInt) (by omega) (by omega)
 have s2 := sz_in (d 5).toInt
 have c2 := five_cut (n := (d 5).toInt) (by omega) (by omega)
 have m2 := put_len (n := (d 5).toInt) (by omega) (by omega)
 have s3 := sz_in (d 3).toInt
 have c3 := five_cut (n := (d 3).toInt) (by omega) (by omega)
 have m3 := put_len (n := (d 3).toInt) (by omega) (by omega)
 have f0 : fineL (List.drop (Int.toNat 0) (d 2).ints) = true := w2
 refine ⟨tellA bytOo_t0, _, _, _, tellA_ok (allTold'_iff.1 ?_), bytOo_y0, dutiesTold_ok ?_⟩
 all_goals simp only [bytOo_t0, bytOo_d0, F1, F2, F3, F32, F33, F80, F81, F82, noteI, D.toInt_int, D.ints_ofInts, c0, c1, c2, c3, l2, l6, l4, l4i, List.length_append, List.length_nil, tl]
 all_goals first | done | omega | exact True.intro | (and_intros <;> first | done | omega | exact True.intro | exact one_to (by assumption) | (simp only [ints_list, List.map_append, List.map_drop, List.map_take, map_ints, D.ints_ofInts, seg_map, List.append_assoc, List.nil_append, c0, c1, c2, c3, l4, l4i]; done))

def tabB : List LEntry := []
def specsB : List (FuncId × CSpec) := [(60, partsC)]
def oversB : Overs := []
theorem tabB_ok : TableOK Try.prog tabB F := tableNil _ _
theorem specsB_ok : SpecsOK Try.prog specsB F := specsCons partsC_holds (specsNil _ _)
theorem oversB_ok : OversOK Try.prog oversB F := oversNil _ _
end Go.Proofs.Ytmmfjmmldhnpfaa.Nb
