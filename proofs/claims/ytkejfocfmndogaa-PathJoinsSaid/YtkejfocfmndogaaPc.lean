/-
 Contracts of this seat: what loops and calls leave, for all inputs. No condition.
-/
import Derived.Test.YtkejfocfmndogaaSycp
import Derived.Test.YtkejfocfmndogaaSyfm
import Derived.Test.YtkejfocfmndogaaCo
import Derived.Test.YtkejfocfmndogaaShelf
import Derived.Test.YtkejfocfmndogaaPa
import Derived.Test.YtkejfocfmndogaaPb
set_option linter.unusedSimpArgs false
set_option linter.unusedVariables false
namespace Go.Proofs.Ytkejfocfmndogaa.Pc
open Go.RowKit Go.Ev Go.Proofs.Ytkejfocfmndogaa.Co

open Go.Proofs.Ytkejfocfmndogaa.Pa
open Go.Proofs.Ytkejfocfmndogaa.Pb
theorem chk_last {r : List Int} {a n : Int} (h : idxI r = -1) : chkR r a n = if 20 < n + 1 then (3, a) else if (partF r).1 = 0 then (0, 0) else ((partF r).1, a + (partF r).2) := by
 rcases split_idx r with ⟨_, e⟩ | ⟨e, _⟩
 ·unfold chkR
  rw [e]
  rfl
 ·omega
theorem chk_cut {r : List Int} {a n : Int} (h : 0 ≤ idxI r) : chkR r a n = if 20 < n + 1 then (3, a) else if (partF (r.take (idxI r).toNat)).1 = 0 then chkR (r.drop (idxI r + 1).toNat) (a + idxI r + 1) (n + 1) else ((partF (r.take (idxI r).toNat)).1, a + (partF (r.take (idxI r).toNat)).2) := by
 rcases split_idx r with ⟨e, _⟩ | ⟨_, e⟩
 ·omega
 ·have hi := idx_in r
  unfold chkR
  rw [e, chkL, List.length_take, show ((min (idxI r).toNat r.length : Nat) : Int) = idxI r by omega]
theorem chk_stroke {a n : Int} : chkR [47] a n = if 20 < n + 1 then (3, a) else (2, a) := by
 rw [chk_cut (by decide)]
 split
 ·rfl
 ·rw [if_neg (by decide)]
  show ((2 : Int), a + 0) = (2, a)
  rw [Int.add_zero]
theorem ints_take {x : D} {n : Nat} : (D.list (List.take n x.toList)).ints = List.take n x.ints := by
 show (List.take n x.toList).map D.toInt = _
 rw [List.map_take]
 rfl
theorem chk_no0 {r : List Int} {a n : Int} (e : [47] = r) (h : (chkR r a n).1 = 0) : False := by
 rw [← e, chk_stroke] at h
 split at h <;> simp at h
theorem chk_last0 {r : List Int} {a n : Int} (h : idxI r = -1) (g : (chkR r a n).1 = 0) : n + 1 ≤ 20 ∧ (partF r).1 = 0 := by
 rw [chk_last h] at g
 by_cases k : 20 < n + 1
 ·rw [if_pos k] at g; simp at g
 ·rw [if_neg k] at g
  by_cases q : (partF r).1 = 0
  ·exact ⟨by omega, q⟩
  ·rw [if_neg q] at g; exact absurd g q
theorem chk_cut0 {r : List Int} {a n : Int} (h : 0 ≤ idxI r) (g : (chkR r a n).1 = 0) : n + 1 ≤ 20 ∧ (partF (r.take (idxI r).toNat)).1 = 0 ∧ chkR r a n = chkR (r.drop (idxI r + 1).toNat) (a + idxI r + 1) (n + 1) := by
 rw [chk_cut h] at g ⊢
 by_cases k : 20 < n + 1
 ·rw [if_pos k] at g; simp at g
 ·rw [if_neg k] at g ⊢
  by_cases q : (partF (r.take (idxI r).toNat)).1 = 0
  ·exact ⟨by omega, q, by rw [if_pos q]⟩
  ·rw [if_neg q] at g; exact absurd g q
theorem part_at (p : List Int) : 0 ≤ (partF p).2 ∧ (partF p).2 ≤ 60 + p.length := by
 have := may_le p
 rw [part_eq]
 split
 ·simp only; omega
 ·split
  ·simp only; omega
  ·split <;> simp only <;> omega
theorem chk_z : ∀ (l : List (List Int)) (a n : Int), (chkL l a n).1 = 0 → (chkL l a n).2 = 0
 | [], a, n, _ => rfl
 | p :: l, a, n, h => by
  rw [chkL] at h ⊢
  by_cases k : 20 < n + 1
  ·rw [if_pos k] at h; simp at h
  ·rw [if_neg k] at h ⊢
   by_cases q : (partF p).1 = 0
   ·rw [if_pos q] at h ⊢; exact chk_z l _ _ h
   ·rw [if_neg q] at h; exact absurd h q
theorem check_eq (s : List Int) : checkF s = if s = [] then (2, 0) else if 200 < (s.length : Int) then (3, 200) else chkR s 0 0 := rfl

noncomputable def viewT : LSpec := { n := 25, next := 6, pat := [(0, .yieldf 5), (1, .ptr 7 0), (3, .sstr (.var 0) (.var 1)), (4, .bool true)], rows := [(5, .loop 0 [(2, .ptr 9 0), (3, .ptr 11 0)] 39 (rangeAt Try.prog 11 [4, 1, 0, 1, 1, 1])), (7, .cells 9 0 false false [.sstr (.var 3) (.var 4)]), (9, .cells 29 0 false false [.int .i64 0, .int .i64 0]), (11, .cells 3 0 false false [.sint .i64 (.var 2)])], pre := [(.le (.var 3) (.int 200), true), (.le (.int 0) (.var 2), true), (.le (.var 2) (.int 20), true), (.le (.var 0) (.var 3), true), (.eq (.fn 48 (.bi .pair (.var 1) (.bi .pair (.bi .sub (.var 3) (.var 0)) (.bi .pair (.var 2) (.int 0))))) (.int 0), true)], x := 0, fin := [], frows := [(5, .loop 0 [(2, .ptr 9 0), (3, .ptr 11 0)] 39 (rangeAt Try.prog 11 [4, 1, 0, 1, 1, 1])), (9, .cells 29 0 false false [.int .i64 0, .int .i64 0])], same := [5, 7, 9, 11], chg := [0, 1, 3, 4, 5, 6, 8, 9, 10, 11, 12, 13, 14, 15, 16, 17, 18, 19, 20, 21, 22, 23, 24] }
noncomputable def viewE : LSpec := { n := 25, next := 6, pat := [(0, .yieldf 5), (1, .ptr 7 0), (4, .bool false)], rows := [(5, .loop 0 [(2, .ptr 9 0), (3, .ptr 11 0)] 39 (rangeAt Try.prog 11 [4, 1, 0, 1, 1, 1])), (7, .cells 9 0 false false [.sstr (.var 3) (.var 4)]), (9, .cells 29 0 false false [.int .i64 0, .int .i64 0]), (11, .cells 3 0 false false [.sint .i64 (.var 2)])], pre := [(.le (.var 3) (.int 200), true), (.le (.int 0) (.var 2), true), (.le (.var 2) (.int 20), true)], x := 0, fin := [], frows := [(5, .loop 0 [(2, .ptr 9 0), (3, .ptr 11 0)] 39 (rangeAt Try.prog 11 [4, 1, 0, 1, 1, 1])), (9, .cells 29 0 false false [.int .i64 0, .int .i64 0])], same := [5, 7, 9, 11], chg := [0, 1, 3, 4, 5, 6, 8, 9, 10, 11, 12, 13, 14, 15, 16, 17, 18, 19, 20, 21, 22, 23, 24] }
noncomputable def viewY : Nat → LSpec
 | 0 => viewT
 | _ => viewE
abbrev txPc0 : E := (.bi .add (.fn 40 (.bi .pair (.var 1) (.int 0))) (.int 1))
abbrev txPc1 : E := (.bi .pair (.tr .cut (.var 1) (.int 0) (.int 0)) (.int 0))
abbrev txPc2 : E := (.tr .cut (.var 1) (.int 0) (.fn 40 (.bi .pair (.var 1) (.int 0))))
abbrev txPc3 : E := (.bi .pair (.bi .sub (.var 3) (.var 0)) (.bi .pair (.var 2) (.int 0)))
abbrev txPc4 : E := (.bi .pair (.bi .sub (.var 0) (.var 0)) (.bi .pair (.int 0) (.int 0)))
abbrev asPc0 : Q × Bool := ((.fit .i64 (.var 3)), true)
abbrev asPc1 : Q × Bool := ((.fit .i64 (.var 0)), true)
abbrev asPc2 : Q × Bool := ((.fit .i64 (.bi .sub (.var 3) (.var 0))), true)
abbrev asPc3 : Q × Bool := ((.same (.lits [47]) (.var 1)), false)
abbrev asPc4 : Q × Bool := ((.le (.var 0) (.int 100000000000000)), true)
abbrev asPc5 : Q × Bool := ((.le (.int 0) (.fn 40 (.bi .pair (.var 1) (.int 0)))), true)
abbrev asPc6 : Q × Bool := ((.le (.fn 40 (.bi .pair (.var 1) (.int 0))) (.var 0)), true)
abbrev asPc7 : Q × Bool := ((.fit .i64 txPc0), true)
abbrev asPc8 : Q × Bool := ((.le (.int 0) txPc0), true)
abbrev asPc9 : Q × Bool := ((.le txPc0 (.var 0)), true)
abbrev asPc10 : Q × Bool := ((.fit .i64 (.bi .add (.var 2) (.int 1))), true)
abbrev asPc11 : Q × Bool := ((.le (.bi .add (.var 2) (.int 1)) (.int 20)), true)
abbrev asPc12 : Q × Bool := ((.le (.fn 40 (.bi .pair (.var 1) (.int 0))) (.int 1000)), true)
abbrev asPc13 : Q × Bool := ((.eq (.fn 43 (.bi .pair txPc2 (.int 0))) (.int 0)), true)
def viewT_t0 : List (Q × Bool) := [asPc0, asPc1, asPc2, asPc3, asPc4, asPc5, asPc6, asPc7, asPc8, asPc9, asPc10, asPc11, asPc12, asPc13]
def viewT_d0 : List Duty := []
def viewT_h0 : List (Nat × E) := [(2, (.bi .add (.var 2) (.int 1))), (3, (.var 3)), (4, (.var 4)), (0, (.bi .sub (.var 0) txPc0)), (1, (.tr .cut (.var 1) txPc0 (.var 0)))]
theorem viewT_h0_0 : lookE viewT_h0 0 = (.bi .sub (.var 0) txPc0) := rfl
theorem viewT_h0_1 : lookE viewT_h0 1 = (.tr .cut (.var 1) txPc0 (.var 0)) := rfl
theorem viewT_h0_2 : lookE viewT_h0 2 = (.bi .add (.var 2) (.int 1)) := rfl
theorem viewT_h0_3 : lookE viewT_h0 3 = (.var 3) := rfl
theorem viewT_h0_4 : lookE viewT_h0 4 = (.var 4) := rfl
theorem viewT_y0 : nextJ (viewY 0) (viewY 0) viewT_h0 [(11, 11), (9, 9), (7, 7), (5, 5)] (roundC Try.prog [] [(58, idxC), (31, partC)] [] 3000 40 45 [4, 1] (tellA viewT_t0) (viewY 0)) = some viewT_d0 := by kernel_rfl
abbrev asPc14 : Q × Bool := ((.le (.int 0) (.fn 40 (.bi .pair (.var 1) (.int 0)))), false)
abbrev asPc15 : Q × Bool := ((.le (.var 0) (.int 1000)), true)
abbrev asPc16 : Q × Bool := ((.eq (.fn 43 (.bi .pair (.var 1) (.int 0))) (.int 0)), true)
def viewT_t1 : List (Q × Bool) := [asPc0, asPc1, asPc2, asPc3, asPc4, asPc14, asPc10, asPc11, asPc15, asPc16]
def viewT_d1 : List Duty := []
def viewT_h1 : List (Nat × E) := [(2, (.bi .add (.var 2) (.int 1))), (3, (.var 3)), (4, (.var 4))]
theorem viewT_h1_2 : lookE viewT_h1 2 = (.bi .add (.var 2) (.int 1)) := rfl
theorem viewT_h1_3 : lookE viewT_h1 3 = (.var 3) := rfl
theorem viewT_h1_4 : lookE viewT_h1 4 = (.var 4) := rfl
theorem viewT_y1 : nextJ (viewY 0) (viewY 1) viewT_h1 [(11, 11), (9, 9), (7, 7), (5, 5)] (roundC Try.prog [] [(58, idxC), (31, partC)] [] 3000 40 45 [4, 1] (tellA viewT_t1) (viewY 0)) = some viewT_d1 := by kernel_rfl
def viewE_t0 : List (Q × Bool) := []
def viewE_d0 : List Duty := []
theorem viewE_y0 : endD (viewY 1) [(5, 5), (7, 7), (9, 9), (11, 11)] 1000 (roundC Try.prog [] [(58, idxC), (31, partC)] [] 3000 40 45 [4, 1] (tellA viewE_t0) (viewY 1)) = some viewE_d0 := by kernel_rfl
theorem viewY_holds : ∀ i, i < 2 → LHolds Try.prog (loopAt Try.prog 45 [4, 1]) (viewY i) F := by
 refine loop_famC sound (tableNil _ _) (specsCons idxC_holds (specsCons partC_holds (specsNil _ _))) (oversNil _ _) (fuel := 3000) (depth := 40) (by kernel_rfl) (fun i d => match i with | 0 => (d 0).toInt.toNat + 1 | _ => 0) ?_
 intro i hi d hp hR hA
 match i, hi with
 | 0, _ =>
   have hp := allTold'_iff.2 hp
   simp only [viewY, viewT, tl] at hp hR hA
   simp only [F48, D.toInt_int] at hp
   have hi := idx_in (d 1).ints
   have h0 : List.take (d 0).toInt.toNat (d 1).ints = (d 1).ints := List.take_of_length_le (by omega)
   have hs : [47] ≠ (d 1).ints := fun e => chk_no0 e hp.2.2.2.2
   by_cases h : idxI (d 1).ints = -1
   ·obtain ⟨hn, hq⟩ := chk_last0 h hp.2.2.2.2
    have hc := h
    refine ⟨tellA viewT_t1, tellA_ok (allTold'_iff.1 ?_), .inr ⟨1, viewT_h1, _, _, by decide, viewT_y1, dutiesTold_ok ?_, allTold'_iff.1 ?_, ?_⟩⟩
    ·simp only [viewT_t1, F40, F43, F44, F48, F49, ints_take, show Int.toNat 0 = 0 from rfl, List.drop_zero, h0, tl]
     and_intros <;> first | omega | assumption | rfl | (rw [hc]; omega)
    ·simp only [viewT_d1, F40, F43, F44, F48, F49, ints_take, show Int.toNat 0 = 0 from rfl, List.drop_zero, h0, tl]
    ·simp only [viewY, viewT, viewE, viewT_h1_2, viewT_h1_3, viewT_h1_4, F40, F43, F44, F48, F49, ints_take, show Int.toNat 0 = 0 from rfl, List.drop_zero, h0, tl]
     and_intros <;> first | omega | assumption | rfl | (rw [hc]; omega)
    ·simp only [viewT_h1_2, viewT_h1_3, viewT_h1_4, F40, tl]
     omega
   ·obtain ⟨hn, hq, hc⟩ := chk_cut0 (by omega) hp.2.2.2.2
    rw [hc] at hp
    refine ⟨tellA viewT_t0, tellA_ok (allTold'_iff.1 ?_), .inr ⟨0, viewT_h0, _, _, by decide, viewT_y0, dutiesTold_ok ?_, allTold'_iff.1 ?_, ?_⟩⟩
    ·simp only [viewT_t0, F40, F43, F44, F48, F49, ints_take, show Int.toNat 0 = 0 from rfl, List.drop_zero, h0, tl]
     and_intros <;> first | omega | assumption | rfl | (rw [hc]; omega)
    ·simp only [viewT_d0, F40, F43, F44, F48, F49, ints_take, show Int.toNat 0 = 0 from rfl, List.drop_zero, h0, tl]
    ·simp only [viewY, viewT, viewE, viewT_h0_0, viewT_h0_1, viewT_h0_2, viewT_h0_3, viewT_h0_4, F40, F43, F44, F48, F49, ints_take, show Int.toNat 0 = 0 from rfl, List.drop_zero, h0, show (d 3).toInt - ((d 0).toInt - (idxI (d 1).ints + 1)) = (d 3).toInt - (d 0).toInt + idxI (d 1).ints + 1 by omega, tl]
     and_intros <;> first | omega | assumption | rfl | (rw [hc]; omega)
    ·simp only [viewT_h0_0, viewT_h0_1, viewT_h0_2, viewT_h0_3, viewT_h0_4, F40, tl]
     omega
 | 1, _ =>
   have hp := allTold'_iff.2 hp
   simp only [viewY, viewE, tl] at hp hR hA
   refine ⟨tellA viewE_t0, tellA_ok (allTold'_iff.1 ?_), .inl ⟨_, _, _, viewE_y0, dutiesTold_ok ?_⟩⟩
   ·simp only [viewE_t0, tl]
   ·simp only [viewE_d0, tl]
theorem viewT_holds : LHolds Try.prog (loopAt Try.prog 45 [4, 1]) viewT F := viewY_holds 0 (by decide)
theorem viewE_holds : LHolds Try.prog (loopAt Try.prog 45 [4, 1]) viewE F := viewY_holds 1 (by decide)

noncomputable def viewN : LSpec := { n := 25, next := 6, pat := [(0, .yieldf 5), (1, .ptr 7 0), (3, .sstr (.var 0) (.var 1)), (4, .bool true)], rows := [(5, .loop 0 [(2, .ptr 9 0), (3, .ptr 11 0)] 39 (rangeAt Try.prog 11 [4, 1, 0, 1, 1, 1])), (7, .cells 9 0 false false [.sstr (.var 3) (.var 4)]), (9, .cells 29 0 false false [.int .i64 0, .int .i64 0]), (11, .cells 3 0 false false [.sint .i64 (.var 2)])], pre := [(.le (.var 3) (.int 200), true), (.le (.int 0) (.var 2), true), (.le (.var 2) (.int 20), true), (.le (.var 0) (.var 3), true), (.eq (.fn 48 (.bi .pair (.var 1) (.bi .pair (.bi .sub (.var 3) (.var 0)) (.bi .pair (.var 2) (.int 0))))) (.int 0), false)], x := 999999, fin := [], frows := [(5, .loop 1 [(2, .ptr 9 0), (3, .ptr 11 0)] 39 (rangeAt Try.prog 11 [4, 1, 0, 1, 1, 1])), (9, .cells 29 0 false false [.sint .i64 (.fn 48 (.bi .pair (.var 1) (.bi .pair (.bi .sub (.var 3) (.var 0)) (.bi .pair (.var 2) (.int 0))))), .sint .i64 (.fn 49 (.bi .pair (.var 1) (.bi .pair (.bi .sub (.var 3) (.var 0)) (.bi .pair (.var 2) (.int 0)))))])], same := [5, 7, 9, 11], chg := [0, 1, 3, 4, 5, 6, 8, 9, 10, 11, 12, 13, 14, 15, 16, 17, 18, 19, 20, 21, 22, 23, 24] }
def viewN_t0 : List (Q × Bool) := [asPc0, asPc1, asPc2, asPc3, asPc4, asPc5, asPc6, asPc7, asPc8, asPc9, asPc10, asPc11, asPc12, asPc13]
def viewN_d0 : List Duty := [(true, (.fn 48 (.bi .pair (.tr .cut (.var 1) txPc0 (.var 0)) (.bi .pair (.bi .sub (.var 3) (.bi .sub (.var 0) txPc0)) (.bi .pair (.bi .add (.var 2) (.int 1)) (.int 0))))), (.fn 48 (.bi .pair (.var 1) txPc3))), (true, (.fn 49 (.bi .pair (.tr .cut (.var 1) txPc0 (.var 0)) (.bi .pair (.bi .sub (.var 3) (.bi .sub (.var 0) txPc0)) (.bi .pair (.bi .add (.var 2) (.int 1)) (.int 0))))), (.fn 49 (.bi .pair (.var 1) txPc3)))]
def viewN_h0 : List (Nat × E) := [(2, (.bi .add (.var 2) (.int 1))), (3, (.var 3)), (4, (.var 4)), (0, (.bi .sub (.var 0) txPc0)), (1, (.tr .cut (.var 1) txPc0 (.var 0)))]
theorem viewN_h0_0 : lookE viewN_h0 0 = (.bi .sub (.var 0) txPc0) := rfl
theorem viewN_h0_1 : lookE viewN_h0 1 = (.tr .cut (.var 1) txPc0 (.var 0)) := rfl
theorem viewN_h0_2 : lookE viewN_h0 2 = (.bi .add (.var 2) (.int 1)) := rfl
theorem viewN_h0_3 : lookE viewN_h0 3 = (.var 3) := rfl
theorem viewN_h0_4 : lookE viewN_h0 4 = (.var 4) := rfl
theorem viewN_y0 : nextD viewN viewN_h0 [(11, 11), (9, 9), (7, 7), (5, 5)] (roundC Try.prog [] [(58, idxC), (31, partC)] [] 3000 40 45 [4, 1] (tellA viewN_t0) viewN) = some viewN_d0 := by kernel_rfl
abbrev asPc17 : Q × Bool := ((.eq (.fn 43 (.bi .pair (.var 1) (.int 0))) (.int 0)), false)
abbrev asPc18 : Q × Bool := ((.fit .i64 (.bi .add (.bi .sub (.var 3) (.var 0)) (.fn 44 (.bi .pair (.var 1) (.int 0))))), true)
def viewN_t1 : List (Q × Bool) := [asPc0, asPc1, asPc2, asPc3, asPc4, asPc14, asPc10, asPc11, asPc15, asPc17, asPc18]
def viewN_d1 : List Duty := [(true, (.fn 43 (.bi .pair (.var 1) (.int 0))), (.fn 48 (.bi .pair (.var 1) txPc3))), (true, (.bi .add (.bi .sub (.var 3) (.var 0)) (.fn 44 (.bi .pair (.var 1) (.int 0)))), (.fn 49 (.bi .pair (.var 1) txPc3)))]
theorem viewN_y1 : endD viewN [(11, 11), (9, 9), (7, 7), (5, 5)] 1000 (roundC Try.prog [] [(58, idxC), (31, partC)] [] 3000 40 45 [4, 1] (tellA viewN_t1) viewN) = some viewN_d1 := by kernel_rfl
abbrev asPc19 : Q × Bool := ((.le (.bi .add (.var 2) (.int 1)) (.int 20)), false)
def viewN_t2 : List (Q × Bool) := [asPc0, asPc1, asPc2, asPc3, asPc4, asPc14, asPc10, asPc19]
def viewN_d2 : List Duty := [(true, (.int 3), (.fn 48 (.bi .pair (.var 1) txPc3))), (true, (.bi .sub (.var 3) (.var 0)), (.fn 49 (.bi .pair (.var 1) txPc3)))]
theorem viewN_y2 : endD viewN [(11, 11), (9, 9), (7, 7), (5, 5)] 1000 (roundC Try.prog [] [(58, idxC), (31, partC)] [] 3000 40 45 [4, 1] (tellA viewN_t2) viewN) = some viewN_d2 := by kernel_rfl
def viewN_t3 : List (Q × Bool) := [asPc0, asPc1, asPc2, asPc3, asPc4, asPc5, asPc6, asPc7, asPc8, asPc9, asPc10, asPc19]
def viewN_d3 : List Duty := [(true, (.int 3), (.fn 48 (.bi .pair (.var 1) txPc3))), (true, (.bi .sub (.var 3) (.var 0)), (.fn 49 (.bi .pair (.var 1) txPc3)))]
theorem viewN_y3 : endD viewN [(11, 11), (9, 9), (7, 7), (5, 5)] 1000 (roundC Try.prog [] [(58, idxC), (31, partC)] [] 3000 40 45 [4, 1] (tellA viewN_t3) viewN) = some viewN_d3 := by kernel_rfl
abbrev asPc20 : Q × Bool := ((.eq (.fn 43 (.bi .pair txPc2 (.int 0))) (.int 0)), false)
abbrev asPc21 : Q × Bool := ((.fit .i64 (.bi .add (.bi .sub (.var 3) (.var 0)) (.fn 44 (.bi .pair txPc2 (.int 0))))), true)
def viewN_t4 : List (Q × Bool) := [asPc0, asPc1, asPc2, asPc3, asPc4, asPc5, asPc6, asPc7, asPc8, asPc9, asPc10, asPc11, asPc12, asPc20, asPc21]
def viewN_d4 : List Duty := [(true, (.fn 43 (.bi .pair txPc2 (.int 0))), (.fn 48 (.bi .pair (.var 1) txPc3))), (true, (.bi .add (.bi .sub (.var 3) (.var 0)) (.fn 44 (.bi .pair txPc2 (.int 0)))), (.fn 49 (.bi .pair (.var 1) txPc3)))]
theorem viewN_y4 : endD viewN [(11, 11), (9, 9), (7, 7), (5, 5)] 1000 (roundC Try.prog [] [(58, idxC), (31, partC)] [] 3000 40 45 [4, 1] (tellA viewN_t4) viewN) = some viewN_d4 := by kernel_rfl
abbrev asPc22 : Q × Bool := ((.same (.lits [47]) (.var 1)), true)
abbrev asPc23 : Q × Bool := ((.le (.int 0) (.var 0)), true)
abbrev asPc24 : Q × Bool := ((.le (.int 1) (.var 0)), true)
abbrev asPc25 : Q × Bool := ((.eq (.fn 43 txPc1) (.int 0)), false)
abbrev asPc26 : Q × Bool := ((.fit .i64 (.bi .add (.bi .sub (.var 3) (.var 0)) (.fn 44 txPc1))), true)
def viewN_t5 : List (Q × Bool) := [asPc0, asPc1, asPc2, asPc22, asPc23, asPc24, asPc10, asPc11, asPc25, asPc26]
def viewN_d5 : List Duty := [(true, (.fn 43 txPc1), (.fn 48 (.bi .pair (.var 1) txPc3))), (true, (.bi .add (.bi .sub (.var 3) (.var 0)) (.fn 44 txPc1)), (.fn 49 (.bi .pair (.var 1) txPc3)))]
theorem viewN_y5 : endD viewN [(11, 11), (9, 9), (7, 7), (5, 5)] 1000 (roundC Try.prog [] [(58, idxC), (31, partC)] [] 3000 40 45 [4, 1] (tellA viewN_t5) viewN) = some viewN_d5 := by kernel_rfl
def viewN_t6 : List (Q × Bool) := [asPc0, asPc1, asPc2, asPc22, asPc23, asPc24, asPc10, asPc19]
def viewN_d6 : List Duty := [(true, (.int 3), (.fn 48 (.bi .pair (.var 1) txPc3))), (true, (.bi .sub (.var 3) (.var 0)), (.fn 49 (.bi .pair (.var 1) txPc3)))]
theorem viewN_y6 : endD viewN [(11, 11), (9, 9), (7, 7), (5, 5)] 1000 (roundC Try.prog [] [(58, idxC), (31, partC)] [] 3000 40 45 [4, 1] (tellA viewN_t6) viewN) = some viewN_d6 := by kernel_rfl
theorem viewN_holds : LHolds Try.prog (loopAt Try.prog 45 [4, 1]) viewN F := by
 refine loop_roundsC sound (tableNil _ _) (specsCons idxC_holds (specsCons partC_holds (specsNil _ _))) (oversNil _ _) (fuel := 3000) (depth := 40) (by kernel_rfl) (by kernel_rfl) (by kernel_rfl) (fun d => (d 0).toInt.toNat) fun d hp hR hA => ?_
 have hp := allTold'_iff.2 hp
 simp only [viewN, tl] at hp hR hA
 simp only [F48, D.toInt_int] at hp
 have hi := idx_in (d 1).ints
 have h0 : List.take (d 0).toInt.toNat (d 1).ints = (d 1).ints := List.take_of_length_le (by omega)
 by_cases hs : [47] = (d 1).ints
 ·have hc := chk_stroke (a := (d 3).toInt - (d 0).toInt) (n := (d 2).toInt)
  rw [hs] at hc
  have hz : partF (List.take 0 (d 1).ints) = (2, 0) := rfl
  have h1 := congrArg List.length hs
  simp only [List.length_cons, List.length_nil] at h1
  by_cases k : 20 < (d 2).toInt + 1
  ·rw [if_pos k] at hc
   refine ⟨tellA viewN_t6, tellA_ok (allTold'_iff.1 ?_), .inl ⟨_, _, _, viewN_y6, dutiesTold_ok ?_⟩⟩
   ·simp only [viewN_t6, F40, F43, F44, F48, F49, ints_take, show Int.toNat 0 = 0 from rfl, List.drop_zero, h0, hz, tl]
    and_intros <;> first | omega | assumption | rfl
   ·simp only [viewN_d6, F40, F43, F44, F48, F49, ints_take, show Int.toNat 0 = 0 from rfl, List.drop_zero, h0, hc, hz, tl]
  ·rw [if_neg k] at hc
   refine ⟨tellA viewN_t5, tellA_ok (allTold'_iff.1 ?_), .inl ⟨_, _, _, viewN_y5, dutiesTold_ok ?_⟩⟩
   ·simp only [viewN_t5, F40, F43, F44, F48, F49, ints_take, show Int.toNat 0 = 0 from rfl, List.drop_zero, h0, hz, tl]
    and_intros <;> first | omega | assumption | rfl
   ·simp only [viewN_d5, F40, F43, F44, F48, F49, ints_take, show Int.toNat 0 = 0 from rfl, List.drop_zero, h0, hc, hz, tl]
    exact ⟨trivial, Int.add_zero _⟩
 by_cases h : idxI (d 1).ints = -1
 ·have hc := chk_last (a := (d 3).toInt - (d 0).toInt) (n := (d 2).toInt) h
  by_cases k : 20 < (d 2).toInt + 1
  ·rw [if_pos k] at hc
   refine ⟨tellA viewN_t2, tellA_ok (allTold'_iff.1 ?_), .inl ⟨_, _, _, viewN_y2, dutiesTold_ok ?_⟩⟩
   ·simp only [viewN_t2, F40, F43, F44, F48, F49, ints_take, show Int.toNat 0 = 0 from rfl, List.drop_zero, h0, tl]
    and_intros <;> first | omega | assumption | rfl
   ·simp only [viewN_d2, F40, F43, F44, F48, F49, ints_take, show Int.toNat 0 = 0 from rfl, List.drop_zero, h0, hc, tl]
  ·rw [if_neg k] at hc
   by_cases q : (partF (d 1).ints).1 = 0
   ·rw [if_pos q] at hc
    rw [hc] at hp
    exact absurd rfl hp.2.2.2.2
   ·rw [if_neg q] at hc
    have hb := part_at (d 1).ints
    refine ⟨tellA viewN_t1, tellA_ok (allTold'_iff.1 ?_), .inl ⟨_, _, _, viewN_y1, dutiesTold_ok ?_⟩⟩
    ·simp only [viewN_t1, F40, F43, F44, F48, F49, ints_take, show Int.toNat 0 = 0 from rfl, List.drop_zero, h0, tl]
     and_intros <;> first | omega | assumption | rfl
    ·simp only [viewN_d1, F40, F43, F44, F48, F49, ints_take, show Int.toNat 0 = 0 from rfl, List.drop_zero, h0, hc, tl]
 have hc := chk_cut (r := (d 1).ints) (a := (d 3).toInt - (d 0).toInt) (n := (d 2).toInt) (by omega)
 by_cases k : 20 < (d 2).toInt + 1
 ·rw [if_pos k] at hc
  refine ⟨tellA viewN_t3, tellA_ok (allTold'_iff.1 ?_), .inl ⟨_, _, _, viewN_y3, dutiesTold_ok ?_⟩⟩
  ·simp only [viewN_t3, F40, F43, F44, F48, F49, ints_take, show Int.toNat 0 = 0 from rfl, List.drop_zero, h0, tl]
   and_intros <;> first | omega | assumption | rfl
  ·simp only [viewN_d3, F40, F43, F44, F48, F49, ints_take, show Int.toNat 0 = 0 from rfl, List.drop_zero, h0, hc, tl]
 rw [if_neg k] at hc
 by_cases q : (partF ((d 1).ints.take (idxI (d 1).ints).toNat)).1 = 0
 ·rw [if_pos q] at hc
  rw [hc] at hp
  refine ⟨tellA viewN_t0, tellA_ok (allTold'_iff.1 ?_), .inr ⟨viewN_h0, _, _, viewN_y0, dutiesTold_ok ?_, allTold'_iff.1 ?_, ?_⟩⟩
  ·simp only [viewN_t0, F40, F43, F44, F48, F49, ints_take, show Int.toNat 0 = 0 from rfl, List.drop_zero, h0, tl]
   and_intros <;> first | omega | assumption | rfl | (rw [hc]; omega)
  ·simp only [viewN_d0, F40, F43, F44, F48, F49, ints_take, show Int.toNat 0 = 0 from rfl, List.drop_zero, h0, hc, show (d 3).toInt - ((d 0).toInt - (idxI (d 1).ints + 1)) = (d 3).toInt - (d 0).toInt + idxI (d 1).ints + 1 by omega, tl]
  ·simp only [viewN, viewN_h0_0, viewN_h0_1, viewN_h0_2, viewN_h0_3, viewN_h0_4, F40, F43, F44, F48, F49, ints_take, show Int.toNat 0 = 0 from rfl, List.drop_zero, h0, show (d 3).toInt - ((d 0).toInt - (idxI (d 1).ints + 1)) = (d 3).toInt - (d 0).toInt + idxI (d 1).ints + 1 by omega, tl]
   and_intros <;> first | omega | assumption | rfl | (rw [hc]; omega)
  ·simp only [viewN_h0_0, viewN_h0_1, viewN_h0_2, viewN_h0_3, viewN_h0_4, F40, tl]
   omega
 ·rw [if_neg q] at hc
  have hb := part_at ((d 1).ints.take (idxI (d 1).ints).toNat)
  have hb2 : (List.take (idxI (d 1).ints).toNat (d 1).ints).length ≤ (d 1).ints.length := by rw [List.length_take]; omega
  refine ⟨tellA viewN_t4, tellA_ok (allTold'_iff.1 ?_), .inl ⟨_, _, _, viewN_y4, dutiesTold_ok ?_⟩⟩
  ·simp only [viewN_t4, F40, F43, F44, F48, F49, ints_take, show Int.toNat 0 = 0 from rfl, List.drop_zero, h0, tl]
   and_intros <;> first | omega | assumption | rfl
  ·simp only [viewN_d4, F40, F43, F44, F48, F49, ints_take, show Int.toNat 0 = 0 from rfl, List.drop_zero, h0, hc, tl]

def checkC : CSpec := { args := [.sstr (.var 0) (.var 1)], next := 0, rows := [], pre := [(.le (.var 0) (.int 100000000000000), true)], res := .agg [.sint .i64 (.fn 45 (argsE [.var 1])), .sint .i64 (.fn 46 (argsE [.var 1]))], frows := [], same := [] }
abbrev asPc27 : Q × Bool := ((.same (.var 1) (.lits [])), true)
def checkC_t0 : List (Q × Bool) := [asPc27]
def checkC_d0 : List Duty := [(true, (.int 2), (.fn 45 (.bi .pair (.var 1) (.int 0)))), (true, (.int 0), (.fn 46 (.bi .pair (.var 1) (.int 0))))]
theorem checkC_y0 : endC checkC [] 1000 (callC Try.prog (tellA checkC_t0) [⟨45, [4, 1], viewT⟩, ⟨45, [4, 1], viewE⟩, ⟨45, [4, 1], viewN⟩] [] [] 3000 40 11 checkC) = some checkC_d0 := by kernel_rfl
abbrev asPc28 : Q × Bool := ((.same (.var 1) (.lits [])), false)
abbrev asPc29 : Q × Bool := ((.le (.var 0) (.int 200)), false)
def checkC_t1 : List (Q × Bool) := [asPc28, asPc1, asPc29]
def checkC_d1 : List Duty := [(true, (.int 3), (.fn 45 (.bi .pair (.var 1) (.int 0)))), (true, (.int 200), (.fn 46 (.bi .pair (.var 1) (.int 0))))]
theorem checkC_y1 : endC checkC [] 1000 (callC Try.prog (tellA checkC_t1) [⟨45, [4, 1], viewT⟩, ⟨45, [4, 1], viewE⟩, ⟨45, [4, 1], viewN⟩] [] [] 3000 40 11 checkC) = some checkC_d1 := by kernel_rfl
abbrev asPc30 : Q × Bool := ((.le (.var 0) (.int 200)), true)
abbrev asPc31 : Q × Bool := ((.eq (.fn 48 (.bi .pair (.var 1) txPc4)) (.int 0)), true)
def checkC_t2 : List (Q × Bool) := [asPc28, asPc1, asPc30, asPc31]
def checkC_d2 : List Duty := [(true, (.int 0), (.fn 45 (.bi .pair (.var 1) (.int 0)))), (true, (.int 0), (.fn 46 (.bi .pair (.var 1) (.int 0))))]
theorem checkC_y2 : endC checkC [] 1000 (callC Try.prog (tellA checkC_t2) [⟨45, [4, 1], viewT⟩, ⟨45, [4, 1], viewE⟩, ⟨45, [4, 1], viewN⟩] [] [] 3000 40 11 checkC) = some checkC_d2 := by kernel_rfl
abbrev asPc32 : Q × Bool := ((.eq (.fn 48 (.bi .pair (.var 1) txPc4)) (.int 0)), false)
def checkC_t3 : List (Q × Bool) := [asPc28, asPc1, asPc30, asPc32]
def checkC_d3 : List Duty := [(true, (.fn 48 (.bi .pair (.var 1) txPc4)), (.fn 45 (.bi .pair (.var 1) (.int 0)))), (true, (.fn 49 (.bi .pair (.var 1) txPc4)), (.fn 46 (.bi .pair (.var 1) (.int 0))))]
theorem checkC_y3 : endC checkC [] 1000 (callC Try.prog (tellA checkC_t3) [⟨45, [4, 1], viewT⟩, ⟨45, [4, 1], viewE⟩, ⟨45, [4, 1], viewN⟩] [] [] 3000 40 11 checkC) = some checkC_d3 := by kernel_rfl
theorem checkC_holds : CHolds Try.prog 11 checkC F := by
 refine cholds_of sound (tableCons viewT_holds (tableCons viewE_holds (tableCons viewN_holds (tableNil _ _)))) (specsNil _ _) (oversNil _ _) (fuel := 3000) (depth := 40) (by kernel_rfl) fun d hp hR hA => ?_
 have hp := allTold'_iff.2 hp
 simp only [checkC, tl] at hp hR hA
 have hq := check_eq (d 1).ints
 by_cases e : (d 1).ints = []
 ·rw [if_pos e] at hq
  refine ⟨tellA checkC_t0, _, _, _, tellA_ok (allTold'_iff.1 ?_), checkC_y0, dutiesTold_ok ?_⟩
  ·simp only [checkC_t0, tl]
   exact e
  ·simp only [checkC_d0, F45, F46, hq, tl]
 rw [if_neg e] at hq
 by_cases l : 200 < ((d 1).ints.length : Int)
 ·rw [if_pos l] at hq
  refine ⟨tellA checkC_t1, _, _, _, tellA_ok (allTold'_iff.1 ?_), checkC_y1, dutiesTold_ok ?_⟩
  ·simp only [checkC_t1, tl]
   and_intros <;> first | exact e | omega
  ·simp only [checkC_d1, F45, F46, hq, tl]
 rw [if_neg l] at hq
 by_cases z : (chkR (d 1).ints 0 0).1 = 0
 ·have z2 : (chkR (d 1).ints 0 0).2 = 0 := chk_z _ _ _ z
  refine ⟨tellA checkC_t2, _, _, _, tellA_ok (allTold'_iff.1 ?_), checkC_y2, dutiesTold_ok ?_⟩
  ·simp only [checkC_t2, F48, Int.sub_self, tl]
   and_intros <;> first | exact e | omega
  ·simp only [checkC_d2, F45, F46, hq, z, z2, tl]
 ·refine ⟨tellA checkC_t3, _, _, _, tellA_ok (allTold'_iff.1 ?_), checkC_y3, dutiesTold_ok ?_⟩
  ·simp only [checkC_t3, F48, Int.sub_self, tl]
   and_intros <;> first | exact e | omega
  ·simp only [checkC_d3, F45, F46, F48, F49, Int.sub_self, hq, tl]

end Go.Proofs.Ytkejfocfmndogaa.Pc
