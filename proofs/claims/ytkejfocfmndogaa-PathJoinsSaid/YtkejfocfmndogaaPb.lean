/-
 Contracts of this seat: what loops and calls leave, for all inputs. No condition.
-/
import Derived.Test.YtkejfocfmndogaaSycp
import Derived.Test.YtkejfocfmndogaaCo
import Derived.Test.YtkejfocfmndogaaShelf
import Derived.Test.YtkejfocfmndogaaPa
set_option linter.unusedSimpArgs false
set_option linter.unusedVariables false
namespace Go.Proofs.Ytkejfocfmndogaa.Pb
open Go.RowKit Go.Ev Go.Proofs.Ytkejfocfmndogaa.Co

open Go.Proofs.Ytkejfocfmndogaa.Pa
theorem part_eq (p : List Int) : partF p = if p = [] ∨ p = [46] ∨ p = [46, 46] then (2, 0) else if mayN p < p.length then (4, (mayN p : Int)) else if 60 < (p.length : Int) then (3, 60) else (0, 0) := by
 unfold partF
 rw [bad_may]
 by_cases h : mayN p < p.length
 ·rw [if_pos h, if_pos h, if_pos (show (0 : Int) ≤ (mayN p : Int) by omega)]
 ·rw [if_neg h, if_neg h, if_neg (show ¬ (0 : Int) ≤ -1 by omega)]


def partA : LSpec := { n := 33, next := 0, pat := [(17, .sint .i64 (.var 0)), (16, .sint .i64 (.var 5)), (0, .sstr (.var 5) (.var 2))], rows := [], pre := [(.le (.int 0) (.var 0), true), (.le (.var 0) (.fn 54 (.bi .pair (.var 2) (.int 0))), true), (.le (.var 5) (.int 100000000000000), true), (.le (.var 5) (.fn 54 (.bi .pair (.var 2) (.int 0))), true)], x := 0, fin := [(0, .sstr (.var 5) (.var 2))], frows := [], same := [], chg := [0, 3, 16, 17, 18, 19, 20, 21, 22, 23, 24, 27] }
abbrev asPb0 : Q × Bool := ((.le (.var 5) (.var 0)), false)
abbrev asPb1 : Q × Bool := ((.le (.int 0) (.var 0)), true)
abbrev asPb2 : Q × Bool := ((.le (.bi .sel (.var 2) (.var 0)) (.int 32)), false)
abbrev asPb3 : Q × Bool := ((.le (.bi .sel (.var 2) (.var 0)) (.int 126)), true)
abbrev asPb4 : Q × Bool := ((.eq (.bi .sel (.var 2) (.var 0)) (.int 47)), false)
abbrev asPb5 : Q × Bool := ((.fit .i64 (.bi .add (.var 0) (.int 1))), true)
def partA_t0 : List (Q × Bool) := [asPb0, asPb1, asPb2, asPb3, asPb4, asPb5]
def partA_d0 : List Duty := []
def partA_h0 : List (Nat × E) := [(2, (.var 2)), (5, (.var 5)), (0, (.bi .add (.var 0) (.int 1)))]
theorem partA_h0_0 : lookE partA_h0 0 = (.bi .add (.var 0) (.int 1)) := rfl
theorem partA_h0_2 : lookE partA_h0 2 = (.var 2) := rfl
theorem partA_h0_5 : lookE partA_h0 5 = (.var 5) := rfl
theorem partA_y0 : nextD partA partA_h0 [] (roundC Try.prog [] [] [] 3000 40 31 [4, 1, 0, 1, 1] (tellA partA_t0) partA) = some partA_d0 := by kernel_rfl
abbrev asPb6 : Q × Bool := ((.le (.var 5) (.var 0)), true)
def partA_t1 : List (Q × Bool) := [asPb6]
def partA_d1 : List Duty := []
theorem partA_y1 : endD partA [] 1000 (roundC Try.prog [] [] [] 3000 40 31 [4, 1, 0, 1, 1] (tellA partA_t1) partA) = some partA_d1 := by kernel_rfl
theorem partA_holds : LHolds Try.prog (loopAt Try.prog 31 [4, 1, 0, 1, 1]) partA F := by
 refine loop_roundsC sound (tableNil _ _) (specsNil _ _) (oversNil _ _) (fuel := 3000) (depth := 40) (by kernel_rfl) (by kernel_rfl) (by kernel_rfl) (fun d => ((d 5).toInt - (d 0).toInt).toNat) fun d hp hR hA => ?_
 have hp := allTold'_iff.2 hp
 simp only [partA, tl] at hp hR hA
 simp only [F54, D.toInt_int] at hp
 have hl := may_le (d 2).ints
 by_cases h : (d 5).toInt ≤ (d 0).toInt
 ·refine ⟨tellA partA_t1, tellA_ok (allTold'_iff.1 ?_), .inl ⟨_, _, _, partA_y1, dutiesTold_ok ?_⟩⟩
  ·simp only [partA_t1, tl]
   omega
  ·simp only [partA_d1, tl]
 ·obtain ⟨c, hc, hg⟩ := may_good (d 2).ints (d 0).toInt.toNat (by omega)
  refine ⟨tellA partA_t0, tellA_ok (allTold'_iff.1 ?_), .inr ⟨partA_h0, _, _, partA_y0, dutiesTold_ok ?_, allTold'_iff.1 ?_, ?_⟩⟩
  ·simp only [partA_t0, tl]
   rw [hc]
   simp only [Option.getD_some]
   omega
  ·simp only [partA_d0, tl]
  ·simp only [partA, partA_h0_0, partA_h0_2, partA_h0_5, F54, tl]
   omega
  ·simp only [partA_h0_0, partA_h0_2, partA_h0_5, tl]
   omega

def partB : LSpec := { n := 33, next := 1, pat := [(17, .sint .i64 (.var 0)), (16, .sint .i64 (.var 5)), (0, .sstr (.var 5) (.var 2)), (2, .ptr 1 0)], rows := [(1, .cells 29 0 false false [.int .i64 0, .int .i64 0])], pre := [(.le (.int 0) (.var 0), true), (.le (.var 0) (.fn 54 (.bi .pair (.var 2) (.int 0))), true), (.le (.var 5) (.int 100000000000000), true), (.le (.var 5) (.fn 54 (.bi .pair (.var 2) (.int 0))), false)], x := 999999, fin := [(2, .ptr 1 0)], frows := [(1, .cells 29 0 false false [.int .i64 4, .sint .i64 (.fn 54 (.bi .pair (.var 2) (.int 0)))])], same := [1], chg := [0, 2, 3, 16, 17, 18, 19, 20, 21, 22, 23, 24, 25, 26, 27] }
def partB_t0 : List (Q × Bool) := [asPb0, asPb1, asPb2, asPb3, asPb4, asPb5]
def partB_d0 : List Duty := []
def partB_h0 : List (Nat × E) := [(2, (.var 2)), (5, (.var 5)), (0, (.bi .add (.var 0) (.int 1)))]
theorem partB_h0_0 : lookE partB_h0 0 = (.bi .add (.var 0) (.int 1)) := rfl
theorem partB_h0_2 : lookE partB_h0 2 = (.var 2) := rfl
theorem partB_h0_5 : lookE partB_h0 5 = (.var 5) := rfl
theorem partB_y0 : nextD partB partB_h0 [(1, 1)] (roundC Try.prog [] [] [] 3000 40 31 [4, 1, 0, 1, 1] (tellA partB_t0) partB) = some partB_d0 := by kernel_rfl
abbrev asPb7 : Q × Bool := ((.le (.bi .sel (.var 2) (.var 0)) (.int 32)), true)
def partB_t1 : List (Q × Bool) := [asPb0, asPb1, asPb7]
def partB_d1 : List Duty := [(true, (.var 0), (.fn 54 (.bi .pair (.var 2) (.int 0))))]
theorem partB_y1 : endD partB [(1, 1)] 1000 (roundC Try.prog [] [] [] 3000 40 31 [4, 1, 0, 1, 1] (tellA partB_t1) partB) = some partB_d1 := by kernel_rfl
abbrev asPb8 : Q × Bool := ((.le (.bi .sel (.var 2) (.var 0)) (.int 126)), false)
def partB_t2 : List (Q × Bool) := [asPb0, asPb1, asPb2, asPb8]
def partB_d2 : List Duty := [(true, (.var 0), (.fn 54 (.bi .pair (.var 2) (.int 0))))]
theorem partB_y2 : endD partB [(1, 1)] 1000 (roundC Try.prog [] [] [] 3000 40 31 [4, 1, 0, 1, 1] (tellA partB_t2) partB) = some partB_d2 := by kernel_rfl
abbrev asPb9 : Q × Bool := ((.eq (.bi .sel (.var 2) (.var 0)) (.int 47)), true)
def partB_t3 : List (Q × Bool) := [asPb0, asPb1, asPb2, asPb3, asPb9]
def partB_d3 : List Duty := [(true, (.var 0), (.fn 54 (.bi .pair (.var 2) (.int 0))))]
theorem partB_y3 : endD partB [(1, 1)] 1000 (roundC Try.prog [] [] [] 3000 40 31 [4, 1, 0, 1, 1] (tellA partB_t3) partB) = some partB_d3 := by kernel_rfl
theorem partB_holds : LHolds Try.prog (loopAt Try.prog 31 [4, 1, 0, 1, 1]) partB F := by
 refine loop_roundsC sound (tableNil _ _) (specsNil _ _) (oversNil _ _) (fuel := 3000) (depth := 40) (by kernel_rfl) (by kernel_rfl) (by kernel_rfl) (fun d => ((d 5).toInt - (d 0).toInt).toNat) fun d hp hR hA => ?_
 have hp := allTold'_iff.2 hp
 simp only [partB, tl] at hp hR hA
 simp only [F54, D.toInt_int] at hp
 have hl := may_le (d 2).ints
 by_cases h : (d 0).toInt < (mayN (d 2).ints : Nat)
 ·obtain ⟨c, hc, hg⟩ := may_good (d 2).ints (d 0).toInt.toNat (by omega)
  refine ⟨tellA partB_t0, tellA_ok (allTold'_iff.1 ?_), .inr ⟨partB_h0, _, _, partB_y0, dutiesTold_ok ?_, allTold'_iff.1 ?_, ?_⟩⟩
  ·simp only [partB_t0, tl]
   rw [hc]
   simp only [Option.getD_some]
   omega
  ·simp only [partB_d0, tl]
  ·simp only [partB, partB_h0_0, partB_h0_2, partB_h0_5, F54, tl]
   omega
  ·simp only [partB_h0_0, partB_h0_2, partB_h0_5, tl]
   omega
 obtain ⟨c, hc, hg⟩ := may_bad (d 2).ints (by omega)
 have he : (d 0).toInt.toNat = mayN (d 2).ints := by omega
 by_cases k : c ≤ 32
 ·refine ⟨tellA partB_t1, tellA_ok (allTold'_iff.1 ?_), .inl ⟨_, _, _, partB_y1, dutiesTold_ok ?_⟩⟩
  ·simp only [partB_t1, tl]
   rw [he, hc]
   simp only [Option.getD_some]
   omega
  ·simp only [partB_d1, F54, tl]
   omega
 by_cases k2 : 126 < c
 ·refine ⟨tellA partB_t2, tellA_ok (allTold'_iff.1 ?_), .inl ⟨_, _, _, partB_y2, dutiesTold_ok ?_⟩⟩
  ·simp only [partB_t2, tl]
   rw [he, hc]
   simp only [Option.getD_some]
   omega
  ·simp only [partB_d2, F54, tl]
   omega
 ·refine ⟨tellA partB_t3, tellA_ok (allTold'_iff.1 ?_), .inl ⟨_, _, _, partB_y3, dutiesTold_ok ?_⟩⟩
  ·simp only [partB_t3, tl]
   rw [he, hc]
   simp only [Option.getD_some]
   omega
  ·simp only [partB_d3, F54, tl]
   omega

def partC : CSpec := { args := [.sstr (.var 0) (.var 1)], next := 0, rows := [], pre := [(.le (.var 0) (.int 1000), true)], res := .agg [.sint .i64 (.fn 43 (argsE [.var 1])), .sint .i64 (.fn 44 (argsE [.var 1]))], frows := [], same := [] }
abbrev asPb10 : Q × Bool := ((.same (.var 1) (.lits [])), true)
def partC_t0 : List (Q × Bool) := [asPb10]
def partC_d0 : List Duty := [(true, (.int 2), (.fn 43 (.bi .pair (.var 1) (.int 0)))), (true, (.int 0), (.fn 44 (.bi .pair (.var 1) (.int 0))))]
theorem partC_y0 : endC partC [] 1000 (callC Try.prog (tellA partC_t0) [⟨31, [4, 1, 0, 1, 1], partA⟩, ⟨31, [4, 1, 0, 1, 1], partB⟩] [] [] 3000 40 31 partC) = some partC_d0 := by kernel_rfl
abbrev asPb11 : Q × Bool := ((.same (.var 1) (.lits [])), false)
abbrev asPb12 : Q × Bool := ((.same (.var 1) (.lits [46])), true)
def partC_t1 : List (Q × Bool) := [asPb11, asPb12]
def partC_d1 : List Duty := [(true, (.int 2), (.fn 43 (.bi .pair (.var 1) (.int 0)))), (true, (.int 0), (.fn 44 (.bi .pair (.var 1) (.int 0))))]
theorem partC_y1 : endC partC [] 1000 (callC Try.prog (tellA partC_t1) [⟨31, [4, 1, 0, 1, 1], partA⟩, ⟨31, [4, 1, 0, 1, 1], partB⟩] [] [] 3000 40 31 partC) = some partC_d1 := by kernel_rfl
abbrev asPb13 : Q × Bool := ((.same (.var 1) (.lits [46])), false)
abbrev asPb14 : Q × Bool := ((.same (.var 1) (.lits [46, 46])), true)
def partC_t2 : List (Q × Bool) := [asPb11, asPb13, asPb14]
def partC_d2 : List Duty := [(true, (.int 2), (.fn 43 (.bi .pair (.var 1) (.int 0)))), (true, (.int 0), (.fn 44 (.bi .pair (.var 1) (.int 0))))]
theorem partC_y2 : endC partC [] 1000 (callC Try.prog (tellA partC_t2) [⟨31, [4, 1, 0, 1, 1], partA⟩, ⟨31, [4, 1, 0, 1, 1], partB⟩] [] [] 3000 40 31 partC) = some partC_d2 := by kernel_rfl
abbrev asPb15 : Q × Bool := ((.same (.var 1) (.lits [46, 46])), false)
abbrev asPb16 : Q × Bool := ((.fit .i64 (.var 0)), true)
abbrev asPb17 : Q × Bool := ((.le (.int 0) (.fn 54 (.bi .pair (.var 1) (.int 0)))), true)
abbrev asPb18 : Q × Bool := ((.le (.var 0) (.int 100000000000000)), true)
abbrev asPb19 : Q × Bool := ((.le (.var 0) (.fn 54 (.bi .pair (.var 1) (.int 0)))), true)
abbrev asPb20 : Q × Bool := ((.le (.var 0) (.int 60)), true)
def partC_t3 : List (Q × Bool) := [asPb11, asPb13, asPb15, asPb16, asPb17, asPb18, asPb19, asPb20]
def partC_d3 : List Duty := [(true, (.int 0), (.fn 43 (.bi .pair (.var 1) (.int 0)))), (true, (.int 0), (.fn 44 (.bi .pair (.var 1) (.int 0))))]
theorem partC_y3 : endC partC [] 1000 (callC Try.prog (tellA partC_t3) [⟨31, [4, 1, 0, 1, 1], partA⟩, ⟨31, [4, 1, 0, 1, 1], partB⟩] [] [] 3000 40 31 partC) = some partC_d3 := by kernel_rfl
abbrev asPb21 : Q × Bool := ((.le (.var 0) (.fn 54 (.bi .pair (.var 1) (.int 0)))), false)
def partC_t4 : List (Q × Bool) := [asPb11, asPb13, asPb15, asPb16, asPb17, asPb18, asPb21]
def partC_d4 : List Duty := [(true, (.int 4), (.fn 43 (.bi .pair (.var 1) (.int 0)))), (true, (.fn 54 (.bi .pair (.var 1) (.int 0))), (.fn 44 (.bi .pair (.var 1) (.int 0))))]
theorem partC_y4 : endC partC [] 1000 (callC Try.prog (tellA partC_t4) [⟨31, [4, 1, 0, 1, 1], partA⟩, ⟨31, [4, 1, 0, 1, 1], partB⟩] [] [] 3000 40 31 partC) = some partC_d4 := by kernel_rfl
abbrev asPb22 : Q × Bool := ((.le (.var 0) (.int 60)), false)
def partC_t5 : List (Q × Bool) := [asPb11, asPb13, asPb15, asPb16, asPb17, asPb18, asPb19, asPb22]
def partC_d5 : List Duty := [(true, (.int 3), (.fn 43 (.bi .pair (.var 1) (.int 0)))), (true, (.int 60), (.fn 44 (.bi .pair (.var 1) (.int 0))))]
theorem partC_y5 : endC partC [] 1000 (callC Try.prog (tellA partC_t5) [⟨31, [4, 1, 0, 1, 1], partA⟩, ⟨31, [4, 1, 0, 1, 1], partB⟩] [] [] 3000 40 31 partC) = some partC_d5 := by kernel_rfl
theorem partC_holds : CHolds Try.prog 31 partC F := by
 refine cholds_of sound (tableCons partA_holds (tableCons partB_holds (tableNil _ _))) (specsNil _ _) (oversNil _ _) (fuel := 3000) (depth := 40) (by kernel_rfl) fun d hp hR hA => ?_
 have hp := allTold'_iff.2 hp
 simp only [partC, tl] at hp hR hA
 have hl := may_le (d 1).ints
 have hq := part_eq (d 1).ints
 by_cases h0 : (d 1).ints = []
 ·rw [if_pos (Or.inl h0)] at hq
  refine ⟨tellA partC_t0, _, _, _, tellA_ok (allTold'_iff.1 ?_), partC_y0, dutiesTold_ok ?_⟩
  ·simp only [partC_t0, tl]
   exact h0
  ·simp only [partC_d0, F43, F44, hq, tl]
 by_cases h1 : (d 1).ints = [46]
 ·rw [if_pos (Or.inr (Or.inl h1))] at hq
  refine ⟨tellA partC_t1, _, _, _, tellA_ok (allTold'_iff.1 ?_), partC_y1, dutiesTold_ok ?_⟩
  ·simp only [partC_t1, tl]
   exact ⟨h0, h1⟩
  ·simp only [partC_d1, F43, F44, hq, tl]
 by_cases h2 : (d 1).ints = [46, 46]
 ·rw [if_pos (Or.inr (Or.inr h2))] at hq
  refine ⟨tellA partC_t2, _, _, _, tellA_ok (allTold'_iff.1 ?_), partC_y2, dutiesTold_ok ?_⟩
  ·simp only [partC_t2, tl]
   exact ⟨h0, h1, h2⟩
  ·simp only [partC_d2, F43, F44, hq, tl]
 rw [if_neg (fun h => h.elim h0 fun h => h.elim h1 h2)] at hq
 by_cases h3 : mayN (d 1).ints < (d 1).ints.length
 ·rw [if_pos h3] at hq
  refine ⟨tellA partC_t4, _, _, _, tellA_ok (allTold'_iff.1 ?_), partC_y4, dutiesTold_ok ?_⟩
  ·simp only [partC_t4, F54, tl]
   refine ⟨h0, h1, h2, ?_⟩
   omega
  ·simp only [partC_d4, F43, F44, F54, hq, tl]
 rw [if_neg h3] at hq
 by_cases h4 : 60 < ((d 1).ints.length : Int)
 ·rw [if_pos h4] at hq
  refine ⟨tellA partC_t5, _, _, _, tellA_ok (allTold'_iff.1 ?_), partC_y5, dutiesTold_ok ?_⟩
  ·simp only [partC_t5, F54, tl]
   refine ⟨h0, h1, h2, ?_⟩
   omega
  ·simp only [partC_d5, F43, F44, hq, tl]
 ·rw [if_neg h4] at hq
  refine ⟨tellA partC_t3, _, _, _, tellA_ok (allTold'_iff.1 ?_), partC_y3, dutiesTold_ok ?_⟩
  ·simp only [partC_t3, F54, tl]
   refine ⟨h0, h1, h2, ?_⟩
   omega
  ·simp only [partC_d3, F43, F44, hq, tl]

end Go.Proofs.Ytkejfocfmndogaa.Pb
