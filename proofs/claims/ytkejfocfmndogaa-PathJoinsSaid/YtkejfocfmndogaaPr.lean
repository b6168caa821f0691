/-
 Contracts of this seat: what loops and calls leave, for all inputs. No condition.
-/
import Derived.Test.YtkejfocfmndogaaSycp
import Derived.Test.YtkejfocfmndogaaSyfm
import Derived.Test.YtkejfocfmndogaaCo
import Derived.Test.YtkejfocfmndogaaShelf
import Derived.Test.YtkejfocfmndogaaPa
import Derived.Test.YtkejfocfmndogaaPb
import Derived.Test.YtkejfocfmndogaaPh
set_option linter.unusedSimpArgs false
set_option linter.unusedVariables false
namespace Go.Proofs.Ytkejfocfmndogaa.Pr
open Go.RowKit Go.Ev Go.Proofs.Ytkejfocfmndogaa.Co

open Go.Proofs.Ytkejfocfmndogaa.Pa
open Go.Proofs.Ytkejfocfmndogaa.Pb
open Go.Proofs.Ytkejfocfmndogaa.Ph
theorem lt_cmp : ∀ (l m : List Int), (ltInts l m = true ↔ cmpB l m = -1)
 | [], [] => by simp [ltInts, cmpB, lexC]
 | [], _ :: _ => by simp [ltInts, cmpB, lexC]
 | _ :: _, [] => by simp [ltInts, cmpB, lexC]
 | a :: l, b :: m => by
  have := lt_cmp l m
  rw [cmpB_cons]
  simp only [ltInts]
  by_cases k : a = b
  ·subst k; simp [this]
  ·by_cases g : a < b
   ·simp [k, g]
   ·simp [k, g]
theorem idx_none : ∀ {x : List Int}, idxI x < 0 → ∀ c ∈ x, c ≠ 47
 | [], _, c, h => by simp at h
 | a :: x, g, c, h => by
  rw [idxI] at g
  by_cases k : a = 47
  ·rw [if_pos k] at g; omega
  ·rw [if_neg k] at g
   have hi := idx_in x
   rcases List.mem_cons.1 h with rfl | h
   ·exact k
   ·refine idx_none (x := x) ?_ c h
    split at g <;> omega

abbrev txPr0 : E := (.bi .pair (.var 1) (.bi .pair (.var 3) (.int 0)))
def bytesC : CSpec := { args := [.sstr (.var 0) (.var 1), .sstr (.var 2) (.var 3)], next := 0, rows := [], pre := [], res := .sint .i64 (.fn 41 (argsE [.var 1, .var 3])), frows := [], same := [] }
abbrev asPr0 : Q × Bool := ((.less (.var 1) (.var 3)), true)
def bytesC_t0 : List (Q × Bool) := [asPr0]
def bytesC_d0 : List Duty := [(true, (.int (-1)), (.fn 41 txPr0))]
theorem bytesC_y0 : endC bytesC [] 1000 (callC Try.prog (tellA bytesC_t0) [] [(48, cmpC)] [] 3000 40 37 bytesC) = some bytesC_d0 := by kernel_rfl
abbrev asPr1 : Q × Bool := ((.less (.var 1) (.var 3)), false)
abbrev asPr2 : Q × Bool := ((.less (.var 3) (.var 1)), true)
def bytesC_t1 : List (Q × Bool) := [asPr1, asPr2]
def bytesC_d1 : List Duty := [(true, (.int 1), (.fn 41 txPr0))]
theorem bytesC_y1 : endC bytesC [] 1000 (callC Try.prog (tellA bytesC_t1) [] [(48, cmpC)] [] 3000 40 37 bytesC) = some bytesC_d1 := by kernel_rfl
abbrev asPr3 : Q × Bool := ((.less (.var 3) (.var 1)), false)
def bytesC_t2 : List (Q × Bool) := [asPr1, asPr3]
def bytesC_d2 : List Duty := [(true, (.int 0), (.fn 41 txPr0))]
theorem bytesC_y2 : endC bytesC [] 1000 (callC Try.prog (tellA bytesC_t2) [] [(48, cmpC)] [] 3000 40 37 bytesC) = some bytesC_d2 := by kernel_rfl
theorem bytesC_holds : CHolds Try.prog 37 bytesC F := by
 refine cholds_of sound (tableNil _ _) (specsCons cmpC_holds (specsNil _ _)) (oversNil _ _) (fuel := 3000) (depth := 40) (by kernel_rfl) fun d hp hR hA => ?_
 have hp := allTold'_iff.2 hp
 simp only [bytesC, tl] at hp hR hA
 have h1 := lt_cmp (d 1).ints (d 3).ints
 have h2 := lt_cmp (d 3).ints (d 1).ints
 have h3 := cmpB_ord.anti (d 1).ints (d 3).ints
 have h4 := cmpB_ord.low (d 1).ints (d 3).ints
 by_cases a : ltInts (d 1).ints (d 3).ints = true
 ·have a1 := h1.1 a
  refine ⟨tellA bytesC_t0, _, _, _, tellA_ok (allTold'_iff.1 ?_), bytesC_y0, dutiesTold_ok ?_⟩
  ·simp only [bytesC_t0, tl]
   exact a
  ·simp only [bytesC_d0, F41, tl]
   omega
 have a1 : ¬ cmpB (d 1).ints (d 3).ints = -1 := fun h => a (h1.2 h)
 by_cases b : ltInts (d 3).ints (d 1).ints = true
 ·have b1 := h2.1 b
  refine ⟨tellA bytesC_t1, _, _, _, tellA_ok (allTold'_iff.1 ?_), bytesC_y1, dutiesTold_ok ?_⟩
  ·simp only [bytesC_t1, tl]
   exact ⟨Bool.eq_false_iff.2 a, b⟩
  ·simp only [bytesC_d1, F41, tl]
   omega
 ·have b1 : ¬ cmpB (d 3).ints (d 1).ints = -1 := fun h => b (h2.2 h)
  refine ⟨tellA bytesC_t2, _, _, _, tellA_ok (allTold'_iff.1 ?_), bytesC_y2, dutiesTold_ok ?_⟩
  ·simp only [bytesC_t2, tl]
   exact ⟨Bool.eq_false_iff.2 a, Bool.eq_false_iff.2 b⟩
  ·simp only [bytesC_d2, F41, tl]
   omega

def rpA : LSpec := { n := 35, next := 0, pat := [(4, .sint .i64 (.var 0)), (0, .sstr (.var 5) (.var 2))], rows := [], pre := [(.le (.int 0) (.var 0), true), (.le (.var 0) (.fn 54 (.bi .pair (.var 2) (.int 0))), true), (.le (.var 5) (.int 100000000000000), true), (.le (.var 5) (.fn 54 (.bi .pair (.var 2) (.int 0))), true)], x := 0, fin := [(0, .sstr (.var 5) (.var 2))], frows := [], same := [], chg := [0, 4, 15, 16, 17, 18, 19, 20, 21, 22, 23, 24, 25, 26, 27, 28, 29, 30] }
abbrev asPr4 : Q × Bool := ((.fit .i64 (.var 5)), true)
abbrev asPr5 : Q × Bool := ((.le (.var 5) (.var 0)), false)
abbrev asPr6 : Q × Bool := ((.le (.int 0) (.var 0)), true)
abbrev asPr7 : Q × Bool := ((.le (.int 33) (.bi .sel (.var 2) (.var 0))), true)
abbrev asPr8 : Q × Bool := ((.le (.bi .sel (.var 2) (.var 0)) (.int 126)), true)
abbrev asPr9 : Q × Bool := ((.fit .i64 (.bi .add (.var 0) (.int 1))), true)
def rpA_t0 : List (Q × Bool) := [asPr4, asPr5, asPr6, asPr7, asPr8, asPr9]
def rpA_d0 : List Duty := []
def rpA_h0 : List (Nat × E) := [(5, (.var 5)), (2, (.var 2)), (0, (.bi .add (.var 0) (.int 1)))]
theorem rpA_h0_0 : lookE rpA_h0 0 = (.bi .add (.var 0) (.int 1)) := rfl
theorem rpA_h0_2 : lookE rpA_h0 2 = (.var 2) := rfl
theorem rpA_h0_5 : lookE rpA_h0 5 = (.var 5) := rfl
theorem rpA_y0 : nextD rpA rpA_h0 [] (roundC Try.prog [] [] [] 3000 40 33 [4, 1, 0, 1, 1] (tellA rpA_t0) rpA) = some rpA_d0 := by kernel_rfl
abbrev asPr10 : Q × Bool := ((.le (.var 5) (.var 0)), true)
def rpA_t1 : List (Q × Bool) := [asPr4, asPr10]
def rpA_d1 : List Duty := []
theorem rpA_y1 : endD rpA [] 1000 (roundC Try.prog [] [] [] 3000 40 33 [4, 1, 0, 1, 1] (tellA rpA_t1) rpA) = some rpA_d1 := by kernel_rfl
theorem rpA_holds : LHolds Try.prog (loopAt Try.prog 33 [4, 1, 0, 1, 1]) rpA F := by
 refine loop_roundsC sound (tableNil _ _) (specsNil _ _) (oversNil _ _) (fuel := 3000) (depth := 40) (by kernel_rfl) (by kernel_rfl) (by kernel_rfl) (fun d => ((d 5).toInt - (d 0).toInt).toNat) fun d hp hR hA => ?_
 have hp := allTold'_iff.2 hp
 simp only [rpA, tl] at hp hR hA
 simp only [F54, D.toInt_int] at hp
 have hl := may_le (d 2).ints
 by_cases h : (d 5).toInt ≤ (d 0).toInt
 ·refine ⟨tellA rpA_t1, tellA_ok (allTold'_iff.1 ?_), .inl ⟨_, _, _, rpA_y1, dutiesTold_ok ?_⟩⟩
  ·simp only [rpA_t1, tl]
   omega
  ·simp only [rpA_d1, tl]
 ·obtain ⟨c, hc, hg⟩ := may_good (d 2).ints (d 0).toInt.toNat (by omega)
  refine ⟨tellA rpA_t0, tellA_ok (allTold'_iff.1 ?_), .inr ⟨rpA_h0, _, _, rpA_y0, dutiesTold_ok ?_, allTold'_iff.1 ?_, ?_⟩⟩
  ·simp only [rpA_t0, tl]
   rw [hc]
   simp only [Option.getD_some]
   omega
  ·simp only [rpA_d0, tl]
  ·simp only [rpA, rpA_h0_0, rpA_h0_2, rpA_h0_5, F54, tl]
   omega
  ·simp only [rpA_h0_0, rpA_h0_2, rpA_h0_5, tl]
   omega

def rpB : LSpec := { n := 35, next := 0, pat := [(4, .sint .i64 (.var 0)), (0, .sstr (.var 5) (.var 2))], rows := [], pre := [(.le (.int 0) (.var 0), true), (.le (.var 0) (.fn 54 (.bi .pair (.var 2) (.int 0))), true), (.le (.var 5) (.int 100000000000000), true), (.le (.var 5) (.fn 54 (.bi .pair (.var 2) (.int 0))), false), (.le (.int 0) (.fn 40 (.bi .pair (.var 2) (.int 0))), false)], x := 999999, fin := [(2, .int .i64 4), (3, .sint .i64 (.fn 54 (.bi .pair (.var 2) (.int 0))))], frows := [], same := [], chg := [0, 2, 3, 4, 15, 16, 17, 18, 19, 20, 21, 22, 23, 24, 25, 26, 27, 28, 29, 30, 31] }
def rpB_t0 : List (Q × Bool) := [asPr4, asPr5, asPr6, asPr7, asPr8, asPr9]
def rpB_d0 : List Duty := []
def rpB_h0 : List (Nat × E) := [(5, (.var 5)), (2, (.var 2)), (0, (.bi .add (.var 0) (.int 1)))]
theorem rpB_h0_0 : lookE rpB_h0 0 = (.bi .add (.var 0) (.int 1)) := rfl
theorem rpB_h0_2 : lookE rpB_h0 2 = (.var 2) := rfl
theorem rpB_h0_5 : lookE rpB_h0 5 = (.var 5) := rfl
theorem rpB_y0 : nextD rpB rpB_h0 [] (roundC Try.prog [] [] [] 3000 40 33 [4, 1, 0, 1, 1] (tellA rpB_t0) rpB) = some rpB_d0 := by kernel_rfl
abbrev asPr11 : Q × Bool := ((.le (.int 33) (.bi .sel (.var 2) (.var 0))), false)
def rpB_t1 : List (Q × Bool) := [asPr4, asPr5, asPr6, asPr11]
def rpB_d1 : List Duty := [(true, (.var 0), (.fn 54 (.bi .pair (.var 2) (.int 0))))]
theorem rpB_y1 : endD rpB [] 1000 (roundC Try.prog [] [] [] 3000 40 33 [4, 1, 0, 1, 1] (tellA rpB_t1) rpB) = some rpB_d1 := by kernel_rfl
abbrev asPr12 : Q × Bool := ((.le (.bi .sel (.var 2) (.var 0)) (.int 126)), false)
def rpB_t2 : List (Q × Bool) := [asPr4, asPr5, asPr6, asPr7, asPr12]
def rpB_d2 : List Duty := [(true, (.var 0), (.fn 54 (.bi .pair (.var 2) (.int 0))))]
theorem rpB_y2 : endD rpB [] 1000 (roundC Try.prog [] [] [] 3000 40 33 [4, 1, 0, 1, 1] (tellA rpB_t2) rpB) = some rpB_d2 := by kernel_rfl
theorem rpB_holds : LHolds Try.prog (loopAt Try.prog 33 [4, 1, 0, 1, 1]) rpB F := by
 refine loop_roundsC sound (tableNil _ _) (specsNil _ _) (oversNil _ _) (fuel := 3000) (depth := 40) (by kernel_rfl) (by kernel_rfl) (by kernel_rfl) (fun d => ((d 5).toInt - (d 0).toInt).toNat) fun d hp hR hA => ?_
 have hp := allTold'_iff.2 hp
 simp only [rpB, tl] at hp hR hA
 simp only [F54, F40, D.toInt_int] at hp
 have hl := may_le (d 2).ints
 by_cases h : (d 0).toInt < (mayN (d 2).ints : Nat)
 ·obtain ⟨c, hc, hg⟩ := may_good (d 2).ints (d 0).toInt.toNat (by omega)
  refine ⟨tellA rpB_t0, tellA_ok (allTold'_iff.1 ?_), .inr ⟨rpB_h0, _, _, rpB_y0, dutiesTold_ok ?_, allTold'_iff.1 ?_, ?_⟩⟩
  ·simp only [rpB_t0, tl]
   rw [hc]
   simp only [Option.getD_some]
   omega
  ·simp only [rpB_d0, tl]
  ·simp only [rpB, rpB_h0_0, rpB_h0_2, rpB_h0_5, F54, F40, tl]
   omega
  ·simp only [rpB_h0_0, rpB_h0_2, rpB_h0_5, tl]
   omega
 obtain ⟨c, hc, hg⟩ := may_bad (d 2).ints (by omega)
 have hn := idx_none (x := (d 2).ints) (by omega) c (List.mem_of_getElem? hc)
 have he : (d 0).toInt.toNat = mayN (d 2).ints := by omega
 by_cases k : c ≤ 32
 ·refine ⟨tellA rpB_t1, tellA_ok (allTold'_iff.1 ?_), .inl ⟨_, _, _, rpB_y1, dutiesTold_ok ?_⟩⟩
  ·simp only [rpB_t1, tl]
   rw [he, hc]
   simp only [Option.getD_some]
   omega
  ·simp only [rpB_d1, F54, tl]
   omega
 ·refine ⟨tellA rpB_t2, tellA_ok (allTold'_iff.1 ?_), .inl ⟨_, _, _, rpB_y2, dutiesTold_ok ?_⟩⟩
  ·simp only [rpB_t2, tl]
   rw [he, hc]
   simp only [Option.getD_some]
   omega
  ·simp only [rpB_d2, F54, tl]
   omega

def rpC : CSpec := { args := [.sstr (.var 0) (.var 1)], next := 0, rows := [], pre := [(.le (.var 0) (.int 1000), true), (.le (.int 0) (.fn 40 (.bi .pair (.var 1) (.int 0))), false)], res := .tuple [.sint .i64 (.fn 43 (argsE [.var 1])), .sint .i64 (.fn 44 (argsE [.var 1]))], frows := [], same := [] }
abbrev asPr13 : Q × Bool := ((.same (.var 1) (.lits [])), true)
def rpC_t0 : List (Q × Bool) := [asPr13]
def rpC_d0 : List Duty := [(true, (.int 2), (.fn 43 (.bi .pair (.var 1) (.int 0)))), (true, (.int 0), (.fn 44 (.bi .pair (.var 1) (.int 0))))]
theorem rpC_y0 : endC rpC [] 1000 (callC Try.prog (tellA rpC_t0) [⟨33, [4, 1, 0, 1, 1], rpA⟩, ⟨33, [4, 1, 0, 1, 1], rpB⟩] [] [] 3000 40 33 rpC) = some rpC_d0 := by kernel_rfl
abbrev asPr14 : Q × Bool := ((.same (.var 1) (.lits [])), false)
abbrev asPr15 : Q × Bool := ((.same (.var 1) (.lits [46])), true)
def rpC_t1 : List (Q × Bool) := [asPr14, asPr15]
def rpC_d1 : List Duty := [(true, (.int 2), (.fn 43 (.bi .pair (.var 1) (.int 0)))), (true, (.int 0), (.fn 44 (.bi .pair (.var 1) (.int 0))))]
theorem rpC_y1 : endC rpC [] 1000 (callC Try.prog (tellA rpC_t1) [⟨33, [4, 1, 0, 1, 1], rpA⟩, ⟨33, [4, 1, 0, 1, 1], rpB⟩] [] [] 3000 40 33 rpC) = some rpC_d1 := by kernel_rfl
abbrev asPr16 : Q × Bool := ((.same (.var 1) (.lits [46])), false)
abbrev asPr17 : Q × Bool := ((.same (.var 1) (.lits [46, 46])), true)
def rpC_t2 : List (Q × Bool) := [asPr14, asPr16, asPr17]
def rpC_d2 : List Duty := [(true, (.int 2), (.fn 43 (.bi .pair (.var 1) (.int 0)))), (true, (.int 0), (.fn 44 (.bi .pair (.var 1) (.int 0))))]
theorem rpC_y2 : endC rpC [] 1000 (callC Try.prog (tellA rpC_t2) [⟨33, [4, 1, 0, 1, 1], rpA⟩, ⟨33, [4, 1, 0, 1, 1], rpB⟩] [] [] 3000 40 33 rpC) = some rpC_d2 := by kernel_rfl
abbrev asPr18 : Q × Bool := ((.same (.var 1) (.lits [46, 46])), false)
abbrev asPr19 : Q × Bool := ((.le (.int 0) (.fn 54 (.bi .pair (.var 1) (.int 0)))), true)
abbrev asPr20 : Q × Bool := ((.le (.var 0) (.int 100000000000000)), true)
abbrev asPr21 : Q × Bool := ((.le (.var 0) (.fn 54 (.bi .pair (.var 1) (.int 0)))), true)
abbrev asPr22 : Q × Bool := ((.fit .i64 (.var 0)), true)
abbrev asPr23 : Q × Bool := ((.le (.var 0) (.int 60)), true)
def rpC_t3 : List (Q × Bool) := [asPr14, asPr16, asPr18, asPr19, asPr20, asPr21, asPr22, asPr23]
def rpC_d3 : List Duty := [(true, (.int 0), (.fn 43 (.bi .pair (.var 1) (.int 0)))), (true, (.int 0), (.fn 44 (.bi .pair (.var 1) (.int 0))))]
theorem rpC_y3 : endC rpC [] 1000 (callC Try.prog (tellA rpC_t3) [⟨33, [4, 1, 0, 1, 1], rpA⟩, ⟨33, [4, 1, 0, 1, 1], rpB⟩] [] [] 3000 40 33 rpC) = some rpC_d3 := by kernel_rfl
abbrev asPr24 : Q × Bool := ((.le (.var 0) (.fn 54 (.bi .pair (.var 1) (.int 0)))), false)
abbrev asPr25 : Q × Bool := ((.le (.int 0) (.fn 40 (.bi .pair (.var 1) (.int 0)))), false)
def rpC_t4 : List (Q × Bool) := [asPr14, asPr16, asPr18, asPr19, asPr20, asPr24, asPr25]
def rpC_d4 : List Duty := [(true, (.int 4), (.fn 43 (.bi .pair (.var 1) (.int 0)))), (true, (.fn 54 (.bi .pair (.var 1) (.int 0))), (.fn 44 (.bi .pair (.var 1) (.int 0))))]
theorem rpC_y4 : endC rpC [] 1000 (callC Try.prog (tellA rpC_t4) [⟨33, [4, 1, 0, 1, 1], rpA⟩, ⟨33, [4, 1, 0, 1, 1], rpB⟩] [] [] 3000 40 33 rpC) = some rpC_d4 := by kernel_rfl
abbrev asPr26 : Q × Bool := ((.le (.var 0) (.int 60)), false)
def rpC_t5 : List (Q × Bool) := [asPr14, asPr16, asPr18, asPr19, asPr20, asPr21, asPr22, asPr26]
def rpC_d5 : List Duty := [(true, (.int 3), (.fn 43 (.bi .pair (.var 1) (.int 0)))), (true, (.int 60), (.fn 44 (.bi .pair (.var 1) (.int 0))))]
theorem rpC_y5 : endC rpC [] 1000 (callC Try.prog (tellA rpC_t5) [⟨33, [4, 1, 0, 1, 1], rpA⟩, ⟨33, [4, 1, 0, 1, 1], rpB⟩] [] [] 3000 40 33 rpC) = some rpC_d5 := by kernel_rfl
theorem rpC_holds : CHolds Try.prog 33 rpC F := by
 refine cholds_of sound (tableCons rpA_holds (tableCons rpB_holds (tableNil _ _))) (specsNil _ _) (oversNil _ _) (fuel := 3000) (depth := 40) (by kernel_rfl) fun d hp hR hA => ?_
 have hp := allTold'_iff.2 hp
 simp only [rpC, tl] at hp hR hA
 have hl := may_le (d 1).ints
 have hq := part_eq (d 1).ints
 by_cases h0 : (d 1).ints = []
 ·rw [if_pos (Or.inl h0)] at hq
  refine ⟨tellA rpC_t0, _, _, _, tellA_ok (allTold'_iff.1 ?_), rpC_y0, dutiesTold_ok ?_⟩
  ·simp only [rpC_t0, tl]
   exact h0
  ·simp only [rpC_d0, F43, F44, hq, tl]
 by_cases h1 : (d 1).ints = [46]
 ·rw [if_pos (Or.inr (Or.inl h1))] at hq
  refine ⟨tellA rpC_t1, _, _, _, tellA_ok (allTold'_iff.1 ?_), rpC_y1, dutiesTold_ok ?_⟩
  ·simp only [rpC_t1, tl]
   exact ⟨h0, h1⟩
  ·simp only [rpC_d1, F43, F44, hq, tl]
 by_cases h2 : (d 1).ints = [46, 46]
 ·rw [if_pos (Or.inr (Or.inr h2))] at hq
  refine ⟨tellA rpC_t2, _, _, _, tellA_ok (allTold'_iff.1 ?_), rpC_y2, dutiesTold_ok ?_⟩
  ·simp only [rpC_t2, tl]
   exact ⟨h0, h1, h2⟩
  ·simp only [rpC_d2, F43, F44, hq, tl]
 rw [if_neg (fun h => h.elim h0 fun h => h.elim h1 h2)] at hq
 by_cases h3 : mayN (d 1).ints < (d 1).ints.length
 ·rw [if_pos h3] at hq
  refine ⟨tellA rpC_t4, _, _, _, tellA_ok (allTold'_iff.1 ?_), rpC_y4, dutiesTold_ok ?_⟩
  ·simp only [rpC_t4, F54, tl]
   refine ⟨h0, h1, h2, ?_⟩
   omega
  ·simp only [rpC_d4, F43, F44, F54, hq, tl]
 rw [if_neg h3] at hq
 by_cases h4 : 60 < ((d 1).ints.length : Int)
 ·rw [if_pos h4] at hq
  refine ⟨tellA rpC_t5, _, _, _, tellA_ok (allTold'_iff.1 ?_), rpC_y5, dutiesTold_ok ?_⟩
  ·simp only [rpC_t5, F54, tl]
   refine ⟨h0, h1, h2, ?_⟩
   omega
  ·simp only [rpC_d5, F43, F44, hq, tl]
 ·rw [if_neg h4] at hq
  refine ⟨tellA rpC_t3, _, _, _, tellA_ok (allTold'_iff.1 ?_), rpC_y3, dutiesTold_ok ?_⟩
  ·simp only [rpC_t3, F54, tl]
   refine ⟨h0, h1, h2, ?_⟩
   omega
  ·simp only [rpC_d3, F43, F44, hq, tl]

end Go.Proofs.Ytkejfocfmndogaa.Pr
