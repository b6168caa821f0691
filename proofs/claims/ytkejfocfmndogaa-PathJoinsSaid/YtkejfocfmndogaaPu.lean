/-
 Contracts of this seat: what loops and calls leave, for all inputs. No condition.
-/
import Derived.Test.YtkejfocfmndogaaSycp
import Derived.Test.YtkejfocfmndogaaSyfm
import Derived.Test.YtkejfocfmndogaaCo
import Derived.Test.YtkejfocfmndogaaShelf
import Derived.Test.YtkejfocfmndogaaPa
import Derived.Test.YtkejfocfmndogaaPb
import Derived.Test.YtkejfocfmndogaaPh
import Derived.Test.YtkejfocfmndogaaPr
import Derived.Test.YtkejfocfmndogaaPs
set_option linter.unusedSimpArgs false
set_option linter.unusedVariables false
namespace Go.Proofs.Ytkejfocfmndogaa.Pu
open Go.RowKit Go.Ev Go.Proofs.Ytkejfocfmndogaa.Co

open Go.Proofs.Ytkejfocfmndogaa.Pa
open Go.Proofs.Ytkejfocfmndogaa.Pb
open Go.Proofs.Ytkejfocfmndogaa.Ph
open Go.Proofs.Ytkejfocfmndogaa.Pr
open Go.Proofs.Ytkejfocfmndogaa.Ps
theorem vis_le : ∀ l : List Int, visN l ≤ l.length
 | [] => Nat.le_refl 0
 | c :: l => by
  have := vis_le l
  simp only [visN, List.length_cons]
  split <;> omega
theorem vis_good : ∀ (l : List Int) (i : Nat), i < visN l → ∃ c, l[i]? = some c ∧ (32 < c ∧ c ≤ 126)
 | [], i, h => by simp [visN] at h
 | c :: l, i, h => by
  simp only [visN] at h
  split at h
  ·rename_i k
   cases i with
   | zero => exact ⟨c, rfl, k⟩
   | succ i => exact vis_good l i (by omega)
  ·omega
theorem vis_bad : ∀ (l : List Int), visN l < l.length → ∃ c, l[visN l]? = some c ∧ ¬ (32 < c ∧ c ≤ 126)
 | [], h => by simp [visN] at h
 | c :: l, h => by
  by_cases k : 32 < c ∧ c ≤ 126
  ·simp only [visN, if_pos k, List.length_cons] at h ⊢
   obtain ⟨a, h1, h2⟩ := vis_bad l (by omega)
   exact ⟨a, h1, h2⟩
  ·simp only [visN, if_neg k]
   exact ⟨c, rfl, k⟩
theorem stroke_not {x : List Int} (h : 0 ≤ idxI x) : x ≠ [] ∧ x ≠ [46] ∧ x ≠ [46, 46] := by
 refine ⟨?_, ?_, ?_⟩ <;> rintro rfl <;> exact absurd h (by decide)


def rvA : LSpec := { n := 35, next := 0, pat := [(4, .sint .i64 (.var 0)), (0, .sstr (.var 5) (.var 2))], rows := [], pre := [(.le (.int 0) (.var 0), true), (.le (.var 0) (.fn 66 (.bi .pair (.var 2) (.int 0))), true), (.le (.var 5) (.int 100000000000000), true), (.le (.var 5) (.fn 66 (.bi .pair (.var 2) (.int 0))), true)], x := 0, fin := [(0, .sstr (.var 5) (.var 2))], frows := [], same := [], chg := [0, 4, 15, 16, 17, 18, 19, 20, 21, 22, 23, 24, 25, 26, 27, 28, 29, 30] }
abbrev asPu0 : Q × Bool := ((.fit .i64 (.var 5)), true)
abbrev asPu1 : Q × Bool := ((.le (.var 5) (.var 0)), false)
abbrev asPu2 : Q × Bool := ((.le (.int 0) (.var 0)), true)
abbrev asPu3 : Q × Bool := ((.le (.int 33) (.bi .sel (.var 2) (.var 0))), true)
abbrev asPu4 : Q × Bool := ((.le (.bi .sel (.var 2) (.var 0)) (.int 126)), true)
abbrev asPu5 : Q × Bool := ((.fit .i64 (.bi .add (.var 0) (.int 1))), true)
def rvA_t0 : List (Q × Bool) := [asPu0, asPu1, asPu2, asPu3, asPu4, asPu5]
def rvA_d0 : List Duty := []
def rvA_h0 : List (Nat × E) := [(5, (.var 5)), (2, (.var 2)), (0, (.bi .add (.var 0) (.int 1)))]
theorem rvA_h0_0 : lookE rvA_h0 0 = (.bi .add (.var 0) (.int 1)) := rfl
theorem rvA_h0_2 : lookE rvA_h0 2 = (.var 2) := rfl
theorem rvA_h0_5 : lookE rvA_h0 5 = (.var 5) := rfl
theorem rvA_y0 : nextD rvA rvA_h0 [] (roundC Try.prog [] [] [] 3000 40 33 [4, 1, 0, 1, 1] (tellA rvA_t0) rvA) = some rvA_d0 := by kernel_rfl
abbrev asPu6 : Q × Bool := ((.le (.var 5) (.var 0)), true)
def rvA_t1 : List (Q × Bool) := [asPu0, asPu6]
def rvA_d1 : List Duty := []
theorem rvA_y1 : endD rvA [] 1000 (roundC Try.prog [] [] [] 3000 40 33 [4, 1, 0, 1, 1] (tellA rvA_t1) rvA) = some rvA_d1 := by kernel_rfl
theorem rvA_holds : LHolds Try.prog (loopAt Try.prog 33 [4, 1, 0, 1, 1]) rvA F := by
 refine loop_roundsC sound (tableNil _ _) (specsNil _ _) (oversNil _ _) (fuel := 3000) (depth := 40) (by kernel_rfl) (by kernel_rfl) (by kernel_rfl) (fun d => ((d 5).toInt - (d 0).toInt).toNat) fun d hp hR hA => ?_
 have hp := allTold'_iff.2 hp
 simp only [rvA, tl] at hp hR hA
 simp only [F66, D.toInt_int] at hp
 have hl := vis_le (d 2).ints
 by_cases h : (d 5).toInt ≤ (d 0).toInt
 ·refine ⟨tellA rvA_t1, tellA_ok (allTold'_iff.1 ?_), .inl ⟨_, _, _, rvA_y1, dutiesTold_ok ?_⟩⟩
  ·simp only [rvA_t1, tl]
   omega
  ·simp only [rvA_d1, tl]
 ·obtain ⟨c, hc, hg⟩ := vis_good (d 2).ints (d 0).toInt.toNat (by omega)
  refine ⟨tellA rvA_t0, tellA_ok (allTold'_iff.1 ?_), .inr ⟨rvA_h0, _, _, rvA_y0, dutiesTold_ok ?_, allTold'_iff.1 ?_, ?_⟩⟩
  ·simp only [rvA_t0, tl]
   rw [hc]
   simp only [Option.getD_some]
   omega
  ·simp only [rvA_d0, tl]
  ·simp only [rvA, rvA_h0_0, rvA_h0_2, rvA_h0_5, F66, tl]
   omega
  ·simp only [rvA_h0_0, rvA_h0_2, rvA_h0_5, tl]
   omega

def rvB : LSpec := { n := 35, next := 0, pat := [(4, .sint .i64 (.var 0)), (0, .sstr (.var 5) (.var 2))], rows := [], pre := [(.le (.int 0) (.var 0), true), (.le (.var 0) (.fn 66 (.bi .pair (.var 2) (.int 0))), true), (.le (.var 5) (.int 100000000000000), true), (.le (.var 5) (.fn 66 (.bi .pair (.var 2) (.int 0))), false)], x := 999999, fin := [(2, .int .i64 4), (3, .sint .i64 (.fn 66 (.bi .pair (.var 2) (.int 0))))], frows := [], same := [], chg := [0, 2, 3, 4, 15, 16, 17, 18, 19, 20, 21, 22, 23, 24, 25, 26, 27, 28, 29, 30, 31] }
def rvB_t0 : List (Q × Bool) := [asPu0, asPu1, asPu2, asPu3, asPu4, asPu5]
def rvB_d0 : List Duty := []
def rvB_h0 : List (Nat × E) := [(5, (.var 5)), (2, (.var 2)), (0, (.bi .add (.var 0) (.int 1)))]
theorem rvB_h0_0 : lookE rvB_h0 0 = (.bi .add (.var 0) (.int 1)) := rfl
theorem rvB_h0_2 : lookE rvB_h0 2 = (.var 2) := rfl
theorem rvB_h0_5 : lookE rvB_h0 5 = (.var 5) := rfl
theorem rvB_y0 : nextD rvB rvB_h0 [] (roundC Try.prog [] [] [] 3000 40 33 [4, 1, 0, 1, 1] (tellA rvB_t0) rvB) = some rvB_d0 := by kernel_rfl
abbrev asPu7 : Q × Bool := ((.le (.int 33) (.bi .sel (.var 2) (.var 0))), false)
def rvB_t1 : List (Q × Bool) := [asPu0, asPu1, asPu2, asPu7]
def rvB_d1 : List Duty := [(true, (.var 0), (.fn 66 (.bi .pair (.var 2) (.int 0))))]
theorem rvB_y1 : endD rvB [] 1000 (roundC Try.prog [] [] [] 3000 40 33 [4, 1, 0, 1, 1] (tellA rvB_t1) rvB) = some rvB_d1 := by kernel_rfl
abbrev asPu8 : Q × Bool := ((.le (.bi .sel (.var 2) (.var 0)) (.int 126)), false)
def rvB_t2 : List (Q × Bool) := [asPu0, asPu1, asPu2, asPu3, asPu8]
def rvB_d2 : List Duty := [(true, (.var 0), (.fn 66 (.bi .pair (.var 2) (.int 0))))]
theorem rvB_y2 : endD rvB [] 1000 (roundC Try.prog [] [] [] 3000 40 33 [4, 1, 0, 1, 1] (tellA rvB_t2) rvB) = some rvB_d2 := by kernel_rfl
theorem rvB_holds : LHolds Try.prog (loopAt Try.prog 33 [4, 1, 0, 1, 1]) rvB F := by
 refine loop_roundsC sound (tableNil _ _) (specsNil _ _) (oversNil _ _) (fuel := 3000) (depth := 40) (by kernel_rfl) (by kernel_rfl) (by kernel_rfl) (fun d => ((d 5).toInt - (d 0).toInt).toNat) fun d hp hR hA => ?_
 have hp := allTold'_iff.2 hp
 simp only [rvB, tl] at hp hR hA
 simp only [F66, D.toInt_int] at hp
 have hl := vis_le (d 2).ints
 by_cases h : (d 0).toInt < (visN (d 2).ints : Nat)
 ·obtain ⟨c, hc, hg⟩ := vis_good (d 2).ints (d 0).toInt.toNat (by omega)
  refine ⟨tellA rvB_t0, tellA_ok (allTold'_iff.1 ?_), .inr ⟨rvB_h0, _, _, rvB_y0, dutiesTold_ok ?_, allTold'_iff.1 ?_, ?_⟩⟩
  ·simp only [rvB_t0, tl]
   rw [hc]
   simp only [Option.getD_some]
   omega
  ·simp only [rvB_d0, tl]
  ·simp only [rvB, rvB_h0_0, rvB_h0_2, rvB_h0_5, F66, tl]
   omega
  ·simp only [rvB_h0_0, rvB_h0_2, rvB_h0_5, tl]
   omega
 obtain ⟨c, hc, hg⟩ := vis_bad (d 2).ints (by omega)
 have he : (d 0).toInt.toNat = visN (d 2).ints := by omega
 by_cases k : c ≤ 32
 ·refine ⟨tellA rvB_t1, tellA_ok (allTold'_iff.1 ?_), .inl ⟨_, _, _, rvB_y1, dutiesTold_ok ?_⟩⟩
  ·simp only [rvB_t1, tl]
   rw [he, hc]
   simp only [Option.getD_some]
   omega
  ·simp only [rvB_d1, F66, tl]
   omega
 ·refine ⟨tellA rvB_t2, tellA_ok (allTold'_iff.1 ?_), .inl ⟨_, _, _, rvB_y2, dutiesTold_ok ?_⟩⟩
  ·simp only [rvB_t2, tl]
   rw [he, hc]
   simp only [Option.getD_some]
   omega
  ·simp only [rvB_d2, F66, tl]
   omega

def rpD : CSpec := { args := [.sstr (.var 0) (.var 1)], next := 0, rows := [], pre := [(.le (.var 0) (.int 1000), true), (.le (.int 0) (.fn 40 (.bi .pair (.var 1) (.int 0))), true)], res := .tuple [.sint .i64 (.fn 64 (argsE [.var 1])), .sint .i64 (.fn 65 (argsE [.var 1]))], frows := [], same := [] }
abbrev asPu9 : Q × Bool := ((.same (.var 1) (.lits [])), false)
abbrev asPu10 : Q × Bool := ((.same (.var 1) (.lits [46])), false)
abbrev asPu11 : Q × Bool := ((.same (.var 1) (.lits [46, 46])), false)
abbrev asPu12 : Q × Bool := ((.le (.int 0) (.fn 66 (.bi .pair (.var 1) (.int 0)))), true)
abbrev asPu13 : Q × Bool := ((.le (.var 0) (.int 100000000000000)), true)
abbrev asPu14 : Q × Bool := ((.le (.var 0) (.fn 66 (.bi .pair (.var 1) (.int 0)))), true)
abbrev asPu15 : Q × Bool := ((.fit .i64 (.var 0)), true)
abbrev asPu16 : Q × Bool := ((.le (.var 0) (.int 60)), true)
def rpD_t0 : List (Q × Bool) := [asPu9, asPu10, asPu11, asPu12, asPu13, asPu14, asPu15, asPu16]
def rpD_d0 : List Duty := [(true, (.int 0), (.fn 64 (.bi .pair (.var 1) (.int 0)))), (true, (.int 0), (.fn 65 (.bi .pair (.var 1) (.int 0))))]
theorem rpD_y0 : endC rpD [] 1000 (callC Try.prog (tellA rpD_t0) [⟨33, [4, 1, 0, 1, 1], rvA⟩, ⟨33, [4, 1, 0, 1, 1], rvB⟩] [] [] 3000 40 33 rpD) = some rpD_d0 := by kernel_rfl
abbrev asPu17 : Q × Bool := ((.le (.var 0) (.fn 66 (.bi .pair (.var 1) (.int 0)))), false)
def rpD_t1 : List (Q × Bool) := [asPu9, asPu10, asPu11, asPu12, asPu13, asPu17]
def rpD_d1 : List Duty := [(true, (.int 4), (.fn 64 (.bi .pair (.var 1) (.int 0)))), (true, (.fn 66 (.bi .pair (.var 1) (.int 0))), (.fn 65 (.bi .pair (.var 1) (.int 0))))]
theorem rpD_y1 : endC rpD [] 1000 (callC Try.prog (tellA rpD_t1) [⟨33, [4, 1, 0, 1, 1], rvA⟩, ⟨33, [4, 1, 0, 1, 1], rvB⟩] [] [] 3000 40 33 rpD) = some rpD_d1 := by kernel_rfl
abbrev asPu18 : Q × Bool := ((.le (.var 0) (.int 60)), false)
def rpD_t2 : List (Q × Bool) := [asPu9, asPu10, asPu11, asPu12, asPu13, asPu14, asPu15, asPu18]
def rpD_d2 : List Duty := [(true, (.int 3), (.fn 64 (.bi .pair (.var 1) (.int 0)))), (true, (.int 60), (.fn 65 (.bi .pair (.var 1) (.int 0))))]
theorem rpD_y2 : endC rpD [] 1000 (callC Try.prog (tellA rpD_t2) [⟨33, [4, 1, 0, 1, 1], rvA⟩, ⟨33, [4, 1, 0, 1, 1], rvB⟩] [] [] 3000 40 33 rpD) = some rpD_d2 := by kernel_rfl
theorem rpD_holds : CHolds Try.prog 33 rpD F := by
 refine cholds_of sound (tableCons rvA_holds (tableCons rvB_holds (tableNil _ _))) (specsNil _ _) (oversNil _ _) (fuel := 3000) (depth := 40) (by kernel_rfl) fun d hp hR hA => ?_
 have hp := allTold'_iff.2 hp
 simp only [rpD, tl] at hp hR hA
 simp only [F40, D.toInt_int] at hp
 obtain ⟨p0, p1⟩ := hp
 obtain ⟨h0, h1, h2⟩ := stroke_not p1
 have hl := vis_le (d 1).ints
 have hq : partR (d 1).ints = if visN (d 1).ints < (d 1).ints.length then (4, (visN (d 1).ints : Int)) else if 60 < ((d 1).ints.length : Int) then (3, 60) else (0, 0) := by unfold partR; rw [if_neg (by rintro (h | h | h); exact h0 h; exact h1 h; exact h2 h)]
 by_cases v : visN (d 1).ints < (d 1).ints.length
 ·rw [if_pos v] at hq
  refine ⟨tellA rpD_t1, _, _, _, tellA_ok (allTold'_iff.1 ?_), rpD_y1, dutiesTold_ok ?_⟩
  ·simp only [rpD_t1, F40, F66, tl]
   and_intros <;> first | omega | assumption | trivial
  ·simp only [rpD_d1, F64, F65, F66, hq, tl]
 rw [if_neg v] at hq
 by_cases l : 60 < ((d 1).ints.length : Int)
 ·rw [if_pos l] at hq
  refine ⟨tellA rpD_t2, _, _, _, tellA_ok (allTold'_iff.1 ?_), rpD_y2, dutiesTold_ok ?_⟩
  ·simp only [rpD_t2, F40, F66, tl]
   and_intros <;> first | omega | assumption | trivial
  ·simp only [rpD_d2, F64, F65, F66, hq, tl]
 rw [if_neg l] at hq
 refine ⟨tellA rpD_t0, _, _, _, tellA_ok (allTold'_iff.1 ?_), rpD_y0, dutiesTold_ok ?_⟩
 ·simp only [rpD_t0, F40, F66, tl]
  and_intros <;> first | omega | assumption | trivial
 ·simp only [rpD_d0, F64, F65, F66, hq, tl]

end Go.Proofs.Ytkejfocfmndogaa.Pu
