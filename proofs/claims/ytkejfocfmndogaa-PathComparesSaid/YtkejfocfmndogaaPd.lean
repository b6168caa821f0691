/-
 Contracts of this seat: what loops and calls leave, for all inputs. No condition.
-/
import Derived.Test.YtkejfocfmndogaaSycp
import Derived.Test.YtkejfocfmndogaaSyfm
import Derived.Test.YtkejfocfmndogaaCo
import Derived.Test.YtkejfocfmndogaaShelf
import Derived.Test.YtkejfocfmndogaaPa
import Derived.Test.YtkejfocfmndogaaPb
import Derived.Test.YtkejfocfmndogaaPc
set_option linter.unusedSimpArgs false
set_option linter.unusedVariables false
namespace Go.Proofs.Ytkejfocfmndogaa.Pd
open Go.RowKit Go.Ev Go.Proofs.Ytkejfocfmndogaa.Co

open Go.Proofs.Ytkejfocfmndogaa.Pa
open Go.Proofs.Ytkejfocfmndogaa.Pb
open Go.Proofs.Ytkejfocfmndogaa.Pc
theorem parts_one {a : List Int} (h : idxI a = -1) : splitL a = [a] := by
 rcases split_idx a with ⟨_, e⟩ | ⟨e, _⟩
 ·exact e
 ·omega
theorem parts_cut {a : List Int} (h : 0 ≤ idxI a) : splitL a = a.take (idxI a).toNat :: splitL (a.drop (idxI a + 1).toNat) := by
 rcases split_idx a with ⟨e, _⟩ | ⟨_, e⟩
 ·omega
 ·exact e
theorem cmpP_cons (p q : List Int) (s t : List (List Int)) : cmpP (p :: s) (q :: t) = if cmpB p q = 0 then cmpP s t else cmpB p q := rfl
theorem cmpP_nil : cmpP [] [] = 0 := rfl
theorem cmpP_past (p : List Int) (s : List (List Int)) : cmpP (p :: s) [] = 1 := rfl
theorem cmpP_ahead (p : List Int) (s : List (List Int)) : cmpP [] (p :: s) = -1 := rfl
theorem one_iff {b : Bool} : (if b = true then (1 : Int) else 0) = 1 ↔ b = true := by cases b <;> simp
theorem ne_rest {a : List Int} (h : 0 ≤ idxI a) (g : neP a = true) : neP (a.drop (idxI a + 1).toNat) = true := by
 unfold neP at g ⊢
 rw [parts_cut h, List.all_cons, Bool.and_eq_true] at g
 exact g.2
theorem ne_not {a : List Int} (g : neP a = true) : [47] ≠ a := fun e => by rw [← e] at g; revert g; decide
theorem parts_more (a : List Int) : 1 ≤ (splitL a).length := by
 have := split_ne a
 cases h : splitL a with
 | nil => exact absurd h this
 | cons p l => rw [List.length_cons]; omega
theorem parts_less {a : List Int} (h : 0 ≤ idxI a) : ((splitL a).length : Int) = (splitL (a.drop (idxI a + 1).toNat)).length + 1 := by
 rw [parts_cut h, List.length_cons]; omega

abbrev txPd0 : E := (.bi .pair (.var 1) (.bi .pair (.var 3) (.int 0)))
abbrev txPd1 : E := (.bi .add (.fn 40 (.bi .pair (.var 3) (.int 0))) (.int 1))
abbrev txPd2 : E := (.bi .add (.fn 40 (.bi .pair (.var 1) (.int 0))) (.int 1))
abbrev txPd3 : E := (.tr .cut (.var 3) (.int 0) (.fn 40 (.bi .pair (.var 3) (.int 0))))
abbrev txPd4 : E := (.tr .cut (.var 1) (.int 0) (.fn 40 (.bi .pair (.var 1) (.int 0))))
abbrev txPd5 : E := (.bi .pair (.tr .cut (.var 1) txPd2 (.var 0)) (.int 0))
abbrev txPd6 : E := (.bi .pair (.tr .cut (.var 3) txPd1 (.var 2)) (.int 0))
abbrev txPd7 : E := (.bi .pair (.var 1) (.bi .pair txPd3 (.int 0)))
abbrev txPd8 : E := (.bi .pair txPd4 (.bi .pair (.var 3) (.int 0)))
abbrev txPd9 : E := (.bi .pair txPd4 (.bi .pair txPd3 (.int 0)))
abbrev txPd10 : E := (.bi .pair (.tr .cut (.var 1) txPd2 (.var 0)) txPd6)
def bp1 : CSpec := { args := [.sstr (.var 0) (.var 1), .sstr (.var 2) (.var 3)], next := 0, rows := [], pre := [(.le (.var 0) (.int 100000000000000), true), (.le (.var 2) (.int 100000000000000), true), (.le (.fn 50 (.bi .pair (.var 1) (.int 0))) (.int 1), true), (.eq (.fn 55 (.bi .pair (.var 1) (.int 0))) (.int 1), true), (.eq (.fn 55 (.bi .pair (.var 3) (.int 0))) (.int 1), true)], res := .sint .i64 (.fn 51 (argsE [.var 1, .var 3])), frows := [], same := [] }
abbrev asPd0 : Q × Bool := ((.same (.lits [47]) (.var 1)), false)
abbrev asPd1 : Q × Bool := ((.le (.var 0) (.int 100000000000000)), true)
abbrev asPd2 : Q × Bool := ((.le (.int 0) (.fn 40 (.bi .pair (.var 1) (.int 0)))), false)
abbrev asPd3 : Q × Bool := ((.same (.lits [47]) (.var 3)), false)
abbrev asPd4 : Q × Bool := ((.le (.var 2) (.int 100000000000000)), true)
abbrev asPd5 : Q × Bool := ((.le (.int 0) (.fn 40 (.bi .pair (.var 3) (.int 0)))), false)
abbrev asPd6 : Q × Bool := ((.eq (.fn 41 txPd0) (.int 0)), true)
def bp1_t0 : List (Q × Bool) := [asPd0, asPd1, asPd2, asPd3, asPd4, asPd5, asPd6]
def bp1_d0 : List Duty := [(true, (.int 0), (.fn 51 txPd0))]
theorem bp1_y0 : endC bp1 [] 1000 (callC Try.prog (tellA bp1_t0) [] [(58, idxC), (48, cmpC)] [] 3000 40 35 bp1) = some bp1_d0 := by kernel_rfl
abbrev asPd7 : Q × Bool := ((.eq (.fn 41 txPd0) (.int 0)), false)
def bp1_t1 : List (Q × Bool) := [asPd0, asPd1, asPd2, asPd3, asPd4, asPd5, asPd7]
def bp1_d1 : List Duty := [(true, (.fn 41 txPd0), (.fn 51 txPd0))]
theorem bp1_y1 : endC bp1 [] 1000 (callC Try.prog (tellA bp1_t1) [] [(58, idxC), (48, cmpC)] [] 3000 40 35 bp1) = some bp1_d1 := by kernel_rfl
abbrev asPd8 : Q × Bool := ((.le (.int 0) (.fn 40 (.bi .pair (.var 3) (.int 0)))), true)
abbrev asPd9 : Q × Bool := ((.le (.fn 40 (.bi .pair (.var 3) (.int 0))) (.var 2)), true)
abbrev asPd10 : Q × Bool := ((.fit .i64 txPd1), true)
abbrev asPd11 : Q × Bool := ((.le (.int 0) txPd1), true)
abbrev asPd12 : Q × Bool := ((.le txPd1 (.var 2)), true)
abbrev asPd13 : Q × Bool := ((.eq (.fn 41 txPd7) (.int 0)), true)
def bp1_t2 : List (Q × Bool) := [asPd0, asPd1, asPd2, asPd3, asPd4, asPd8, asPd9, asPd10, asPd11, asPd12, asPd13]
def bp1_d2 : List Duty := [(true, (.int (-1)), (.fn 51 txPd0))]
theorem bp1_y2 : endC bp1 [] 1000 (callC Try.prog (tellA bp1_t2) [] [(58, idxC), (48, cmpC)] [] 3000 40 35 bp1) = some bp1_d2 := by kernel_rfl
abbrev asPd14 : Q × Bool := ((.eq (.fn 41 txPd7) (.int 0)), false)
def bp1_t3 : List (Q × Bool) := [asPd0, asPd1, asPd2, asPd3, asPd4, asPd8, asPd9, asPd10, asPd11, asPd12, asPd14]
def bp1_d3 : List Duty := [(true, (.fn 41 txPd7), (.fn 51 txPd0))]
theorem bp1_y3 : endC bp1 [] 1000 (callC Try.prog (tellA bp1_t3) [] [(58, idxC), (48, cmpC)] [] 3000 40 35 bp1) = some bp1_d3 := by kernel_rfl
theorem bp1_holds : CHolds Try.prog 35 bp1 F := by
 refine cholds_of sound (tableNil _ _) (specsCons idxC_holds (specsCons cmpC_holds (specsNil _ _))) (oversNil _ _) (fuel := 3000) (depth := 40) (by kernel_rfl) fun d hp hR hA => ?_
 have hp := allTold'_iff.2 hp
 simp only [bp1, tl] at hp hR hA
 simp only [F50, F55, D.toInt_int, one_iff] at hp
 obtain ⟨q0, q2, qk, qa, qb⟩ := hp
 have ha := idx_in (d 1).ints
 have hb := idx_in (d 3).ints
 have sa := ne_not qa
 have sb := ne_not qb
 have h0 : List.take (d 0).toInt.toNat (d 1).ints = (d 1).ints := List.take_of_length_le (by omega)
 have h2 : List.take (d 2).toInt.toNat (d 3).ints = (d 3).ints := List.take_of_length_le (by omega)
 have a : idxI (d 1).ints = -1 := by
  by_cases g : 0 ≤ idxI (d 1).ints
  ·have := parts_less g
   have := parts_more ((d 1).ints.drop (idxI (d 1).ints + 1).toNat)
   omega
  ·omega
 have ea := parts_one a
 by_cases b : idxI (d 3).ints = -1
 ·have eb := parts_one b
  by_cases c : cmpB (d 1).ints (d 3).ints = 0
  ·refine ⟨tellA bp1_t0, _, _, _, tellA_ok (allTold'_iff.1 ?_), bp1_y0, dutiesTold_ok ?_⟩
   ·simp only [bp1_t0, F40, F41, F50, F51, F55, one_iff, ints_take, show Int.toNat 0 = 0 from rfl, List.drop_zero, h0, h2, tl]
    and_intros <;> first | assumption | omega
   ·simp only [bp1_d0, F40, F41, F50, F51, F55, one_iff, ints_take, show Int.toNat 0 = 0 from rfl, List.drop_zero, h0, h2, ea, eb, cmpP_cons, c, if_pos, cmpP_nil, cmpP_past, cmpP_ahead, ↓reduceIte, tl]
  ·refine ⟨tellA bp1_t1, _, _, _, tellA_ok (allTold'_iff.1 ?_), bp1_y1, dutiesTold_ok ?_⟩
   ·simp only [bp1_t1, F40, F41, F50, F51, F55, one_iff, ints_take, show Int.toNat 0 = 0 from rfl, List.drop_zero, h0, h2, tl]
    and_intros <;> first | assumption | omega
   ·simp only [bp1_d1, F40, F41, F50, F51, F55, one_iff, ints_take, show Int.toNat 0 = 0 from rfl, List.drop_zero, h0, h2, ea, eb, cmpP_cons, c, if_pos, cmpP_nil, cmpP_past, cmpP_ahead, ↓reduceIte, tl]
 ·have eb := parts_cut (a := (d 3).ints) (by omega)
  have rb := ne_rest (a := (d 3).ints) (by omega) qb
  obtain ⟨y, m, ey⟩ : ∃ y m, splitL ((d 3).ints.drop (idxI (d 3).ints + 1).toNat) = y :: m := List.exists_cons_of_ne_nil (split_ne _)
  rw [ey] at eb
  by_cases c : cmpB (d 1).ints (List.take (idxI (d 3).ints).toNat (d 3).ints) = 0
  ·refine ⟨tellA bp1_t2, _, _, _, tellA_ok (allTold'_iff.1 ?_), bp1_y2, dutiesTold_ok ?_⟩
   ·simp only [bp1_t2, F40, F41, F50, F51, F55, one_iff, ints_take, show Int.toNat 0 = 0 from rfl, List.drop_zero, h0, h2, tl]
    and_intros <;> first | assumption | omega
   ·simp only [bp1_d2, F40, F41, F50, F51, F55, one_iff, ints_take, show Int.toNat 0 = 0 from rfl, List.drop_zero, h0, h2, ea, eb, cmpP_cons, c, if_pos, cmpP_nil, cmpP_past, cmpP_ahead, ↓reduceIte, tl]
  ·refine ⟨tellA bp1_t3, _, _, _, tellA_ok (allTold'_iff.1 ?_), bp1_y3, dutiesTold_ok ?_⟩
   ·simp only [bp1_t3, F40, F41, F50, F51, F55, one_iff, ints_take, show Int.toNat 0 = 0 from rfl, List.drop_zero, h0, h2, tl]
    and_intros <;> first | assumption | omega
   ·simp only [bp1_d3, F40, F41, F50, F51, F55, one_iff, ints_take, show Int.toNat 0 = 0 from rfl, List.drop_zero, h0, h2, ea, eb, cmpP_cons, c, if_pos, cmpP_nil, cmpP_past, cmpP_ahead, ↓reduceIte, tl]

def bp2 : CSpec := { args := [.sstr (.var 0) (.var 1), .sstr (.var 2) (.var 3)], next := 0, rows := [], pre := [(.le (.var 0) (.int 100000000000000), true), (.le (.var 2) (.int 100000000000000), true), (.le (.fn 50 (.bi .pair (.var 1) (.int 0))) (.int 2), true), (.eq (.fn 55 (.bi .pair (.var 1) (.int 0))) (.int 1), true), (.eq (.fn 55 (.bi .pair (.var 3) (.int 0))) (.int 1), true)], res := .sint .i64 (.fn 51 (argsE [.var 1, .var 3])), frows := [], same := [] }
abbrev asPd15 : Q × Bool := ((.le (.fn 50 (.bi .pair (.var 1) (.int 0))) (.int 1)), true)
abbrev asPd16 : Q × Bool := ((.eq (.fn 55 (.bi .pair (.var 1) (.int 0))) (.int 1)), true)
abbrev asPd17 : Q × Bool := ((.eq (.fn 55 (.bi .pair (.var 3) (.int 0))) (.int 1)), true)
def bp2_t0 : List (Q × Bool) := [asPd1, asPd4, asPd15, asPd16, asPd17]
def bp2_d0 : List Duty := []
theorem bp2_y0 : endC bp2 [] 1000 (callC Try.prog (tellA bp2_t0) [] [(58, idxC), (48, cmpC), (35, bp1)] [] 3000 40 35 bp2) = some bp2_d0 := by kernel_rfl
abbrev asPd18 : Q × Bool := ((.le (.fn 50 (.bi .pair (.var 1) (.int 0))) (.int 1)), false)
abbrev asPd19 : Q × Bool := ((.le (.int 0) (.fn 40 (.bi .pair (.var 1) (.int 0)))), true)
abbrev asPd20 : Q × Bool := ((.le (.fn 40 (.bi .pair (.var 1) (.int 0))) (.var 0)), true)
abbrev asPd21 : Q × Bool := ((.fit .i64 txPd2), true)
abbrev asPd22 : Q × Bool := ((.le (.int 0) txPd2), true)
abbrev asPd23 : Q × Bool := ((.le txPd2 (.var 0)), true)
abbrev asPd24 : Q × Bool := ((.eq (.fn 41 txPd8) (.int 0)), true)
def bp2_t1 : List (Q × Bool) := [asPd1, asPd4, asPd18, asPd0, asPd19, asPd20, asPd21, asPd22, asPd23, asPd3, asPd5, asPd24]
def bp2_d1 : List Duty := [(true, (.int 1), (.fn 51 txPd0))]
theorem bp2_y1 : endC bp2 [] 1000 (callC Try.prog (tellA bp2_t1) [] [(58, idxC), (48, cmpC), (35, bp1)] [] 3000 40 35 bp2) = some bp2_d1 := by kernel_rfl
abbrev asPd25 : Q × Bool := ((.eq (.fn 41 txPd8) (.int 0)), false)
def bp2_t2 : List (Q × Bool) := [asPd1, asPd4, asPd18, asPd0, asPd19, asPd20, asPd21, asPd22, asPd23, asPd3, asPd5, asPd25]
def bp2_d2 : List Duty := [(true, (.fn 41 txPd8), (.fn 51 txPd0))]
theorem bp2_y2 : endC bp2 [] 1000 (callC Try.prog (tellA bp2_t2) [] [(58, idxC), (48, cmpC), (35, bp1)] [] 3000 40 35 bp2) = some bp2_d2 := by kernel_rfl
abbrev asPd26 : Q × Bool := ((.eq (.fn 41 txPd9) (.int 0)), true)
abbrev asPd27 : Q × Bool := ((.le (.bi .sub (.var 0) txPd2) (.int 100000000000000)), true)
abbrev asPd28 : Q × Bool := ((.le (.bi .sub (.var 2) txPd1) (.int 100000000000000)), true)
abbrev asPd29 : Q × Bool := ((.le (.fn 50 txPd5) (.int 1)), true)
abbrev asPd30 : Q × Bool := ((.eq (.fn 55 txPd5) (.int 1)), true)
abbrev asPd31 : Q × Bool := ((.eq (.fn 55 txPd6) (.int 1)), true)
def bp2_t3 : List (Q × Bool) := [asPd1, asPd4, asPd18, asPd0, asPd19, asPd20, asPd21, asPd22, asPd23, asPd3, asPd8, asPd9, asPd10, asPd11, asPd12, asPd26, asPd27, asPd28, asPd29, asPd30, asPd31]
def bp2_d3 : List Duty := [(true, (.fn 51 txPd10), (.fn 51 txPd0))]
theorem bp2_y3 : endC bp2 [] 1000 (callC Try.prog (tellA bp2_t3) [] [(58, idxC), (48, cmpC), (35, bp1)] [] 3000 40 35 bp2) = some bp2_d3 := by kernel_rfl
abbrev asPd32 : Q × Bool := ((.eq (.fn 41 txPd9) (.int 0)), false)
def bp2_t4 : List (Q × Bool) := [asPd1, asPd4, asPd18, asPd0, asPd19, asPd20, asPd21, asPd22, asPd23, asPd3, asPd8, asPd9, asPd10, asPd11, asPd12, asPd32]
def bp2_d4 : List Duty := [(true, (.fn 41 txPd9), (.fn 51 txPd0))]
theorem bp2_y4 : endC bp2 [] 1000 (callC Try.prog (tellA bp2_t4) [] [(58, idxC), (48, cmpC), (35, bp1)] [] 3000 40 35 bp2) = some bp2_d4 := by kernel_rfl
theorem bp2_holds : CHolds Try.prog 35 bp2 F := by
 refine cholds_of sound (tableNil _ _) (specsCons idxC_holds (specsCons cmpC_holds (specsCons bp1_holds (specsNil _ _)))) (oversNil _ _) (fuel := 3000) (depth := 40) (by kernel_rfl) fun d hp hR hA => ?_
 have hp := allTold'_iff.2 hp
 simp only [bp2, tl] at hp hR hA
 simp only [F50, F55, D.toInt_int, one_iff] at hp
 obtain ⟨q0, q2, qk, qa, qb⟩ := hp
 have ha := idx_in (d 1).ints
 have hb := idx_in (d 3).ints
 have sa := ne_not qa
 have sb := ne_not qb
 have h0 : List.take (d 0).toInt.toNat (d 1).ints = (d 1).ints := List.take_of_length_le (by omega)
 have h2 : List.take (d 2).toInt.toNat (d 3).ints = (d 3).ints := List.take_of_length_le (by omega)
 by_cases s : ((splitL (d 1).ints).length : Int) ≤ 1
 ·refine ⟨tellA bp2_t0, _, _, _, tellA_ok (allTold'_iff.1 ?_), bp2_y0, dutiesTold_ok ?_⟩
  ·simp only [bp2_t0, F40, F41, F50, F51, F55, one_iff, ints_take, show Int.toNat 0 = 0 from rfl, List.drop_zero, h0, h2, tl]
   and_intros <;> first | assumption | omega
  ·simp only [bp2_d0, F40, F41, F50, F51, F55, one_iff, ints_take, show Int.toNat 0 = 0 from rfl, List.drop_zero, h0, h2, s, tl]
 have a : 0 ≤ idxI (d 1).ints := by
  by_cases g : idxI (d 1).ints = -1
  ·have := parts_one g
   rw [this] at s
   exact absurd (show ((1 : Nat) : Int) ≤ 1 by omega) s
  ·omega
 have ea := parts_cut (a := (d 1).ints) (by omega)
 have ra := ne_rest (a := (d 1).ints) (by omega) qa
 have la := parts_less (a := (d 1).ints) (by omega)
 by_cases b : idxI (d 3).ints = -1
 ·have eb := parts_one b
  obtain ⟨y, m, ey⟩ : ∃ y m, splitL ((d 1).ints.drop (idxI (d 1).ints + 1).toNat) = y :: m := List.exists_cons_of_ne_nil (split_ne _)
  rw [ey] at ea
  by_cases c : cmpB (List.take (idxI (d 1).ints).toNat (d 1).ints) (d 3).ints = 0
  ·refine ⟨tellA bp2_t1, _, _, _, tellA_ok (allTold'_iff.1 ?_), bp2_y1, dutiesTold_ok ?_⟩
   ·simp only [bp2_t1, F40, F41, F50, F51, F55, one_iff, ints_take, show Int.toNat 0 = 0 from rfl, List.drop_zero, h0, h2, tl]
    and_intros <;> first | assumption | omega
   ·simp only [bp2_d1, F40, F41, F50, F51, F55, one_iff, ints_take, show Int.toNat 0 = 0 from rfl, List.drop_zero, h0, h2, ea, eb, cmpP_cons, c, if_pos, cmpP_nil, cmpP_past, cmpP_ahead, ↓reduceIte, tl]
  ·refine ⟨tellA bp2_t2, _, _, _, tellA_ok (allTold'_iff.1 ?_), bp2_y2, dutiesTold_ok ?_⟩
   ·simp only [bp2_t2, F40, F41, F50, F51, F55, one_iff, ints_take, show Int.toNat 0 = 0 from rfl, List.drop_zero, h0, h2, tl]
    and_intros <;> first | assumption | omega
   ·simp only [bp2_d2, F40, F41, F50, F51, F55, one_iff, ints_take, show Int.toNat 0 = 0 from rfl, List.drop_zero, h0, h2, ea, eb, cmpP_cons, c, if_pos, cmpP_nil, cmpP_past, cmpP_ahead, ↓reduceIte, tl]
 ·have eb := parts_cut (a := (d 3).ints) (by omega)
  have rb := ne_rest (a := (d 3).ints) (by omega) qb
  by_cases c : cmpB (List.take (idxI (d 1).ints).toNat (d 1).ints) (List.take (idxI (d 3).ints).toNat (d 3).ints) = 0
  ·refine ⟨tellA bp2_t3, _, _, _, tellA_ok (allTold'_iff.1 ?_), bp2_y3, dutiesTold_ok ?_⟩
   ·simp only [bp2_t3, F40, F41, F50, F51, F55, one_iff, ints_take, show Int.toNat 0 = 0 from rfl, List.drop_zero, h0, h2, tl]
    and_intros <;> first | assumption | omega
   ·simp only [bp2_d3, F40, F41, F50, F51, F55, one_iff, ints_take, show Int.toNat 0 = 0 from rfl, List.drop_zero, h0, h2, ea, eb, cmpP_cons, c, if_pos, cmpP_nil, cmpP_past, cmpP_ahead, ↓reduceIte, tl]
  ·refine ⟨tellA bp2_t4, _, _, _, tellA_ok (allTold'_iff.1 ?_), bp2_y4, dutiesTold_ok ?_⟩
   ·simp only [bp2_t4, F40, F41, F50, F51, F55, one_iff, ints_take, show Int.toNat 0 = 0 from rfl, List.drop_zero, h0, h2, tl]
    and_intros <;> first | assumption | omega
   ·simp only [bp2_d4, F40, F41, F50, F51, F55, one_iff, ints_take, show Int.toNat 0 = 0 from rfl, List.drop_zero, h0, h2, ea, eb, cmpP_cons, c, if_pos, cmpP_nil, cmpP_past, cmpP_ahead, ↓reduceIte, tl]

def bp3 : CSpec := { args := [.sstr (.var 0) (.var 1), .sstr (.var 2) (.var 3)], next := 0, rows := [], pre := [(.le (.var 0) (.int 100000000000000), true), (.le (.var 2) (.int 100000000000000), true), (.le (.fn 50 (.bi .pair (.var 1) (.int 0))) (.int 3), true), (.eq (.fn 55 (.bi .pair (.var 1) (.int 0))) (.int 1), true), (.eq (.fn 55 (.bi .pair (.var 3) (.int 0))) (.int 1), true)], res := .sint .i64 (.fn 51 (argsE [.var 1, .var 3])), frows := [], same := [] }
abbrev asPd33 : Q × Bool := ((.le (.fn 50 (.bi .pair (.var 1) (.int 0))) (.int 2)), true)
def bp3_t0 : List (Q × Bool) := [asPd1, asPd4, asPd33, asPd16, asPd17]
def bp3_d0 : List Duty := []
theorem bp3_y0 : endC bp3 [] 1000 (callC Try.prog (tellA bp3_t0) [] [(58, idxC), (48, cmpC), (35, bp2)] [] 3000 40 35 bp3) = some bp3_d0 := by kernel_rfl
abbrev asPd34 : Q × Bool := ((.le (.fn 50 (.bi .pair (.var 1) (.int 0))) (.int 2)), false)
def bp3_t1 : List (Q × Bool) := [asPd1, asPd4, asPd34, asPd0, asPd19, asPd20, asPd21, asPd22, asPd23, asPd3, asPd5, asPd24]
def bp3_d1 : List Duty := [(true, (.int 1), (.fn 51 txPd0))]
theorem bp3_y1 : endC bp3 [] 1000 (callC Try.prog (tellA bp3_t1) [] [(58, idxC), (48, cmpC), (35, bp2)] [] 3000 40 35 bp3) = some bp3_d1 := by kernel_rfl
def bp3_t2 : List (Q × Bool) := [asPd1, asPd4, asPd34, asPd0, asPd19, asPd20, asPd21, asPd22, asPd23, asPd3, asPd5, asPd25]
def bp3_d2 : List Duty := [(true, (.fn 41 txPd8), (.fn 51 txPd0))]
theorem bp3_y2 : endC bp3 [] 1000 (callC Try.prog (tellA bp3_t2) [] [(58, idxC), (48, cmpC), (35, bp2)] [] 3000 40 35 bp3) = some bp3_d2 := by kernel_rfl
abbrev asPd35 : Q × Bool := ((.le (.fn 50 txPd5) (.int 2)), true)
def bp3_t3 : List (Q × Bool) := [asPd1, asPd4, asPd34, asPd0, asPd19, asPd20, asPd21, asPd22, asPd23, asPd3, asPd8, asPd9, asPd10, asPd11, asPd12, asPd26, asPd27, asPd28, asPd35, asPd30, asPd31]
def bp3_d3 : List Duty := [(true, (.fn 51 txPd10), (.fn 51 txPd0))]
theorem bp3_y3 : endC bp3 [] 1000 (callC Try.prog (tellA bp3_t3) [] [(58, idxC), (48, cmpC), (35, bp2)] [] 3000 40 35 bp3) = some bp3_d3 := by kernel_rfl
def bp3_t4 : List (Q × Bool) := [asPd1, asPd4, asPd34, asPd0, asPd19, asPd20, asPd21, asPd22, asPd23, asPd3, asPd8, asPd9, asPd10, asPd11, asPd12, asPd32]
def bp3_d4 : List Duty := [(true, (.fn 41 txPd9), (.fn 51 txPd0))]
theorem bp3_y4 : endC bp3 [] 1000 (callC Try.prog (tellA bp3_t4) [] [(58, idxC), (48, cmpC), (35, bp2)] [] 3000 40 35 bp3) = some bp3_d4 := by kernel_rfl
theorem bp3_holds : CHolds Try.prog 35 bp3 F := by
 refine cholds_of sound (tableNil _ _) (specsCons idxC_holds (specsCons cmpC_holds (specsCons bp2_holds (specsNil _ _)))) (oversNil _ _) (fuel := 3000) (depth := 40) (by kernel_rfl) fun d hp hR hA => ?_
 have hp := allTold'_iff.2 hp
 simp only [bp3, tl] at hp hR hA
 simp only [F50, F55, D.toInt_int, one_iff] at hp
 obtain ⟨q0, q2, qk, qa, qb⟩ := hp
 have ha := idx_in (d 1).ints
 have hb := idx_in (d 3).ints
 have sa := ne_not qa
 have sb := ne_not qb
 have h0 : List.take (d 0).toInt.toNat (d 1).ints = (d 1).ints := List.take_of_length_le (by omega)
 have h2 : List.take (d 2).toInt.toNat (d 3).ints = (d 3).ints := List.take_of_length_le (by omega)
 by_cases s : ((splitL (d 1).ints).length : Int) ≤ 2
 ·refine ⟨tellA bp3_t0, _, _, _, tellA_ok (allTold'_iff.1 ?_), bp3_y0, dutiesTold_ok ?_⟩
  ·simp only [bp3_t0, F40, F41, F50, F51, F55, one_iff, ints_take, show Int.toNat 0 = 0 from rfl, List.drop_zero, h0, h2, tl]
   and_intros <;> first | assumption | omega
  ·simp only [bp3_d0, F40, F41, F50, F51, F55, one_iff, ints_take, show Int.toNat 0 = 0 from rfl, List.drop_zero, h0, h2, s, tl]
 have a : 0 ≤ idxI (d 1).ints := by
  by_cases g : idxI (d 1).ints = -1
  ·have := parts_one g
   rw [this] at s
   exact absurd (show ((1 : Nat) : Int) ≤ 2 by omega) s
  ·omega
 have ea := parts_cut (a := (d 1).ints) (by omega)
 have ra := ne_rest (a := (d 1).ints) (by omega) qa
 have la := parts_less (a := (d 1).ints) (by omega)
 by_cases b : idxI (d 3).ints = -1
 ·have eb := parts_one b
  obtain ⟨y, m, ey⟩ : ∃ y m, splitL ((d 1).ints.drop (idxI (d 1).ints + 1).toNat) = y :: m := List.exists_cons_of_ne_nil (split_ne _)
  rw [ey] at ea
  by_cases c : cmpB (List.take (idxI (d 1).ints).toNat (d 1).ints) (d 3).ints = 0
  ·refine ⟨tellA bp3_t1, _, _, _, tellA_ok (allTold'_iff.1 ?_), bp3_y1, dutiesTold_ok ?_⟩
   ·simp only [bp3_t1, F40, F41, F50, F51, F55, one_iff, ints_take, show Int.toNat 0 = 0 from rfl, List.drop_zero, h0, h2, tl]
    and_intros <;> first | assumption | omega
   ·simp only [bp3_d1, F40, F41, F50, F51, F55, one_iff, ints_take, show Int.toNat 0 = 0 from rfl, List.drop_zero, h0, h2, ea, eb, cmpP_cons, c, if_pos, cmpP_nil, cmpP_past, cmpP_ahead, ↓reduceIte, tl]
  ·refine ⟨tellA bp3_t2, _, _, _, tellA_ok (allTold'_iff.1 ?_), bp3_y2, dutiesTold_ok ?_⟩
   ·simp only [bp3_t2, F40, F41, F50, F51, F55, one_iff, ints_take, show Int.toNat 0 = 0 from rfl, List.drop_zero, h0, h2, tl]
    and_intros <;> first | assumption | omega
   ·simp only [bp3_d2, F40, F41, F50, F51, F55, one_iff, ints_take, show Int.toNat 0 = 0 from rfl, List.drop_zero, h0, h2, ea, eb, cmpP_cons, c, if_pos, cmpP_nil, cmpP_past, cmpP_ahead, ↓reduceIte, tl]
 ·have eb := parts_cut (a := (d 3).ints) (by omega)
  have rb := ne_rest (a := (d 3).ints) (by omega) qb
  by_cases c : cmpB (List.take (idxI (d 1).ints).toNat (d 1).ints) (List.take (idxI (d 3).ints).toNat (d 3).ints) = 0
  ·refine ⟨tellA bp3_t3, _, _, _, tellA_ok (allTold'_iff.1 ?_), bp3_y3, dutiesTold_ok ?_⟩
   ·simp only [bp3_t3, F40, F41, F50, F51, F55, one_iff, ints_take, show Int.toNat 0 = 0 from rfl, List.drop_zero, h0, h2, tl]
    and_intros <;> first | assumption | omega
   ·simp only [bp3_d3, F40, F41, F50, F51, F55, one_iff, ints_take, show Int.toNat 0 = 0 from rfl, List.drop_zero, h0, h2, ea, eb, cmpP_cons, c, if_pos, cmpP_nil, cmpP_past, cmpP_ahead, ↓reduceIte, tl]
  ·refine ⟨tellA bp3_t4, _, _, _, tellA_ok (allTold'_iff.1 ?_), bp3_y4, dutiesTold_ok ?_⟩
   ·simp only [bp3_t4, F40, F41, F50, F51, F55, one_iff, ints_take, show Int.toNat 0 = 0 from rfl, List.drop_zero, h0, h2, tl]
    and_intros <;> first | assumption | omega
   ·simp only [bp3_d4, F40, F41, F50, F51, F55, one_iff, ints_take, show Int.toNat 0 = 0 from rfl, List.drop_zero, h0, h2, ea, eb, cmpP_cons, c, if_pos, cmpP_nil, cmpP_past, cmpP_ahead, ↓reduceIte, tl]

def bp4 : CSpec := { args := [.sstr (.var 0) (.var 1), .sstr (.var 2) (.var 3)], next := 0, rows := [], pre := [(.le (.var 0) (.int 100000000000000), true), (.le (.var 2) (.int 100000000000000), true), (.le (.fn 50 (.bi .pair (.var 1) (.int 0))) (.int 4), true), (.eq (.fn 55 (.bi .pair (.var 1) (.int 0))) (.int 1), true), (.eq (.fn 55 (.bi .pair (.var 3) (.int 0))) (.int 1), true)], res := .sint .i64 (.fn 51 (argsE [.var 1, .var 3])), frows := [], same := [] }
abbrev asPd36 : Q × Bool := ((.le (.fn 50 (.bi .pair (.var 1) (.int 0))) (.int 3)), true)
def bp4_t0 : List (Q × Bool) := [asPd1, asPd4, asPd36, asPd16, asPd17]
def bp4_d0 : List Duty := []
theorem bp4_y0 : endC bp4 [] 1000 (callC Try.prog (tellA bp4_t0) [] [(58, idxC), (48, cmpC), (35, bp3)] [] 3000 40 35 bp4) = some bp4_d0 := by kernel_rfl
abbrev asPd37 : Q × Bool := ((.le (.fn 50 (.bi .pair (.var 1) (.int 0))) (.int 3)), false)
def bp4_t1 : List (Q × Bool) := [asPd1, asPd4, asPd37, asPd0, asPd19, asPd20, asPd21, asPd22, asPd23, asPd3, asPd5, asPd24]
def bp4_d1 : List Duty := [(true, (.int 1), (.fn 51 txPd0))]
theorem bp4_y1 : endC bp4 [] 1000 (callC Try.prog (tellA bp4_t1) [] [(58, idxC), (48, cmpC), (35, bp3)] [] 3000 40 35 bp4) = some bp4_d1 := by kernel_rfl
def bp4_t2 : List (Q × Bool) := [asPd1, asPd4, asPd37, asPd0, asPd19, asPd20, asPd21, asPd22, asPd23, asPd3, asPd5, asPd25]
def bp4_d2 : List Duty := [(true, (.fn 41 txPd8), (.fn 51 txPd0))]
theorem bp4_y2 : endC bp4 [] 1000 (callC Try.prog (tellA bp4_t2) [] [(58, idxC), (48, cmpC), (35, bp3)] [] 3000 40 35 bp4) = some bp4_d2 := by kernel_rfl
abbrev asPd38 : Q × Bool := ((.le (.fn 50 txPd5) (.int 3)), true)
def bp4_t3 : List (Q × Bool) := [asPd1, asPd4, asPd37, asPd0, asPd19, asPd20, asPd21, asPd22, asPd23, asPd3, asPd8, asPd9, asPd10, asPd11, asPd12, asPd26, asPd27, asPd28, asPd38, asPd30, asPd31]
def bp4_d3 : List Duty := [(true, (.fn 51 txPd10), (.fn 51 txPd0))]
theorem bp4_y3 : endC bp4 [] 1000 (callC Try.prog (tellA bp4_t3) [] [(58, idxC), (48, cmpC), (35, bp3)] [] 3000 40 35 bp4) = some bp4_d3 := by kernel_rfl
def bp4_t4 : List (Q × Bool) := [asPd1, asPd4, asPd37, asPd0, asPd19, asPd20, asPd21, asPd22, asPd23, asPd3, asPd8, asPd9, asPd10, asPd11, asPd12, asPd32]
def bp4_d4 : List Duty := [(true, (.fn 41 txPd9), (.fn 51 txPd0))]
theorem bp4_y4 : endC bp4 [] 1000 (callC Try.prog (tellA bp4_t4) [] [(58, idxC), (48, cmpC), (35, bp3)] [] 3000 40 35 bp4) = some bp4_d4 := by kernel_rfl
theorem bp4_holds : CHolds Try.prog 35 bp4 F := by
 refine cholds_of sound (tableNil _ _) (specsCons idxC_holds (specsCons cmpC_holds (specsCons bp3_holds (specsNil _ _)))) (oversNil _ _) (fuel := 3000) (depth := 40) (by kernel_rfl) fun d hp hR hA => ?_
 have hp := allTold'_iff.2 hp
 simp only [bp4, tl] at hp hR hA
 simp only [F50, F55, D.toInt_int, one_iff] at hp
 obtain ⟨q0, q2, qk, qa, qb⟩ := hp
 have ha := idx_in (d 1).ints
 have hb := idx_in (d 3).ints
 have sa := ne_not qa
 have sb := ne_not qb
 have h0 : List.take (d 0).toInt.toNat (d 1).ints = (d 1).ints := List.take_of_length_le (by omega)
 have h2 : List.take (d 2).toInt.toNat (d 3).ints = (d 3).ints := List.take_of_length_le (by omega)
 by_cases s : ((splitL (d 1).ints).length : Int) ≤ 3
 ·refine ⟨tellA bp4_t0, _, _, _, tellA_ok (allTold'_iff.1 ?_), bp4_y0, dutiesTold_ok ?_⟩
  ·simp only [bp4_t0, F40, F41, F50, F51, F55, one_iff, ints_take, show Int.toNat 0 = 0 from rfl, List.drop_zero, h0, h2, tl]
   and_intros <;> first | assumption | omega
  ·simp only [bp4_d0, F40, F41, F50, F51, F55, one_iff, ints_take, show Int.toNat 0 = 0 from rfl, List.drop_zero, h0, h2, s, tl]
 have a : 0 ≤ idxI (d 1).ints := by
  by_cases g : idxI (d 1).ints = -1
  ·have := parts_one g
   rw [this] at s
   exact absurd (show ((1 : Nat) : Int) ≤ 3 by omega) s
  ·omega
 have ea := parts_cut (a := (d 1).ints) (by omega)
 have ra := ne_rest (a := (d 1).ints) (by omega) qa
 have la := parts_less (a := (d 1).ints) (by omega)
 by_cases b : idxI (d 3).ints = -1
 ·have eb := parts_one b
  obtain ⟨y, m, ey⟩ : ∃ y m, splitL ((d 1).ints.drop (idxI (d 1).ints + 1).toNat) = y :: m := List.exists_cons_of_ne_nil (split_ne _)
  rw [ey] at ea
  by_cases c : cmpB (List.take (idxI (d 1).ints).toNat (d 1).ints) (d 3).ints = 0
  ·refine ⟨tellA bp4_t1, _, _, _, tellA_ok (allTold'_iff.1 ?_), bp4_y1, dutiesTold_ok ?_⟩
   ·simp only [bp4_t1, F40, F41, F50, F51, F55, one_iff, ints_take, show Int.toNat 0 = 0 from rfl, List.drop_zero, h0, h2, tl]
    and_intros <;> first | assumption | omega
   ·simp only [bp4_d1, F40, F41, F50, F51, F55, one_iff, ints_take, show Int.toNat 0 = 0 from rfl, List.drop_zero, h0, h2, ea, eb, cmpP_cons, c, if_pos, cmpP_nil, cmpP_past, cmpP_ahead, ↓reduceIte, tl]
  ·refine ⟨tellA bp4_t2, _, _, _, tellA_ok (allTold'_iff.1 ?_), bp4_y2, dutiesTold_ok ?_⟩
   ·simp only [bp4_t2, F40, F41, F50, F51, F55, one_iff, ints_take, show Int.toNat 0 = 0 from rfl, List.drop_zero, h0, h2, tl]
    and_intros <;> first | assumption | omega
   ·simp only [bp4_d2, F40, F41, F50, F51, F55, one_iff, ints_take, show Int.toNat 0 = 0 from rfl, List.drop_zero, h0, h2, ea, eb, cmpP_cons, c, if_pos, cmpP_nil, cmpP_past, cmpP_ahead, ↓reduceIte, tl]
 ·have eb := parts_cut (a := (d 3).ints) (by omega)
  have rb := ne_rest (a := (d 3).ints) (by omega) qb
  by_cases c : cmpB (List.take (idxI (d 1).ints).toNat (d 1).ints) (List.take (idxI (d 3).ints).toNat (d 3).ints) = 0
  ·refine ⟨tellA bp4_t3, _, _, _, tellA_ok (allTold'_iff.1 ?_), bp4_y3, dutiesTold_ok ?_⟩
   ·simp only [bp4_t3, F40, F41, F50, F51, F55, one_iff, ints_take, show Int.toNat 0 = 0 from rfl, List.drop_zero, h0, h2, tl]
    and_intros <;> first | assumption | omega
   ·simp only [bp4_d3, F40, F41, F50, F51, F55, one_iff, ints_take, show Int.toNat 0 = 0 from rfl, List.drop_zero, h0, h2, ea, eb, cmpP_cons, c, if_pos, cmpP_nil, cmpP_past, cmpP_ahead, ↓reduceIte, tl]
  ·refine ⟨tellA bp4_t4, _, _, _, tellA_ok (allTold'_iff.1 ?_), bp4_y4, dutiesTold_ok ?_⟩
   ·simp only [bp4_t4, F40, F41, F50, F51, F55, one_iff, ints_take, show Int.toNat 0 = 0 from rfl, List.drop_zero, h0, h2, tl]
    and_intros <;> first | assumption | omega
   ·simp only [bp4_d4, F40, F41, F50, F51, F55, one_iff, ints_take, show Int.toNat 0 = 0 from rfl, List.drop_zero, h0, h2, ea, eb, cmpP_cons, c, if_pos, cmpP_nil, cmpP_past, cmpP_ahead, ↓reduceIte, tl]

def bp5 : CSpec := { args := [.sstr (.var 0) (.var 1), .sstr (.var 2) (.var 3)], next := 0, rows := [], pre := [(.le (.var 0) (.int 100000000000000), true), (.le (.var 2) (.int 100000000000000), true), (.le (.fn 50 (.bi .pair (.var 1) (.int 0))) (.int 5), true), (.eq (.fn 55 (.bi .pair (.var 1) (.int 0))) (.int 1), true), (.eq (.fn 55 (.bi .pair (.var 3) (.int 0))) (.int 1), true)], res := .sint .i64 (.fn 51 (argsE [.var 1, .var 3])), frows := [], same := [] }
abbrev asPd39 : Q × Bool := ((.le (.fn 50 (.bi .pair (.var 1) (.int 0))) (.int 4)), true)
def bp5_t0 : List (Q × Bool) := [asPd1, asPd4, asPd39, asPd16, asPd17]
def bp5_d0 : List Duty := []
theorem bp5_y0 : endC bp5 [] 1000 (callC Try.prog (tellA bp5_t0) [] [(58, idxC), (48, cmpC), (35, bp4)] [] 3000 40 35 bp5) = some bp5_d0 := by kernel_rfl
abbrev asPd40 : Q × Bool := ((.le (.fn 50 (.bi .pair (.var 1) (.int 0))) (.int 4)), false)
def bp5_t1 : List (Q × Bool) := [asPd1, asPd4, asPd40, asPd0, asPd19, asPd20, asPd21, asPd22, asPd23, asPd3, asPd5, asPd24]
def bp5_d1 : List Duty := [(true, (.int 1), (.fn 51 txPd0))]
theorem bp5_y1 : endC bp5 [] 1000 (callC Try.prog (tellA bp5_t1) [] [(58, idxC), (48, cmpC), (35, bp4)] [] 3000 40 35 bp5) = some bp5_d1 := by kernel_rfl
def bp5_t2 : List (Q × Bool) := [asPd1, asPd4, asPd40, asPd0, asPd19, asPd20, asPd21, asPd22, asPd23, asPd3, asPd5, asPd25]
def bp5_d2 : List Duty := [(true, (.fn 41 txPd8), (.fn 51 txPd0))]
theorem bp5_y2 : endC bp5 [] 1000 (callC Try.prog (tellA bp5_t2) [] [(58, idxC), (48, cmpC), (35, bp4)] [] 3000 40 35 bp5) = some bp5_d2 := by kernel_rfl
abbrev asPd41 : Q × Bool := ((.le (.fn 50 txPd5) (.int 4)), true)
def bp5_t3 : List (Q × Bool) := [asPd1, asPd4, asPd40, asPd0, asPd19, asPd20, asPd21, asPd22, asPd23, asPd3, asPd8, asPd9, asPd10, asPd11, asPd12, asPd26, asPd27, asPd28, asPd41, asPd30, asPd31]
def bp5_d3 : List Duty := [(true, (.fn 51 txPd10), (.fn 51 txPd0))]
theorem bp5_y3 : endC bp5 [] 1000 (callC Try.prog (tellA bp5_t3) [] [(58, idxC), (48, cmpC), (35, bp4)] [] 3000 40 35 bp5) = some bp5_d3 := by kernel_rfl
def bp5_t4 : List (Q × Bool) := [asPd1, asPd4, asPd40, asPd0, asPd19, asPd20, asPd21, asPd22, asPd23, asPd3, asPd8, asPd9, asPd10, asPd11, asPd12, asPd32]
def bp5_d4 : List Duty := [(true, (.fn 41 txPd9), (.fn 51 txPd0))]
theorem bp5_y4 : endC bp5 [] 1000 (callC Try.prog (tellA bp5_t4) [] [(58, idxC), (48, cmpC), (35, bp4)] [] 3000 40 35 bp5) = some bp5_d4 := by kernel_rfl
theorem bp5_holds : CHolds Try.prog 35 bp5 F := by
 refine cholds_of sound (tableNil _ _) (specsCons idxC_holds (specsCons cmpC_holds (specsCons bp4_holds (specsNil _ _)))) (oversNil _ _) (fuel := 3000) (depth := 40) (by kernel_rfl) fun d hp hR hA => ?_
 have hp := allTold'_iff.2 hp
 simp only [bp5, tl] at hp hR hA
 simp only [F50, F55, D.toInt_int, one_iff] at hp
 obtain ⟨q0, q2, qk, qa, qb⟩ := hp
 have ha := idx_in (d 1).ints
 have hb := idx_in (d 3).ints
 have sa := ne_not qa
 have sb := ne_not qb
 have h0 : List.take (d 0).toInt.toNat (d 1).ints = (d 1).ints := List.take_of_length_le (by omega)
 have h2 : List.take (d 2).toInt.toNat (d 3).ints = (d 3).ints := List.take_of_length_le (by omega)
 by_cases s : ((splitL (d 1).ints).length : Int) ≤ 4
 ·refine ⟨tellA bp5_t0, _, _, _, tellA_ok (allTold'_iff.1 ?_), bp5_y0, dutiesTold_ok ?_⟩
  ·simp only [bp5_t0, F40, F41, F50, F51, F55, one_iff, ints_take, show Int.toNat 0 = 0 from rfl, List.drop_zero, h0, h2, tl]
   and_intros <;> first | assumption | omega
  ·simp only [bp5_d0, F40, F41, F50, F51, F55, one_iff, ints_take, show Int.toNat 0 = 0 from rfl, List.drop_zero, h0, h2, s, tl]
 have a : 0 ≤ idxI (d 1).ints := by
  by_cases g : idxI (d 1).ints = -1
  ·have := parts_one g
   rw [this] at s
   exact absurd (show ((1 : Nat) : Int) ≤ 4 by omega) s
  ·omega
 have ea := parts_cut (a := (d 1).ints) (by omega)
 have ra := ne_rest (a := (d 1).ints) (by omega) qa
 have la := parts_less (a := (d 1).ints) (by omega)
 by_cases b : idxI (d 3).ints = -1
 ·have eb := parts_one b
  obtain ⟨y, m, ey⟩ : ∃ y m, splitL ((d 1).ints.drop (idxI (d 1).ints + 1).toNat) = y :: m := List.exists_cons_of_ne_nil (split_ne _)
  rw [ey] at ea
  by_cases c : cmpB (List.take (idxI (d 1).ints).toNat (d 1).ints) (d 3).ints = 0
  ·refine ⟨tellA bp5_t1, _, _, _, tellA_ok (allTold'_iff.1 ?_), bp5_y1, dutiesTold_ok ?_⟩
   ·simp only [bp5_t1, F40, F41, F50, F51, F55, one_iff, ints_take, show Int.toNat 0 = 0 from rfl, List.drop_zero, h0, h2, tl]
    and_intros <;> first | assumption | omega
   ·simp only [bp5_d1, F40, F41, F50, F51, F55, one_iff, ints_take, show Int.toNat 0 = 0 from rfl, List.drop_zero, h0, h2, ea, eb, cmpP_cons, c, if_pos, cmpP_nil, cmpP_past, cmpP_ahead, ↓reduceIte, tl]
  ·refine ⟨tellA bp5_t2, _, _, _, tellA_ok (allTold'_iff.1 ?_), bp5_y2, dutiesTold_ok ?_⟩
   ·simp only [bp5_t2, F40, F41, F50, F51, F55, one_iff, ints_take, show Int.toNat 0 = 0 from rfl, List.drop_zero, h0, h2, tl]
    and_intros <;> first | assumption | omega
   ·simp only [bp5_d2, F40, F41, F50, F51, F55, one_iff, ints_take, show Int.toNat 0 = 0 from rfl, List.drop_zero, h0, h2, ea, eb, cmpP_cons, c, if_pos, cmpP_nil, cmpP_past, cmpP_ahead, ↓reduceIte, tl]
 ·have eb := parts_cut (a := (d 3).ints) (by omega)
  have rb := ne_rest (a := (d 3).ints) (by omega) qb
  by_cases c : cmpB (List.take (idxI (d 1).ints).toNat (d 1).ints) (List.take (idxI (d 3).ints).toNat (d 3).ints) = 0
  ·refine ⟨tellA bp5_t3, _, _, _, tellA_ok (allTold'_iff.1 ?_), bp5_y3, dutiesTold_ok ?_⟩
   ·simp only [bp5_t3, F40, F41, F50, F51, F55, one_iff, ints_take, show Int.toNat 0 = 0 from rfl, List.drop_zero, h0, h2, tl]
    and_intros <;> first | assumption | omega
   ·simp only [bp5_d3, F40, F41, F50, F51, F55, one_iff, ints_take, show Int.toNat 0 = 0 from rfl, List.drop_zero, h0, h2, ea, eb, cmpP_cons, c, if_pos, cmpP_nil, cmpP_past, cmpP_ahead, ↓reduceIte, tl]
  ·refine ⟨tellA bp5_t4, _, _, _, tellA_ok (allTold'_iff.1 ?_), bp5_y4, dutiesTold_ok ?_⟩
   ·simp only [bp5_t4, F40, F41, F50, F51, F55, one_iff, ints_take, show Int.toNat 0 = 0 from rfl, List.drop_zero, h0, h2, tl]
    and_intros <;> first | assumption | omega
   ·simp only [bp5_d4, F40, F41, F50, F51, F55, one_iff, ints_take, show Int.toNat 0 = 0 from rfl, List.drop_zero, h0, h2, ea, eb, cmpP_cons, c, if_pos, cmpP_nil, cmpP_past, cmpP_ahead, ↓reduceIte, tl]

def bp6 : CSpec := { args := [.sstr (.var 0) (.var 1), .sstr (.var 2) (.var 3)], next := 0, rows := [], pre := [(.le (.var 0) (.int 100000000000000), true), (.le (.var 2) (.int 100000000000000), true), (.le (.fn 50 (.bi .pair (.var 1) (.int 0))) (.int 6), true), (.eq (.fn 55 (.bi .pair (.var 1) (.int 0))) (.int 1), true), (.eq (.fn 55 (.bi .pair (.var 3) (.int 0))) (.int 1), true)], res := .sint .i64 (.fn 51 (argsE [.var 1, .var 3])), frows := [], same := [] }
abbrev asPd42 : Q × Bool := ((.le (.fn 50 (.bi .pair (.var 1) (.int 0))) (.int 5)), true)
def bp6_t0 : List (Q × Bool) := [asPd1, asPd4, asPd42, asPd16, asPd17]
def bp6_d0 : List Duty := []
theorem bp6_y0 : endC bp6 [] 1000 (callC Try.prog (tellA bp6_t0) [] [(58, idxC), (48, cmpC), (35, bp5)] [] 3000 40 35 bp6) = some bp6_d0 := by kernel_rfl
abbrev asPd43 : Q × Bool := ((.le (.fn 50 (.bi .pair (.var 1) (.int 0))) (.int 5)), false)
def bp6_t1 : List (Q × Bool) := [asPd1, asPd4, asPd43, asPd0, asPd19, asPd20, asPd21, asPd22, asPd23, asPd3, asPd5, asPd24]
def bp6_d1 : List Duty := [(true, (.int 1), (.fn 51 txPd0))]
theorem bp6_y1 : endC bp6 [] 1000 (callC Try.prog (tellA bp6_t1) [] [(58, idxC), (48, cmpC), (35, bp5)] [] 3000 40 35 bp6) = some bp6_d1 := by kernel_rfl
def bp6_t2 : List (Q × Bool) := [asPd1, asPd4, asPd43, asPd0, asPd19, asPd20, asPd21, asPd22, asPd23, asPd3, asPd5, asPd25]
def bp6_d2 : List Duty := [(true, (.fn 41 txPd8), (.fn 51 txPd0))]
theorem bp6_y2 : endC bp6 [] 1000 (callC Try.prog (tellA bp6_t2) [] [(58, idxC), (48, cmpC), (35, bp5)] [] 3000 40 35 bp6) = some bp6_d2 := by kernel_rfl
abbrev asPd44 : Q × Bool := ((.le (.fn 50 txPd5) (.int 5)), true)
def bp6_t3 : List (Q × Bool) := [asPd1, asPd4, asPd43, asPd0, asPd19, asPd20, asPd21, asPd22, asPd23, asPd3, asPd8, asPd9, asPd10, asPd11, asPd12, asPd26, asPd27, asPd28, asPd44, asPd30, asPd31]
def bp6_d3 : List Duty := [(true, (.fn 51 txPd10), (.fn 51 txPd0))]
theorem bp6_y3 : endC bp6 [] 1000 (callC Try.prog (tellA bp6_t3) [] [(58, idxC), (48, cmpC), (35, bp5)] [] 3000 40 35 bp6) = some bp6_d3 := by kernel_rfl
def bp6_t4 : List (Q × Bool) := [asPd1, asPd4, asPd43, asPd0, asPd19, asPd20, asPd21, asPd22, asPd23, asPd3, asPd8, asPd9, asPd10, asPd11, asPd12, asPd32]
def bp6_d4 : List Duty := [(true, (.fn 41 txPd9), (.fn 51 txPd0))]
theorem bp6_y4 : endC bp6 [] 1000 (callC Try.prog (tellA bp6_t4) [] [(58, idxC), (48, cmpC), (35, bp5)] [] 3000 40 35 bp6) = some bp6_d4 := by kernel_rfl
theorem bp6_holds : CHolds Try.prog 35 bp6 F := by
 refine cholds_of sound (tableNil _ _) (specsCons idxC_holds (specsCons cmpC_holds (specsCons bp5_holds (specsNil _ _)))) (oversNil _ _) (fuel := 3000) (depth := 40) (by kernel_rfl) fun d hp hR hA => ?_
 have hp := allTold'_iff.2 hp
 simp only [bp6, tl] at hp hR hA
 simp only [F50, F55, D.toInt_int, one_iff] at hp
 obtain ⟨q0, q2, qk, qa, qb⟩ := hp
 have ha := idx_in (d 1).ints
 have hb := idx_in (d 3).ints
 have sa := ne_not qa
 have sb := ne_not qb
 have h0 : List.take (d 0).toInt.toNat (d 1).ints = (d 1).ints := List.take_of_length_le (by omega)
 have h2 : List.take (d 2).toInt.toNat (d 3).ints = (d 3).ints := List.take_of_length_le (by omega)
 by_cases s : ((splitL (d 1).ints).length : Int) ≤ 5
 ·refine ⟨tellA bp6_t0, _, _, _, tellA_ok (allTold'_iff.1 ?_), bp6_y0, dutiesTold_ok ?_⟩
  ·simp only [bp6_t0, F40, F41, F50, F51, F55, one_iff, ints_take, show Int.toNat 0 = 0 from rfl, List.drop_zero, h0, h2, tl]
   and_intros <;> first | assumption | omega
  ·simp only [bp6_d0, F40, F41, F50, F51, F55, one_iff, ints_take, show Int.toNat 0 = 0 from rfl, List.drop_zero, h0, h2, s, tl]
 have a : 0 ≤ idxI (d 1).ints := by
  by_cases g : idxI (d 1).ints = -1
  ·have := parts_one g
   rw [this] at s
   exact absurd (show ((1 : Nat) : Int) ≤ 5 by omega) s
  ·omega
 have ea := parts_cut (a := (d 1).ints) (by omega)
 have ra := ne_rest (a := (d 1).ints) (by omega) qa
 have la := parts_less (a := (d 1).ints) (by omega)
 by_cases b : idxI (d 3).ints = -1
 ·have eb := parts_one b
  obtain ⟨y, m, ey⟩ : ∃ y m, splitL ((d 1).ints.drop (idxI (d 1).ints + 1).toNat) = y :: m := List.exists_cons_of_ne_nil (split_ne _)
  rw [ey] at ea
  by_cases c : cmpB (List.take (idxI (d 1).ints).toNat (d 1).ints) (d 3).ints = 0
  ·refine ⟨tellA bp6_t1, _, _, _, tellA_ok (allTold'_iff.1 ?_), bp6_y1, dutiesTold_ok ?_⟩
   ·simp only [bp6_t1, F40, F41, F50, F51, F55, one_iff, ints_take, show Int.toNat 0 = 0 from rfl, List.drop_zero, h0, h2, tl]
    and_intros <;> first | assumption | omega
   ·simp only [bp6_d1, F40, F41, F50, F51, F55, one_iff, ints_take, show Int.toNat 0 = 0 from rfl, List.drop_zero, h0, h2, ea, eb, cmpP_cons, c, if_pos, cmpP_nil, cmpP_past, cmpP_ahead, ↓reduceIte, tl]
  ·refine ⟨tellA bp6_t2, _, _, _, tellA_ok (allTold'_iff.1 ?_), bp6_y2, dutiesTold_ok ?_⟩
   ·simp only [bp6_t2, F40, F41, F50, F51, F55, one_iff, ints_take, show Int.toNat 0 = 0 from rfl, List.drop_zero, h0, h2, tl]
    and_intros <;> first | assumption | omega
   ·simp only [bp6_d2, F40, F41, F50, F51, F55, one_iff, ints_take, show Int.toNat 0 = 0 from rfl, List.drop_zero, h0, h2, ea, eb, cmpP_cons, c, if_pos, cmpP_nil, cmpP_past, cmpP_ahead, ↓reduceIte, tl]
 ·have eb := parts_cut (a := (d 3).ints) (by omega)
  have rb := ne_rest (a := (d 3).ints) (by omega) qb
  by_cases c : cmpB (List.take (idxI (d 1).ints).toNat (d 1).ints) (List.take (idxI (d 3).ints).toNat (d 3).ints) = 0
  ·refine ⟨tellA bp6_t3, _, _, _, tellA_ok (allTold'_iff.1 ?_), bp6_y3, dutiesTold_ok ?_⟩
   ·simp only [bp6_t3, F40, F41, F50, F51, F55, one_iff, ints_take, show Int.toNat 0 = 0 from rfl, List.drop_zero, h0, h2, tl]
    and_intros <;> first | assumption | omega
   ·simp only [bp6_d3, F40, F41, F50, F51, F55, one_iff, ints_take, show Int.toNat 0 = 0 from rfl, List.drop_zero, h0, h2, ea, eb, cmpP_cons, c, if_pos, cmpP_nil, cmpP_past, cmpP_ahead, ↓reduceIte, tl]
  ·refine ⟨tellA bp6_t4, _, _, _, tellA_ok (allTold'_iff.1 ?_), bp6_y4, dutiesTold_ok ?_⟩
   ·simp only [bp6_t4, F40, F41, F50, F51, F55, one_iff, ints_take, show Int.toNat 0 = 0 from rfl, List.drop_zero, h0, h2, tl]
    and_intros <;> first | assumption | omega
   ·simp only [bp6_d4, F40, F41, F50, F51, F55, one_iff, ints_take, show Int.toNat 0 = 0 from rfl, List.drop_zero, h0, h2, ea, eb, cmpP_cons, c, if_pos, cmpP_nil, cmpP_past, cmpP_ahead, ↓reduceIte, tl]

def bp7 : CSpec := { args := [.sstr (.var 0) (.var 1), .sstr (.var 2) (.var 3)], next := 0, rows := [], pre := [(.le (.var 0) (.int 100000000000000), true), (.le (.var 2) (.int 100000000000000), true), (.le (.fn 50 (.bi .pair (.var 1) (.int 0))) (.int 7), true), (.eq (.fn 55 (.bi .pair (.var 1) (.int 0))) (.int 1), true), (.eq (.fn 55 (.bi .pair (.var 3) (.int 0))) (.int 1), true)], res := .sint .i64 (.fn 51 (argsE [.var 1, .var 3])), frows := [], same := [] }
abbrev asPd45 : Q × Bool := ((.le (.fn 50 (.bi .pair (.var 1) (.int 0))) (.int 6)), true)
def bp7_t0 : List (Q × Bool) := [asPd1, asPd4, asPd45, asPd16, asPd17]
def bp7_d0 : List Duty := []
theorem bp7_y0 : endC bp7 [] 1000 (callC Try.prog (tellA bp7_t0) [] [(58, idxC), (48, cmpC), (35, bp6)] [] 3000 40 35 bp7) = some bp7_d0 := by kernel_rfl
abbrev asPd46 : Q × Bool := ((.le (.fn 50 (.bi .pair (.var 1) (.int 0))) (.int 6)), false)
def bp7_t1 : List (Q × Bool) := [asPd1, asPd4, asPd46, asPd0, asPd19, asPd20, asPd21, asPd22, asPd23, asPd3, asPd5, asPd24]
def bp7_d1 : List Duty := [(true, (.int 1), (.fn 51 txPd0))]
theorem bp7_y1 : endC bp7 [] 1000 (callC Try.prog (tellA bp7_t1) [] [(58, idxC), (48, cmpC), (35, bp6)] [] 3000 40 35 bp7) = some bp7_d1 := by kernel_rfl
def bp7_t2 : List (Q × Bool) := [asPd1, asPd4, asPd46, asPd0, asPd19, asPd20, asPd21, asPd22, asPd23, asPd3, asPd5, asPd25]
def bp7_d2 : List Duty := [(true, (.fn 41 txPd8), (.fn 51 txPd0))]
theorem bp7_y2 : endC bp7 [] 1000 (callC Try.prog (tellA bp7_t2) [] [(58, idxC), (48, cmpC), (35, bp6)] [] 3000 40 35 bp7) = some bp7_d2 := by kernel_rfl
abbrev asPd47 : Q × Bool := ((.le (.fn 50 txPd5) (.int 6)), true)
def bp7_t3 : List (Q × Bool) := [asPd1, asPd4, asPd46, asPd0, asPd19, asPd20, asPd21, asPd22, asPd23, asPd3, asPd8, asPd9, asPd10, asPd11, asPd12, asPd26, asPd27, asPd28, asPd47, asPd30, asPd31]
def bp7_d3 : List Duty := [(true, (.fn 51 txPd10), (.fn 51 txPd0))]
theorem bp7_y3 : endC bp7 [] 1000 (callC Try.prog (tellA bp7_t3) [] [(58, idxC), (48, cmpC), (35, bp6)] [] 3000 40 35 bp7) = some bp7_d3 := by kernel_rfl
def bp7_t4 : List (Q × Bool) := [asPd1, asPd4, asPd46, asPd0, asPd19, asPd20, asPd21, asPd22, asPd23, asPd3, asPd8, asPd9, asPd10, asPd11, asPd12, asPd32]
def bp7_d4 : List Duty := [(true, (.fn 41 txPd9), (.fn 51 txPd0))]
theorem bp7_y4 : endC bp7 [] 1000 (callC Try.prog (tellA bp7_t4) [] [(58, idxC), (48, cmpC), (35, bp6)] [] 3000 40 35 bp7) = some bp7_d4 := by kernel_rfl
theorem bp7_holds : CHolds Try.prog 35 bp7 F := by
 refine cholds_of sound (tableNil _ _) (specsCons idxC_holds (specsCons cmpC_holds (specsCons bp6_holds (specsNil _ _)))) (oversNil _ _) (fuel := 3000) (depth := 40) (by kernel_rfl) fun d hp hR hA => ?_
 have hp := allTold'_iff.2 hp
 simp only [bp7, tl] at hp hR hA
 simp only [F50, F55, D.toInt_int, one_iff] at hp
 obtain ⟨q0, q2, qk, qa, qb⟩ := hp
 have ha := idx_in (d 1).ints
 have hb := idx_in (d 3).ints
 have sa := ne_not qa
 have sb := ne_not qb
 have h0 : List.take (d 0).toInt.toNat (d 1).ints = (d 1).ints := List.take_of_length_le (by omega)
 have h2 : List.take (d 2).toInt.toNat (d 3).ints = (d 3).ints := List.take_of_length_le (by omega)
 by_cases s : ((splitL (d 1).ints).length : Int) ≤ 6
 ·refine ⟨tellA bp7_t0, _, _, _, tellA_ok (allTold'_iff.1 ?_), bp7_y0, dutiesTold_ok ?_⟩
  ·simp only [bp7_t0, F40, F41, F50, F51, F55, one_iff, ints_take, show Int.toNat 0 = 0 from rfl, List.drop_zero, h0, h2, tl]
   and_intros <;> first | assumption | omega
  ·simp only [bp7_d0, F40, F41, F50, F51, F55, one_iff, ints_take, show Int.toNat 0 = 0 from rfl, List.drop_zero, h0, h2, s, tl]
 have a : 0 ≤ idxI (d 1).ints := by
  by_cases g : idxI (d 1).ints = -1
  ·have := parts_one g
   rw [this] at s
   exact absurd (show ((1 : Nat) : Int) ≤ 6 by omega) s
  ·omega
 have ea := parts_cut (a := (d 1).ints) (by omega)
 have ra := ne_rest (a := (d 1).ints) (by omega) qa
 have la := parts_less (a := (d 1).ints) (by omega)
 by_cases b : idxI (d 3).ints = -1
 ·have eb := parts_one b
  obtain ⟨y, m, ey⟩ : ∃ y m, splitL ((d 1).ints.drop (idxI (d 1).ints + 1).toNat) = y :: m := List.exists_cons_of_ne_nil (split_ne _)
  rw [ey] at ea
  by_cases c : cmpB (List.take (idxI (d 1).ints).toNat (d 1).ints) (d 3).ints = 0
  ·refine ⟨tellA bp7_t1, _, _, _, tellA_ok (allTold'_iff.1 ?_), bp7_y1, dutiesTold_ok ?_⟩
   ·simp only [bp7_t1, F40, F41, F50, F51, F55, one_iff, ints_take, show Int.toNat 0 = 0 from rfl, List.drop_zero, h0, h2, tl]
    and_intros <;> first | assumption | omega
   ·simp only [bp7_d1, F40, F41, F50, F51, F55, one_iff, ints_take, show Int.toNat 0 = 0 from rfl, List.drop_zero, h0, h2, ea, eb, cmpP_cons, c, if_pos, cmpP_nil, cmpP_past, cmpP_ahead, ↓reduceIte, tl]
  ·refine ⟨tellA bp7_t2, _, _, _, tellA_ok (allTold'_iff.1 ?_), bp7_y2, dutiesTold_ok ?_⟩
   ·simp only [bp7_t2, F40, F41, F50, F51, F55, one_iff, ints_take, show Int.toNat 0 = 0 from rfl, List.drop_zero, h0, h2, tl]
    and_intros <;> first | assumption | omega
   ·simp only [bp7_d2, F40, F41, F50, F51, F55, one_iff, ints_take, show Int.toNat 0 = 0 from rfl, List.drop_zero, h0, h2, ea, eb, cmpP_cons, c, if_pos, cmpP_nil, cmpP_past, cmpP_ahead, ↓reduceIte, tl]
 ·have eb := parts_cut (a := (d 3).ints) (by omega)
  have rb := ne_rest (a := (d 3).ints) (by omega) qb
  by_cases c : cmpB (List.take (idxI (d 1).ints).toNat (d 1).ints) (List.take (idxI (d 3).ints).toNat (d 3).ints) = 0
  ·refine ⟨tellA bp7_t3, _, _, _, tellA_ok (allTold'_iff.1 ?_), bp7_y3, dutiesTold_ok ?_⟩
   ·simp only [bp7_t3, F40, F41, F50, F51, F55, one_iff, ints_take, show Int.toNat 0 = 0 from rfl, List.drop_zero, h0, h2, tl]
    and_intros <;> first | assumption | omega
   ·simp only [bp7_d3, F40, F41, F50, F51, F55, one_iff, ints_take, show Int.toNat 0 = 0 from rfl, List.drop_zero, h0, h2, ea, eb, cmpP_cons, c, if_pos, cmpP_nil, cmpP_past, cmpP_ahead, ↓reduceIte, tl]
  ·refine ⟨tellA bp7_t4, _, _, _, tellA_ok (allTold'_iff.1 ?_), bp7_y4, dutiesTold_ok ?_⟩
   ·simp only [bp7_t4, F40, F41, F50, F51, F55, one_iff, ints_take, show Int.toNat 0 = 0 from rfl, List.drop_zero, h0, h2, tl]
    and_intros <;> first | assumption | omega
   ·simp only [bp7_d4, F40, F41, F50, F51, F55, one_iff, ints_take, show Int.toNat 0 = 0 from rfl, List.drop_zero, h0, h2, ea, eb, cmpP_cons, c, if_pos, cmpP_nil, cmpP_past, cmpP_ahead, ↓reduceIte, tl]

def bp8 : CSpec := { args := [.sstr (.var 0) (.var 1), .sstr (.var 2) (.var 3)], next := 0, rows := [], pre := [(.le (.var 0) (.int 100000000000000), true), (.le (.var 2) (.int 100000000000000), true), (.le (.fn 50 (.bi .pair (.var 1) (.int 0))) (.int 8), true), (.eq (.fn 55 (.bi .pair (.var 1) (.int 0))) (.int 1), true), (.eq (.fn 55 (.bi .pair (.var 3) (.int 0))) (.int 1), true)], res := .sint .i64 (.fn 51 (argsE [.var 1, .var 3])), frows := [], same := [] }
abbrev asPd48 : Q × Bool := ((.le (.fn 50 (.bi .pair (.var 1) (.int 0))) (.int 7)), true)
def bp8_t0 : List (Q × Bool) := [asPd1, asPd4, asPd48, asPd16, asPd17]
def bp8_d0 : List Duty := []
theorem bp8_y0 : endC bp8 [] 1000 (callC Try.prog (tellA bp8_t0) [] [(58, idxC), (48, cmpC), (35, bp7)] [] 3000 40 35 bp8) = some bp8_d0 := by kernel_rfl
abbrev asPd49 : Q × Bool := ((.le (.fn 50 (.bi .pair (.var 1) (.int 0))) (.int 7)), false)
def bp8_t1 : List (Q × Bool) := [asPd1, asPd4, asPd49, asPd0, asPd19, asPd20, asPd21, asPd22, asPd23, asPd3, asPd5, asPd24]
def bp8_d1 : List Duty := [(true, (.int 1), (.fn 51 txPd0))]
theorem bp8_y1 : endC bp8 [] 1000 (callC Try.prog (tellA bp8_t1) [] [(58, idxC), (48, cmpC), (35, bp7)] [] 3000 40 35 bp8) = some bp8_d1 := by kernel_rfl
def bp8_t2 : List (Q × Bool) := [asPd1, asPd4, asPd49, asPd0, asPd19, asPd20, asPd21, asPd22, asPd23, asPd3, asPd5, asPd25]
def bp8_d2 : List Duty := [(true, (.fn 41 txPd8), (.fn 51 txPd0))]
theorem bp8_y2 : endC bp8 [] 1000 (callC Try.prog (tellA bp8_t2) [] [(58, idxC), (48, cmpC), (35, bp7)] [] 3000 40 35 bp8) = some bp8_d2 := by kernel_rfl
abbrev asPd50 : Q × Bool := ((.le (.fn 50 txPd5) (.int 7)), true)
def bp8_t3 : List (Q × Bool) := [asPd1, asPd4, asPd49, asPd0, asPd19, asPd20, asPd21, asPd22, asPd23, asPd3, asPd8, asPd9, asPd10, asPd11, asPd12, asPd26, asPd27, asPd28, asPd50, asPd30, asPd31]
def bp8_d3 : List Duty := [(true, (.fn 51 txPd10), (.fn 51 txPd0))]
theorem bp8_y3 : endC bp8 [] 1000 (callC Try.prog (tellA bp8_t3) [] [(58, idxC), (48, cmpC), (35, bp7)] [] 3000 40 35 bp8) = some bp8_d3 := by kernel_rfl
def bp8_t4 : List (Q × Bool) := [asPd1, asPd4, asPd49, asPd0, asPd19, asPd20, asPd21, asPd22, asPd23, asPd3, asPd8, asPd9, asPd10, asPd11, asPd12, asPd32]
def bp8_d4 : List Duty := [(true, (.fn 41 txPd9), (.fn 51 txPd0))]
theorem bp8_y4 : endC bp8 [] 1000 (callC Try.prog (tellA bp8_t4) [] [(58, idxC), (48, cmpC), (35, bp7)] [] 3000 40 35 bp8) = some bp8_d4 := by kernel_rfl
theorem bp8_holds : CHolds Try.prog 35 bp8 F := by
 refine cholds_of sound (tableNil _ _) (specsCons idxC_holds (specsCons cmpC_holds (specsCons bp7_holds (specsNil _ _)))) (oversNil _ _) (fuel := 3000) (depth := 40) (by kernel_rfl) fun d hp hR hA => ?_
 have hp := allTold'_iff.2 hp
 simp only [bp8, tl] at hp hR hA
 simp only [F50, F55, D.toInt_int, one_iff] at hp
 obtain ⟨q0, q2, qk, qa, qb⟩ := hp
 have ha := idx_in (d 1).ints
 have hb := idx_in (d 3).ints
 have sa := ne_not qa
 have sb := ne_not qb
 have h0 : List.take (d 0).toInt.toNat (d 1).ints = (d 1).ints := List.take_of_length_le (by omega)
 have h2 : List.take (d 2).toInt.toNat (d 3).ints = (d 3).ints := List.take_of_length_le (by omega)
 by_cases s : ((splitL (d 1).ints).length : Int) ≤ 7
 ·refine ⟨tellA bp8_t0, _, _, _, tellA_ok (allTold'_iff.1 ?_), bp8_y0, dutiesTold_ok ?_⟩
  ·simp only [bp8_t0, F40, F41, F50, F51, F55, one_iff, ints_take, show Int.toNat 0 = 0 from rfl, List.drop_zero, h0, h2, tl]
   and_intros <;> first | assumption | omega
  ·simp only [bp8_d0, F40, F41, F50, F51, F55, one_iff, ints_take, show Int.toNat 0 = 0 from rfl, List.drop_zero, h0, h2, s, tl]
 have a : 0 ≤ idxI (d 1).ints := by
  by_cases g : idxI (d 1).ints = -1
  ·have := parts_one g
   rw [this] at s
   exact absurd (show ((1 : Nat) : Int) ≤ 7 by omega) s
  ·omega
 have ea := parts_cut (a := (d 1).ints) (by omega)
 have ra := ne_rest (a := (d 1).ints) (by omega) qa
 have la := parts_less (a := (d 1).ints) (by omega)
 by_cases b : idxI (d 3).ints = -1
 ·have eb := parts_one b
  obtain ⟨y, m, ey⟩ : ∃ y m, splitL ((d 1).ints.drop (idxI (d 1).ints + 1).toNat) = y :: m := List.exists_cons_of_ne_nil (split_ne _)
  rw [ey] at ea
  by_cases c : cmpB (List.take (idxI (d 1).ints).toNat (d 1).ints) (d 3).ints = 0
  ·refine ⟨tellA bp8_t1, _, _, _, tellA_ok (allTold'_iff.1 ?_), bp8_y1, dutiesTold_ok ?_⟩
   ·simp only [bp8_t1, F40, F41, F50, F51, F55, one_iff, ints_take, show Int.toNat 0 = 0 from rfl, List.drop_zero, h0, h2, tl]
    and_intros <;> first | assumption | omega
   ·simp only [bp8_d1, F40, F41, F50, F51, F55, one_iff, ints_take, show Int.toNat 0 = 0 from rfl, List.drop_zero, h0, h2, ea, eb, cmpP_cons, c, if_pos, cmpP_nil, cmpP_past, cmpP_ahead, ↓reduceIte, tl]
  ·refine ⟨tellA bp8_t2, _, _, _, tellA_ok (allTold'_iff.1 ?_), bp8_y2, dutiesTold_ok ?_⟩
   ·simp only [bp8_t2, F40, F41, F50, F51, F55, one_iff, ints_take, show Int.toNat 0 = 0 from rfl, List.drop_zero, h0, h2, tl]
    and_intros <;> first | assumption | omega
   ·simp only [bp8_d2, F40, F41, F50, F51, F55, one_iff, ints_take, show Int.toNat 0 = 0 from rfl, List.drop_zero, h0, h2, ea, eb, cmpP_cons, c, if_pos, cmpP_nil, cmpP_past, cmpP_ahead, ↓reduceIte, tl]
 ·have eb := parts_cut (a := (d 3).ints) (by omega)
  have rb := ne_rest (a := (d 3).ints) (by omega) qb
  by_cases c : cmpB (List.take (idxI (d 1).ints).toNat (d 1).ints) (List.take (idxI (d 3).ints).toNat (d 3).ints) = 0
  ·refine ⟨tellA bp8_t3, _, _, _, tellA_ok (allTold'_iff.1 ?_), bp8_y3, dutiesTold_ok ?_⟩
   ·simp only [bp8_t3, F40, F41, F50, F51, F55, one_iff, ints_take, show Int.toNat 0 = 0 from rfl, List.drop_zero, h0, h2, tl]
    and_intros <;> first | assumption | omega
   ·simp only [bp8_d3, F40, F41, F50, F51, F55, one_iff, ints_take, show Int.toNat 0 = 0 from rfl, List.drop_zero, h0, h2, ea, eb, cmpP_cons, c, if_pos, cmpP_nil, cmpP_past, cmpP_ahead, ↓reduceIte, tl]
  ·refine ⟨tellA bp8_t4, _, _, _, tellA_ok (allTold'_iff.1 ?_), bp8_y4, dutiesTold_ok ?_⟩
   ·simp only [bp8_t4, F40, F41, F50, F51, F55, one_iff, ints_take, show Int.toNat 0 = 0 from rfl, List.drop_zero, h0, h2, tl]
    and_intros <;> first | assumption | omega
   ·simp only [bp8_d4, F40, F41, F50, F51, F55, one_iff, ints_take, show Int.toNat 0 = 0 from rfl, List.drop_zero, h0, h2, ea, eb, cmpP_cons, c, if_pos, cmpP_nil, cmpP_past, cmpP_ahead, ↓reduceIte, tl]

def bp9 : CSpec := { args := [.sstr (.var 0) (.var 1), .sstr (.var 2) (.var 3)], next := 0, rows := [], pre := [(.le (.var 0) (.int 100000000000000), true), (.le (.var 2) (.int 100000000000000), true), (.le (.fn 50 (.bi .pair (.var 1) (.int 0))) (.int 9), true), (.eq (.fn 55 (.bi .pair (.var 1) (.int 0))) (.int 1), true), (.eq (.fn 55 (.bi .pair (.var 3) (.int 0))) (.int 1), true)], res := .sint .i64 (.fn 51 (argsE [.var 1, .var 3])), frows := [], same := [] }
abbrev asPd51 : Q × Bool := ((.le (.fn 50 (.bi .pair (.var 1) (.int 0))) (.int 8)), true)
def bp9_t0 : List (Q × Bool) := [asPd1, asPd4, asPd51, asPd16, asPd17]
def bp9_d0 : List Duty := []
theorem bp9_y0 : endC bp9 [] 1000 (callC Try.prog (tellA bp9_t0) [] [(58, idxC), (48, cmpC), (35, bp8)] [] 3000 40 35 bp9) = some bp9_d0 := by kernel_rfl
abbrev asPd52 : Q × Bool := ((.le (.fn 50 (.bi .pair (.var 1) (.int 0))) (.int 8)), false)
def bp9_t1 : List (Q × Bool) := [asPd1, asPd4, asPd52, asPd0, asPd19, asPd20, asPd21, asPd22, asPd23, asPd3, asPd5, asPd24]
def bp9_d1 : List Duty := [(true, (.int 1), (.fn 51 txPd0))]
theorem bp9_y1 : endC bp9 [] 1000 (callC Try.prog (tellA bp9_t1) [] [(58, idxC), (48, cmpC), (35, bp8)] [] 3000 40 35 bp9) = some bp9_d1 := by kernel_rfl
def bp9_t2 : List (Q × Bool) := [asPd1, asPd4, asPd52, asPd0, asPd19, asPd20, asPd21, asPd22, asPd23, asPd3, asPd5, asPd25]
def bp9_d2 : List Duty := [(true, (.fn 41 txPd8), (.fn 51 txPd0))]
theorem bp9_y2 : endC bp9 [] 1000 (callC Try.prog (tellA bp9_t2) [] [(58, idxC), (48, cmpC), (35, bp8)] [] 3000 40 35 bp9) = some bp9_d2 := by kernel_rfl
abbrev asPd53 : Q × Bool := ((.le (.fn 50 txPd5) (.int 8)), true)
def bp9_t3 : List (Q × Bool) := [asPd1, asPd4, asPd52, asPd0, asPd19, asPd20, asPd21, asPd22, asPd23, asPd3, asPd8, asPd9, asPd10, asPd11, asPd12, asPd26, asPd27, asPd28, asPd53, asPd30, asPd31]
def bp9_d3 : List Duty := [(true, (.fn 51 txPd10), (.fn 51 txPd0))]
theorem bp9_y3 : endC bp9 [] 1000 (callC Try.prog (tellA bp9_t3) [] [(58, idxC), (48, cmpC), (35, bp8)] [] 3000 40 35 bp9) = some bp9_d3 := by kernel_rfl
def bp9_t4 : List (Q × Bool) := [asPd1, asPd4, asPd52, asPd0, asPd19, asPd20, asPd21, asPd22, asPd23, asPd3, asPd8, asPd9, asPd10, asPd11, asPd12, asPd32]
def bp9_d4 : List Duty := [(true, (.fn 41 txPd9), (.fn 51 txPd0))]
theorem bp9_y4 : endC bp9 [] 1000 (callC Try.prog (tellA bp9_t4) [] [(58, idxC), (48, cmpC), (35, bp8)] [] 3000 40 35 bp9) = some bp9_d4 := by kernel_rfl
theorem bp9_holds : CHolds Try.prog 35 bp9 F := by
 refine cholds_of sound (tableNil _ _) (specsCons idxC_holds (specsCons cmpC_holds (specsCons bp8_holds (specsNil _ _)))) (oversNil _ _) (fuel := 3000) (depth := 40) (by kernel_rfl) fun d hp hR hA => ?_
 have hp := allTold'_iff.2 hp
 simp only [bp9, tl] at hp hR hA
 simp only [F50, F55, D.toInt_int, one_iff] at hp
 obtain ⟨q0, q2, qk, qa, qb⟩ := hp
 have ha := idx_in (d 1).ints
 have hb := idx_in (d 3).ints
 have sa := ne_not qa
 have sb := ne_not qb
 have h0 : List.take (d 0).toInt.toNat (d 1).ints = (d 1).ints := List.take_of_length_le (by omega)
 have h2 : List.take (d 2).toInt.toNat (d 3).ints = (d 3).ints := List.take_of_length_le (by omega)
 by_cases s : ((splitL (d 1).ints).length : Int) ≤ 8
 ·refine ⟨tellA bp9_t0, _, _, _, tellA_ok (allTold'_iff.1 ?_), bp9_y0, dutiesTold_ok ?_⟩
  ·simp only [bp9_t0, F40, F41, F50, F51, F55, one_iff, ints_take, show Int.toNat 0 = 0 from rfl, List.drop_zero, h0, h2, tl]
   and_intros <;> first | assumption | omega
  ·simp only [bp9_d0, F40, F41, F50, F51, F55, one_iff, ints_take, show Int.toNat 0 = 0 from rfl, List.drop_zero, h0, h2, s, tl]
 have a : 0 ≤ idxI (d 1).ints := by
  by_cases g : idxI (d 1).ints = -1
  ·have := parts_one g
   rw [this] at s
   exact absurd (show ((1 : Nat) : Int) ≤ 8 by omega) s
  ·omega
 have ea := parts_cut (a := (d 1).ints) (by omega)
 have ra := ne_rest (a := (d 1).ints) (by omega) qa
 have la := parts_less (a := (d 1).ints) (by omega)
 by_cases b : idxI (d 3).ints = -1
 ·have eb := parts_one b
  obtain ⟨y, m, ey⟩ : ∃ y m, splitL ((d 1).ints.drop (idxI (d 1).ints + 1).toNat) = y :: m := List.exists_cons_of_ne_nil (split_ne _)
  rw [ey] at ea
  by_cases c : cmpB (List.take (idxI (d 1).ints).toNat (d 1).ints) (d 3).ints = 0
  ·refine ⟨tellA bp9_t1, _, _, _, tellA_ok (allTold'_iff.1 ?_), bp9_y1, dutiesTold_ok ?_⟩
   ·simp only [bp9_t1, F40, F41, F50, F51, F55, one_iff, ints_take, show Int.toNat 0 = 0 from rfl, List.drop_zero, h0, h2, tl]
    and_intros <;> first | assumption | omega
   ·simp only [bp9_d1, F40, F41, F50, F51, F55, one_iff, ints_take, show Int.toNat 0 = 0 from rfl, List.drop_zero, h0, h2, ea, eb, cmpP_cons, c, if_pos, cmpP_nil, cmpP_past, cmpP_ahead, ↓reduceIte, tl]
  ·refine ⟨tellA bp9_t2, _, _, _, tellA_ok (allTold'_iff.1 ?_), bp9_y2, dutiesTold_ok ?_⟩
   ·simp only [bp9_t2, F40, F41, F50, F51, F55, one_iff, ints_take, show Int.toNat 0 = 0 from rfl, List.drop_zero, h0, h2, tl]
    and_intros <;> first | assumption | omega
   ·simp only [bp9_d2, F40, F41, F50, F51, F55, one_iff, ints_take, show Int.toNat 0 = 0 from rfl, List.drop_zero, h0, h2, ea, eb, cmpP_cons, c, if_pos, cmpP_nil, cmpP_past, cmpP_ahead, ↓reduceIte, tl]
 ·have eb := parts_cut (a := (d 3).ints) (by omega)
  have rb := ne_rest (a := (d 3).ints) (by omega) qb
  by_cases c : cmpB (List.take (idxI (d 1).ints).toNat (d 1).ints) (List.take (idxI (d 3).ints).toNat (d 3).ints) = 0
  ·refine ⟨tellA bp9_t3, _, _, _, tellA_ok (allTold'_iff.1 ?_), bp9_y3, dutiesTold_ok ?_⟩
   ·simp only [bp9_t3, F40, F41, F50, F51, F55, one_iff, ints_take, show Int.toNat 0 = 0 from rfl, List.drop_zero, h0, h2, tl]
    and_intros <;> first | assumption | omega
   ·simp only [bp9_d3, F40, F41, F50, F51, F55, one_iff, ints_take, show Int.toNat 0 = 0 from rfl, List.drop_zero, h0, h2, ea, eb, cmpP_cons, c, if_pos, cmpP_nil, cmpP_past, cmpP_ahead, ↓reduceIte, tl]
  ·refine ⟨tellA bp9_t4, _, _, _, tellA_ok (allTold'_iff.1 ?_), bp9_y4, dutiesTold_ok ?_⟩
   ·simp only [bp9_t4, F40, F41, F50, F51, F55, one_iff, ints_take, show Int.toNat 0 = 0 from rfl, List.drop_zero, h0, h2, tl]
    and_intros <;> first | assumption | omega
   ·simp only [bp9_d4, F40, F41, F50, F51, F55, one_iff, ints_take, show Int.toNat 0 = 0 from rfl, List.drop_zero, h0, h2, ea, eb, cmpP_cons, c, if_pos, cmpP_nil, cmpP_past, cmpP_ahead, ↓reduceIte, tl]

def bp10 : CSpec := { args := [.sstr (.var 0) (.var 1), .sstr (.var 2) (.var 3)], next := 0, rows := [], pre := [(.le (.var 0) (.int 100000000000000), true), (.le (.var 2) (.int 100000000000000), true), (.le (.fn 50 (.bi .pair (.var 1) (.int 0))) (.int 10), true), (.eq (.fn 55 (.bi .pair (.var 1) (.int 0))) (.int 1), true), (.eq (.fn 55 (.bi .pair (.var 3) (.int 0))) (.int 1), true)], res := .sint .i64 (.fn 51 (argsE [.var 1, .var 3])), frows := [], same := [] }
abbrev asPd54 : Q × Bool := ((.le (.fn 50 (.bi .pair (.var 1) (.int 0))) (.int 9)), true)
def bp10_t0 : List (Q × Bool) := [asPd1, asPd4, asPd54, asPd16, asPd17]
def bp10_d0 : List Duty := []
theorem bp10_y0 : endC bp10 [] 1000 (callC Try.prog (tellA bp10_t0) [] [(58, idxC), (48, cmpC), (35, bp9)] [] 3000 40 35 bp10) = some bp10_d0 := by kernel_rfl
abbrev asPd55 : Q × Bool := ((.le (.fn 50 (.bi .pair (.var 1) (.int 0))) (.int 9)), false)
def bp10_t1 : List (Q × Bool) := [asPd1, asPd4, asPd55, asPd0, asPd19, asPd20, asPd21, asPd22, asPd23, asPd3, asPd5, asPd24]
def bp10_d1 : List Duty := [(true, (.int 1), (.fn 51 txPd0))]
theorem bp10_y1 : endC bp10 [] 1000 (callC Try.prog (tellA bp10_t1) [] [(58, idxC), (48, cmpC), (35, bp9)] [] 3000 40 35 bp10) = some bp10_d1 := by kernel_rfl
def bp10_t2 : List (Q × Bool) := [asPd1, asPd4, asPd55, asPd0, asPd19, asPd20, asPd21, asPd22, asPd23, asPd3, asPd5, asPd25]
def bp10_d2 : List Duty := [(true, (.fn 41 txPd8), (.fn 51 txPd0))]
theorem bp10_y2 : endC bp10 [] 1000 (callC Try.prog (tellA bp10_t2) [] [(58, idxC), (48, cmpC), (35, bp9)] [] 3000 40 35 bp10) = some bp10_d2 := by kernel_rfl
abbrev asPd56 : Q × Bool := ((.le (.fn 50 txPd5) (.int 9)), true)
def bp10_t3 : List (Q × Bool) := [asPd1, asPd4, asPd55, asPd0, asPd19, asPd20, asPd21, asPd22, asPd23, asPd3, asPd8, asPd9, asPd10, asPd11, asPd12, asPd26, asPd27, asPd28, asPd56, asPd30, asPd31]
def bp10_d3 : List Duty := [(true, (.fn 51 txPd10), (.fn 51 txPd0))]
theorem bp10_y3 : endC bp10 [] 1000 (callC Try.prog (tellA bp10_t3) [] [(58, idxC), (48, cmpC), (35, bp9)] [] 3000 40 35 bp10) = some bp10_d3 := by kernel_rfl
def bp10_t4 : List (Q × Bool) := [asPd1, asPd4, asPd55, asPd0, asPd19, asPd20, asPd21, asPd22, asPd23, asPd3, asPd8, asPd9, asPd10, asPd11, asPd12, asPd32]
def bp10_d4 : List Duty := [(true, (.fn 41 txPd9), (.fn 51 txPd0))]
theorem bp10_y4 : endC bp10 [] 1000 (callC Try.prog (tellA bp10_t4) [] [(58, idxC), (48, cmpC), (35, bp9)] [] 3000 40 35 bp10) = some bp10_d4 := by kernel_rfl
theorem bp10_holds : CHolds Try.prog 35 bp10 F := by
 refine cholds_of sound (tableNil _ _) (specsCons idxC_holds (specsCons cmpC_holds (specsCons bp9_holds (specsNil _ _)))) (oversNil _ _) (fuel := 3000) (depth := 40) (by kernel_rfl) fun d hp hR hA => ?_
 have hp := allTold'_iff.2 hp
 simp only [bp10, tl] at hp hR hA
 simp only [F50, F55, D.toInt_int, one_iff] at hp
 obtain ⟨q0, q2, qk, qa, qb⟩ := hp
 have ha := idx_in (d 1).ints
 have hb := idx_in (d 3).ints
 have sa := ne_not qa
 have sb := ne_not qb
 have h0 : List.take (d 0).toInt.toNat (d 1).ints = (d 1).ints := List.take_of_length_le (by omega)
 have h2 : List.take (d 2).toInt.toNat (d 3).ints = (d 3).ints := List.take_of_length_le (by omega)
 by_cases s : ((splitL (d 1).ints).length : Int) ≤ 9
 ·refine ⟨tellA bp10_t0, _, _, _, tellA_ok (allTold'_iff.1 ?_), bp10_y0, dutiesTold_ok ?_⟩
  ·simp only [bp10_t0, F40, F41, F50, F51, F55, one_iff, ints_take, show Int.toNat 0 = 0 from rfl, List.drop_zero, h0, h2, tl]
   and_intros <;> first | assumption | omega
  ·simp only [bp10_d0, F40, F41, F50, F51, F55, one_iff, ints_take, show Int.toNat 0 = 0 from rfl, List.drop_zero, h0, h2, s, tl]
 have a : 0 ≤ idxI (d 1).ints := by
  by_cases g : idxI (d 1).ints = -1
  ·have := parts_one g
   rw [this] at s
   exact absurd (show ((1 : Nat) : Int) ≤ 9 by omega) s
  ·omega
 have ea := parts_cut (a := (d 1).ints) (by omega)
 have ra := ne_rest (a := (d 1).ints) (by omega) qa
 have la := parts_less (a := (d 1).ints) (by omega)
 by_cases b : idxI (d 3).ints = -1
 ·have eb := parts_one b
  obtain ⟨y, m, ey⟩ : ∃ y m, splitL ((d 1).ints.drop (idxI (d 1).ints + 1).toNat) = y :: m := List.exists_cons_of_ne_nil (split_ne _)
  rw [ey] at ea
  by_cases c : cmpB (List.take (idxI (d 1).ints).toNat (d 1).ints) (d 3).ints = 0
  ·refine ⟨tellA bp10_t1, _, _, _, tellA_ok (allTold'_iff.1 ?_), bp10_y1, dutiesTold_ok ?_⟩
   ·simp only [bp10_t1, F40, F41, F50, F51, F55, one_iff, ints_take, show Int.toNat 0 = 0 from rfl, List.drop_zero, h0, h2, tl]
    and_intros <;> first | assumption | omega
   ·simp only [bp10_d1, F40, F41, F50, F51, F55, one_iff, ints_take, show Int.toNat 0 = 0 from rfl, List.drop_zero, h0, h2, ea, eb, cmpP_cons, c, if_pos, cmpP_nil, cmpP_past, cmpP_ahead, ↓reduceIte, tl]
  ·refine ⟨tellA bp10_t2, _, _, _, tellA_ok (allTold'_iff.1 ?_), bp10_y2, dutiesTold_ok ?_⟩
   ·simp only [bp10_t2, F40, F41, F50, F51, F55, one_iff, ints_take, show Int.toNat 0 = 0 from rfl, List.drop_zero, h0, h2, tl]
    and_intros <;> first | assumption | omega
   ·simp only [bp10_d2, F40, F41, F50, F51, F55, one_iff, ints_take, show Int.toNat 0 = 0 from rfl, List.drop_zero, h0, h2, ea, eb, cmpP_cons, c, if_pos, cmpP_nil, cmpP_past, cmpP_ahead, ↓reduceIte, tl]
 ·have eb := parts_cut (a := (d 3).ints) (by omega)
  have rb := ne_rest (a := (d 3).ints) (by omega) qb
  by_cases c : cmpB (List.take (idxI (d 1).ints).toNat (d 1).ints) (List.take (idxI (d 3).ints).toNat (d 3).ints) = 0
  ·refine ⟨tellA bp10_t3, _, _, _, tellA_ok (allTold'_iff.1 ?_), bp10_y3, dutiesTold_ok ?_⟩
   ·simp only [bp10_t3, F40, F41, F50, F51, F55, one_iff, ints_take, show Int.toNat 0 = 0 from rfl, List.drop_zero, h0, h2, tl]
    and_intros <;> first | assumption | omega
   ·simp only [bp10_d3, F40, F41, F50, F51, F55, one_iff, ints_take, show Int.toNat 0 = 0 from rfl, List.drop_zero, h0, h2, ea, eb, cmpP_cons, c, if_pos, cmpP_nil, cmpP_past, cmpP_ahead, ↓reduceIte, tl]
  ·refine ⟨tellA bp10_t4, _, _, _, tellA_ok (allTold'_iff.1 ?_), bp10_y4, dutiesTold_ok ?_⟩
   ·simp only [bp10_t4, F40, F41, F50, F51, F55, one_iff, ints_take, show Int.toNat 0 = 0 from rfl, List.drop_zero, h0, h2, tl]
    and_intros <;> first | assumption | omega
   ·simp only [bp10_d4, F40, F41, F50, F51, F55, one_iff, ints_take, show Int.toNat 0 = 0 from rfl, List.drop_zero, h0, h2, ea, eb, cmpP_cons, c, if_pos, cmpP_nil, cmpP_past, cmpP_ahead, ↓reduceIte, tl]

def bp11 : CSpec := { args := [.sstr (.var 0) (.var 1), .sstr (.var 2) (.var 3)], next := 0, rows := [], pre := [(.le (.var 0) (.int 100000000000000), true), (.le (.var 2) (.int 100000000000000), true), (.le (.fn 50 (.bi .pair (.var 1) (.int 0))) (.int 11), true), (.eq (.fn 55 (.bi .pair (.var 1) (.int 0))) (.int 1), true), (.eq (.fn 55 (.bi .pair (.var 3) (.int 0))) (.int 1), true)], res := .sint .i64 (.fn 51 (argsE [.var 1, .var 3])), frows := [], same := [] }
abbrev asPd57 : Q × Bool := ((.le (.fn 50 (.bi .pair (.var 1) (.int 0))) (.int 10)), true)
def bp11_t0 : List (Q × Bool) := [asPd1, asPd4, asPd57, asPd16, asPd17]
def bp11_d0 : List Duty := []
theorem bp11_y0 : endC bp11 [] 1000 (callC Try.prog (tellA bp11_t0) [] [(58, idxC), (48, cmpC), (35, bp10)] [] 3000 40 35 bp11) = some bp11_d0 := by kernel_rfl
abbrev asPd58 : Q × Bool := ((.le (.fn 50 (.bi .pair (.var 1) (.int 0))) (.int 10)), false)
def bp11_t1 : List (Q × Bool) := [asPd1, asPd4, asPd58, asPd0, asPd19, asPd20, asPd21, asPd22, asPd23, asPd3, asPd5, asPd24]
def bp11_d1 : List Duty := [(true, (.int 1), (.fn 51 txPd0))]
theorem bp11_y1 : endC bp11 [] 1000 (callC Try.prog (tellA bp11_t1) [] [(58, idxC), (48, cmpC), (35, bp10)] [] 3000 40 35 bp11) = some bp11_d1 := by kernel_rfl
def bp11_t2 : List (Q × Bool) := [asPd1, asPd4, asPd58, asPd0, asPd19, asPd20, asPd21, asPd22, asPd23, asPd3, asPd5, asPd25]
def bp11_d2 : List Duty := [(true, (.fn 41 txPd8), (.fn 51 txPd0))]
theorem bp11_y2 : endC bp11 [] 1000 (callC Try.prog (tellA bp11_t2) [] [(58, idxC), (48, cmpC), (35, bp10)] [] 3000 40 35 bp11) = some bp11_d2 := by kernel_rfl
abbrev asPd59 : Q × Bool := ((.le (.fn 50 txPd5) (.int 10)), true)
def bp11_t3 : List (Q × Bool) := [asPd1, asPd4, asPd58, asPd0, asPd19, asPd20, asPd21, asPd22, asPd23, asPd3, asPd8, asPd9, asPd10, asPd11, asPd12, asPd26, asPd27, asPd28, asPd59, asPd30, asPd31]
def bp11_d3 : List Duty := [(true, (.fn 51 txPd10), (.fn 51 txPd0))]
theorem bp11_y3 : endC bp11 [] 1000 (callC Try.prog (tellA bp11_t3) [] [(58, idxC), (48, cmpC), (35, bp10)] [] 3000 40 35 bp11) = some bp11_d3 := by kernel_rfl
def bp11_t4 : List (Q × Bool) := [asPd1, asPd4, asPd58, asPd0, asPd19, asPd20, asPd21, asPd22, asPd23, asPd3, asPd8, asPd9, asPd10, asPd11, asPd12, asPd32]
def bp11_d4 : List Duty := [(true, (.fn 41 txPd9), (.fn 51 txPd0))]
theorem bp11_y4 : endC bp11 [] 1000 (callC Try.prog (tellA bp11_t4) [] [(58, idxC), (48, cmpC), (35, bp10)] [] 3000 40 35 bp11) = some bp11_d4 := by kernel_rfl
theorem bp11_holds : CHolds Try.prog 35 bp11 F := by
 refine cholds_of sound (tableNil _ _) (specsCons idxC_holds (specsCons cmpC_holds (specsCons bp10_holds (specsNil _ _)))) (oversNil _ _) (fuel := 3000) (depth := 40) (by kernel_rfl) fun d hp hR hA => ?_
 have hp := allTold'_iff.2 hp
 simp only [bp11, tl] at hp hR hA
 simp only [F50, F55, D.toInt_int, one_iff] at hp
 obtain ⟨q0, q2, qk, qa, qb⟩ := hp
 have ha := idx_in (d 1).ints
 have hb := idx_in (d 3).ints
 have sa := ne_not qa
 have sb := ne_not qb
 have h0 : List.take (d 0).toInt.toNat (d 1).ints = (d 1).ints := List.take_of_length_le (by omega)
 have h2 : List.take (d 2).toInt.toNat (d 3).ints = (d 3).ints := List.take_of_length_le (by omega)
 by_cases s : ((splitL (d 1).ints).length : Int) ≤ 10
 ·refine ⟨tellA bp11_t0, _, _, _, tellA_ok (allTold'_iff.1 ?_), bp11_y0, dutiesTold_ok ?_⟩
  ·simp only [bp11_t0, F40, F41, F50, F51, F55, one_iff, ints_take, show Int.toNat 0 = 0 from rfl, List.drop_zero, h0, h2, tl]
   and_intros <;> first | assumption | omega
  ·simp only [bp11_d0, F40, F41, F50, F51, F55, one_iff, ints_take, show Int.toNat 0 = 0 from rfl, List.drop_zero, h0, h2, s, tl]
 have a : 0 ≤ idxI (d 1).ints := by
  by_cases g : idxI (d 1).ints = -1
  ·have := parts_one g
   rw [this] at s
   exact absurd (show ((1 : Nat) : Int) ≤ 10 by omega) s
  ·omega
 have ea := parts_cut (a := (d 1).ints) (by omega)
 have ra := ne_rest (a := (d 1).ints) (by omega) qa
 have la := parts_less (a := (d 1).ints) (by omega)
 by_cases b : idxI (d 3).ints = -1
 ·have eb := parts_one b
  obtain ⟨y, m, ey⟩ : ∃ y m, splitL ((d 1).ints.drop (idxI (d 1).ints + 1).toNat) = y :: m := List.exists_cons_of_ne_nil (split_ne _)
  rw [ey] at ea
  by_cases c : cmpB (List.take (idxI (d 1).ints).toNat (d 1).ints) (d 3).ints = 0
  ·refine ⟨tellA bp11_t1, _, _, _, tellA_ok (allTold'_iff.1 ?_), bp11_y1, dutiesTold_ok ?_⟩
   ·simp only [bp11_t1, F40, F41, F50, F51, F55, one_iff, ints_take, show Int.toNat 0 = 0 from rfl, List.drop_zero, h0, h2, tl]
    and_intros <;> first | assumption | omega
   ·simp only [bp11_d1, F40, F41, F50, F51, F55, one_iff, ints_take, show Int.toNat 0 = 0 from rfl, List.drop_zero, h0, h2, ea, eb, cmpP_cons, c, if_pos, cmpP_nil, cmpP_past, cmpP_ahead, ↓reduceIte, tl]
  ·refine ⟨tellA bp11_t2, _, _, _, tellA_ok (allTold'_iff.1 ?_), bp11_y2, dutiesTold_ok ?_⟩
   ·simp only [bp11_t2, F40, F41, F50, F51, F55, one_iff, ints_take, show Int.toNat 0 = 0 from rfl, List.drop_zero, h0, h2, tl]
    and_intros <;> first | assumption | omega
   ·simp only [bp11_d2, F40, F41, F50, F51, F55, one_iff, ints_take, show Int.toNat 0 = 0 from rfl, List.drop_zero, h0, h2, ea, eb, cmpP_cons, c, if_pos, cmpP_nil, cmpP_past, cmpP_ahead, ↓reduceIte, tl]
 ·have eb := parts_cut (a := (d 3).ints) (by omega)
  have rb := ne_rest (a := (d 3).ints) (by omega) qb
  by_cases c : cmpB (List.take (idxI (d 1).ints).toNat (d 1).ints) (List.take (idxI (d 3).ints).toNat (d 3).ints) = 0
  ·refine ⟨tellA bp11_t3, _, _, _, tellA_ok (allTold'_iff.1 ?_), bp11_y3, dutiesTold_ok ?_⟩
   ·simp only [bp11_t3, F40, F41, F50, F51, F55, one_iff, ints_take, show Int.toNat 0 = 0 from rfl, List.drop_zero, h0, h2, tl]
    and_intros <;> first | assumption | omega
   ·simp only [bp11_d3, F40, F41, F50, F51, F55, one_iff, ints_take, show Int.toNat 0 = 0 from rfl, List.drop_zero, h0, h2, ea, eb, cmpP_cons, c, if_pos, cmpP_nil, cmpP_past, cmpP_ahead, ↓reduceIte, tl]
  ·refine ⟨tellA bp11_t4, _, _, _, tellA_ok (allTold'_iff.1 ?_), bp11_y4, dutiesTold_ok ?_⟩
   ·simp only [bp11_t4, F40, F41, F50, F51, F55, one_iff, ints_take, show Int.toNat 0 = 0 from rfl, List.drop_zero, h0, h2, tl]
    and_intros <;> first | assumption | omega
   ·simp only [bp11_d4, F40, F41, F50, F51, F55, one_iff, ints_take, show Int.toNat 0 = 0 from rfl, List.drop_zero, h0, h2, ea, eb, cmpP_cons, c, if_pos, cmpP_nil, cmpP_past, cmpP_ahead, ↓reduceIte, tl]

def bp12 : CSpec := { args := [.sstr (.var 0) (.var 1), .sstr (.var 2) (.var 3)], next := 0, rows := [], pre := [(.le (.var 0) (.int 100000000000000), true), (.le (.var 2) (.int 100000000000000), true), (.le (.fn 50 (.bi .pair (.var 1) (.int 0))) (.int 12), true), (.eq (.fn 55 (.bi .pair (.var 1) (.int 0))) (.int 1), true), (.eq (.fn 55 (.bi .pair (.var 3) (.int 0))) (.int 1), true)], res := .sint .i64 (.fn 51 (argsE [.var 1, .var 3])), frows := [], same := [] }
abbrev asPd60 : Q × Bool := ((.le (.fn 50 (.bi .pair (.var 1) (.int 0))) (.int 11)), true)
def bp12_t0 : List (Q × Bool) := [asPd1, asPd4, asPd60, asPd16, asPd17]
def bp12_d0 : List Duty := []
theorem bp12_y0 : endC bp12 [] 1000 (callC Try.prog (tellA bp12_t0) [] [(58, idxC), (48, cmpC), (35, bp11)] [] 3000 40 35 bp12) = some bp12_d0 := by kernel_rfl
abbrev asPd61 : Q × Bool := ((.le (.fn 50 (.bi .pair (.var 1) (.int 0))) (.int 11)), false)
def bp12_t1 : List (Q × Bool) := [asPd1, asPd4, asPd61, asPd0, asPd19, asPd20, asPd21, asPd22, asPd23, asPd3, asPd5, asPd24]
def bp12_d1 : List Duty := [(true, (.int 1), (.fn 51 txPd0))]
theorem bp12_y1 : endC bp12 [] 1000 (callC Try.prog (tellA bp12_t1) [] [(58, idxC), (48, cmpC), (35, bp11)] [] 3000 40 35 bp12) = some bp12_d1 := by kernel_rfl
def bp12_t2 : List (Q × Bool) := [asPd1, asPd4, asPd61, asPd0, asPd19, asPd20, asPd21, asPd22, asPd23, asPd3, asPd5, asPd25]
def bp12_d2 : List Duty := [(true, (.fn 41 txPd8), (.fn 51 txPd0))]
theorem bp12_y2 : endC bp12 [] 1000 (callC Try.prog (tellA bp12_t2) [] [(58, idxC), (48, cmpC), (35, bp11)] [] 3000 40 35 bp12) = some bp12_d2 := by kernel_rfl
abbrev asPd62 : Q × Bool := ((.le (.fn 50 txPd5) (.int 11)), true)
def bp12_t3 : List (Q × Bool) := [asPd1, asPd4, asPd61, asPd0, asPd19, asPd20, asPd21, asPd22, asPd23, asPd3, asPd8, asPd9, asPd10, asPd11, asPd12, asPd26, asPd27, asPd28, asPd62, asPd30, asPd31]
def bp12_d3 : List Duty := [(true, (.fn 51 txPd10), (.fn 51 txPd0))]
theorem bp12_y3 : endC bp12 [] 1000 (callC Try.prog (tellA bp12_t3) [] [(58, idxC), (48, cmpC), (35, bp11)] [] 3000 40 35 bp12) = some bp12_d3 := by kernel_rfl
def bp12_t4 : List (Q × Bool) := [asPd1, asPd4, asPd61, asPd0, asPd19, asPd20, asPd21, asPd22, asPd23, asPd3, asPd8, asPd9, asPd10, asPd11, asPd12, asPd32]
def bp12_d4 : List Duty := [(true, (.fn 41 txPd9), (.fn 51 txPd0))]
theorem bp12_y4 : endC bp12 [] 1000 (callC Try.prog (tellA bp12_t4) [] [(58, idxC), (48, cmpC), (35, bp11)] [] 3000 40 35 bp12) = some bp12_d4 := by kernel_rfl
theorem bp12_holds : CHolds Try.prog 35 bp12 F := by
 refine cholds_of sound (tableNil _ _) (specsCons idxC_holds (specsCons cmpC_holds (specsCons bp11_holds (specsNil _ _)))) (oversNil _ _) (fuel := 3000) (depth := 40) (by kernel_rfl) fun d hp hR hA => ?_
 have hp := allTold'_iff.2 hp
 simp only [bp12, tl] at hp hR hA
 simp only [F50, F55, D.toInt_int, one_iff] at hp
 obtain ⟨q0, q2, qk, qa, qb⟩ := hp
 have ha := idx_in (d 1).ints
 have hb := idx_in (d 3).ints
 have sa := ne_not qa
 have sb := ne_not qb
 have h0 : List.take (d 0).toInt.toNat (d 1).ints = (d 1).ints := List.take_of_length_le (by omega)
 have h2 : List.take (d 2).toInt.toNat (d 3).ints = (d 3).ints := List.take_of_length_le (by omega)
 by_cases s : ((splitL (d 1).ints).length : Int) ≤ 11
 ·refine ⟨tellA bp12_t0, _, _, _, tellA_ok (allTold'_iff.1 ?_), bp12_y0, dutiesTold_ok ?_⟩
  ·simp only [bp12_t0, F40, F41, F50, F51, F55, one_iff, ints_take, show Int.toNat 0 = 0 from rfl, List.drop_zero, h0, h2, tl]
   and_intros <;> first | assumption | omega
  ·simp only [bp12_d0, F40, F41, F50, F51, F55, one_iff, ints_take, show Int.toNat 0 = 0 from rfl, List.drop_zero, h0, h2, s, tl]
 have a : 0 ≤ idxI (d 1).ints := by
  by_cases g : idxI (d 1).ints = -1
  ·have := parts_one g
   rw [this] at s
   exact absurd (show ((1 : Nat) : Int) ≤ 11 by omega) s
  ·omega
 have ea := parts_cut (a := (d 1).ints) (by omega)
 have ra := ne_rest (a := (d 1).ints) (by omega) qa
 have la := parts_less (a := (d 1).ints) (by omega)
 by_cases b : idxI (d 3).ints = -1
 ·have eb := parts_one b
  obtain ⟨y, m, ey⟩ : ∃ y m, splitL ((d 1).ints.drop (idxI (d 1).ints + 1).toNat) = y :: m := List.exists_cons_of_ne_nil (split_ne _)
  rw [ey] at ea
  by_cases c : cmpB (List.take (idxI (d 1).ints).toNat (d 1).ints) (d 3).ints = 0
  ·refine ⟨tellA bp12_t1, _, _, _, tellA_ok (allTold'_iff.1 ?_), bp12_y1, dutiesTold_ok ?_⟩
   ·simp only [bp12_t1, F40, F41, F50, F51, F55, one_iff, ints_take, show Int.toNat 0 = 0 from rfl, List.drop_zero, h0, h2, tl]
    and_intros <;> first | assumption | omega
   ·simp only [bp12_d1, F40, F41, F50, F51, F55, one_iff, ints_take, show Int.toNat 0 = 0 from rfl, List.drop_zero, h0, h2, ea, eb, cmpP_cons, c, if_pos, cmpP_nil, cmpP_past, cmpP_ahead, ↓reduceIte, tl]
  ·refine ⟨tellA bp12_t2, _, _, _, tellA_ok (allTold'_iff.1 ?_), bp12_y2, dutiesTold_ok ?_⟩
   ·simp only [bp12_t2, F40, F41, F50, F51, F55, one_iff, ints_take, show Int.toNat 0 = 0 from rfl, List.drop_zero, h0, h2, tl]
    and_intros <;> first | assumption | omega
   ·simp only [bp12_d2, F40, F41, F50, F51, F55, one_iff, ints_take, show Int.toNat 0 = 0 from rfl, List.drop_zero, h0, h2, ea, eb, cmpP_cons, c, if_pos, cmpP_nil, cmpP_past, cmpP_ahead, ↓reduceIte, tl]
 ·have eb := parts_cut (a := (d 3).ints) (by omega)
  have rb := ne_rest (a := (d 3).ints) (by omega) qb
  by_cases c : cmpB (List.take (idxI (d 1).ints).toNat (d 1).ints) (List.take (idxI (d 3).ints).toNat (d 3).ints) = 0
  ·refine ⟨tellA bp12_t3, _, _, _, tellA_ok (allTold'_iff.1 ?_), bp12_y3, dutiesTold_ok ?_⟩
   ·simp only [bp12_t3, F40, F41, F50, F51, F55, one_iff, ints_take, show Int.toNat 0 = 0 from rfl, List.drop_zero, h0, h2, tl]
    and_intros <;> first | assumption | omega
   ·simp only [bp12_d3, F40, F41, F50, F51, F55, one_iff, ints_take, show Int.toNat 0 = 0 from rfl, List.drop_zero, h0, h2, ea, eb, cmpP_cons, c, if_pos, cmpP_nil, cmpP_past, cmpP_ahead, ↓reduceIte, tl]
  ·refine ⟨tellA bp12_t4, _, _, _, tellA_ok (allTold'_iff.1 ?_), bp12_y4, dutiesTold_ok ?_⟩
   ·simp only [bp12_t4, F40, F41, F50, F51, F55, one_iff, ints_take, show Int.toNat 0 = 0 from rfl, List.drop_zero, h0, h2, tl]
    and_intros <;> first | assumption | omega
   ·simp only [bp12_d4, F40, F41, F50, F51, F55, one_iff, ints_take, show Int.toNat 0 = 0 from rfl, List.drop_zero, h0, h2, ea, eb, cmpP_cons, c, if_pos, cmpP_nil, cmpP_past, cmpP_ahead, ↓reduceIte, tl]

def bp13 : CSpec := { args := [.sstr (.var 0) (.var 1), .sstr (.var 2) (.var 3)], next := 0, rows := [], pre := [(.le (.var 0) (.int 100000000000000), true), (.le (.var 2) (.int 100000000000000), true), (.le (.fn 50 (.bi .pair (.var 1) (.int 0))) (.int 13), true), (.eq (.fn 55 (.bi .pair (.var 1) (.int 0))) (.int 1), true), (.eq (.fn 55 (.bi .pair (.var 3) (.int 0))) (.int 1), true)], res := .sint .i64 (.fn 51 (argsE [.var 1, .var 3])), frows := [], same := [] }
abbrev asPd63 : Q × Bool := ((.le (.fn 50 (.bi .pair (.var 1) (.int 0))) (.int 12)), true)
def bp13_t0 : List (Q × Bool) := [asPd1, asPd4, asPd63, asPd16, asPd17]
def bp13_d0 : List Duty := []
theorem bp13_y0 : endC bp13 [] 1000 (callC Try.prog (tellA bp13_t0) [] [(58, idxC), (48, cmpC), (35, bp12)] [] 3000 40 35 bp13) = some bp13_d0 := by kernel_rfl
abbrev asPd64 : Q × Bool := ((.le (.fn 50 (.bi .pair (.var 1) (.int 0))) (.int 12)), false)
def bp13_t1 : List (Q × Bool) := [asPd1, asPd4, asPd64, asPd0, asPd19, asPd20, asPd21, asPd22, asPd23, asPd3, asPd5, asPd24]
def bp13_d1 : List Duty := [(true, (.int 1), (.fn 51 txPd0))]
theorem bp13_y1 : endC bp13 [] 1000 (callC Try.prog (tellA bp13_t1) [] [(58, idxC), (48, cmpC), (35, bp12)] [] 3000 40 35 bp13) = some bp13_d1 := by kernel_rfl
def bp13_t2 : List (Q × Bool) := [asPd1, asPd4, asPd64, asPd0, asPd19, asPd20, asPd21, asPd22, asPd23, asPd3, asPd5, asPd25]
def bp13_d2 : List Duty := [(true, (.fn 41 txPd8), (.fn 51 txPd0))]
theorem bp13_y2 : endC bp13 [] 1000 (callC Try.prog (tellA bp13_t2) [] [(58, idxC), (48, cmpC), (35, bp12)] [] 3000 40 35 bp13) = some bp13_d2 := by kernel_rfl
abbrev asPd65 : Q × Bool := ((.le (.fn 50 txPd5) (.int 12)), true)
def bp13_t3 : List (Q × Bool) := [asPd1, asPd4, asPd64, asPd0, asPd19, asPd20, asPd21, asPd22, asPd23, asPd3, asPd8, asPd9, asPd10, asPd11, asPd12, asPd26, asPd27, asPd28, asPd65, asPd30, asPd31]
def bp13_d3 : List Duty := [(true, (.fn 51 txPd10), (.fn 51 txPd0))]
theorem bp13_y3 : endC bp13 [] 1000 (callC Try.prog (tellA bp13_t3) [] [(58, idxC), (48, cmpC), (35, bp12)] [] 3000 40 35 bp13) = some bp13_d3 := by kernel_rfl
def bp13_t4 : List (Q × Bool) := [asPd1, asPd4, asPd64, asPd0, asPd19, asPd20, asPd21, asPd22, asPd23, asPd3, asPd8, asPd9, asPd10, asPd11, asPd12, asPd32]
def bp13_d4 : List Duty := [(true, (.fn 41 txPd9), (.fn 51 txPd0))]
theorem bp13_y4 : endC bp13 [] 1000 (callC Try.prog (tellA bp13_t4) [] [(58, idxC), (48, cmpC), (35, bp12)] [] 3000 40 35 bp13) = some bp13_d4 := by kernel_rfl
theorem bp13_holds : CHolds Try.prog 35 bp13 F := by
 refine cholds_of sound (tableNil _ _) (specsCons idxC_holds (specsCons cmpC_holds (specsCons bp12_holds (specsNil _ _)))) (oversNil _ _) (fuel := 3000) (depth := 40) (by kernel_rfl) fun d hp hR hA => ?_
 have hp := allTold'_iff.2 hp
 simp only [bp13, tl] at hp hR hA
 simp only [F50, F55, D.toInt_int, one_iff] at hp
 obtain ⟨q0, q2, qk, qa, qb⟩ := hp
 have ha := idx_in (d 1).ints
 have hb := idx_in (d 3).ints
 have sa := ne_not qa
 have sb := ne_not qb
 have h0 : List.take (d 0).toInt.toNat (d 1).ints = (d 1).ints := List.take_of_length_le (by omega)
 have h2 : List.take (d 2).toInt.toNat (d 3).ints = (d 3).ints := List.take_of_length_le (by omega)
 by_cases s : ((splitL (d 1).ints).length : Int) ≤ 12
 ·refine ⟨tellA bp13_t0, _, _, _, tellA_ok (allTold'_iff.1 ?_), bp13_y0, dutiesTold_ok ?_⟩
  ·simp only [bp13_t0, F40, F41, F50, F51, F55, one_iff, ints_take, show Int.toNat 0 = 0 from rfl, List.drop_zero, h0, h2, tl]
   and_intros <;> first | assumption | omega
  ·simp only [bp13_d0, F40, F41, F50, F51, F55, one_iff, ints_take, show Int.toNat 0 = 0 from rfl, List.drop_zero, h0, h2, s, tl]
 have a : 0 ≤ idxI (d 1).ints := by
  by_cases g : idxI (d 1).ints = -1
  ·have := parts_one g
   rw [this] at s
   exact absurd (show ((1 : Nat) : Int) ≤ 12 by omega) s
  ·omega
 have ea := parts_cut (a := (d 1).ints) (by omega)
 have ra := ne_rest (a := (d 1).ints) (by omega) qa
 have la := parts_less (a := (d 1).ints) (by omega)
 by_cases b : idxI (d 3).ints = -1
 ·have eb := parts_one b
  obtain ⟨y, m, ey⟩ : ∃ y m, splitL ((d 1).ints.drop (idxI (d 1).ints + 1).toNat) = y :: m := List.exists_cons_of_ne_nil (split_ne _)
  rw [ey] at ea
  by_cases c : cmpB (List.take (idxI (d 1).ints).toNat (d 1).ints) (d 3).ints = 0
  ·refine ⟨tellA bp13_t1, _, _, _, tellA_ok (allTold'_iff.1 ?_), bp13_y1, dutiesTold_ok ?_⟩
   ·simp only [bp13_t1, F40, F41, F50, F51, F55, one_iff, ints_take, show Int.toNat 0 = 0 from rfl, List.drop_zero, h0, h2, tl]
    and_intros <;> first | assumption | omega
   ·simp only [bp13_d1, F40, F41, F50, F51, F55, one_iff, ints_take, show Int.toNat 0 = 0 from rfl, List.drop_zero, h0, h2, ea, eb, cmpP_cons, c, if_pos, cmpP_nil, cmpP_past, cmpP_ahead, ↓reduceIte, tl]
  ·refine ⟨tellA bp13_t2, _, _, _, tellA_ok (allTold'_iff.1 ?_), bp13_y2, dutiesTold_ok ?_⟩
   ·simp only [bp13_t2, F40, F41, F50, F51, F55, one_iff, ints_take, show Int.toNat 0 = 0 from rfl, List.drop_zero, h0, h2, tl]
    and_intros <;> first | assumption | omega
   ·simp only [bp13_d2, F40, F41, F50, F51, F55, one_iff, ints_take, show Int.toNat 0 = 0 from rfl, List.drop_zero, h0, h2, ea, eb, cmpP_cons, c, if_pos, cmpP_nil, cmpP_past, cmpP_ahead, ↓reduceIte, tl]
 ·have eb := parts_cut (a := (d 3).ints) (by omega)
  have rb := ne_rest (a := (d 3).ints) (by omega) qb
  by_cases c : cmpB (List.take (idxI (d 1).ints).toNat (d 1).ints) (List.take (idxI (d 3).ints).toNat (d 3).ints) = 0
  ·refine ⟨tellA bp13_t3, _, _, _, tellA_ok (allTold'_iff.1 ?_), bp13_y3, dutiesTold_ok ?_⟩
   ·simp only [bp13_t3, F40, F41, F50, F51, F55, one_iff, ints_take, show Int.toNat 0 = 0 from rfl, List.drop_zero, h0, h2, tl]
    and_intros <;> first | assumption | omega
   ·simp only [bp13_d3, F40, F41, F50, F51, F55, one_iff, ints_take, show Int.toNat 0 = 0 from rfl, List.drop_zero, h0, h2, ea, eb, cmpP_cons, c, if_pos, cmpP_nil, cmpP_past, cmpP_ahead, ↓reduceIte, tl]
  ·refine ⟨tellA bp13_t4, _, _, _, tellA_ok (allTold'_iff.1 ?_), bp13_y4, dutiesTold_ok ?_⟩
   ·simp only [bp13_t4, F40, F41, F50, F51, F55, one_iff, ints_take, show Int.toNat 0 = 0 from rfl, List.drop_zero, h0, h2, tl]
    and_intros <;> first | assumption | omega
   ·simp only [bp13_d4, F40, F41, F50, F51, F55, one_iff, ints_take, show Int.toNat 0 = 0 from rfl, List.drop_zero, h0, h2, ea, eb, cmpP_cons, c, if_pos, cmpP_nil, cmpP_past, cmpP_ahead, ↓reduceIte, tl]

def bp14 : CSpec := { args := [.sstr (.var 0) (.var 1), .sstr (.var 2) (.var 3)], next := 0, rows := [], pre := [(.le (.var 0) (.int 100000000000000), true), (.le (.var 2) (.int 100000000000000), true), (.le (.fn 50 (.bi .pair (.var 1) (.int 0))) (.int 14), true), (.eq (.fn 55 (.bi .pair (.var 1) (.int 0))) (.int 1), true), (.eq (.fn 55 (.bi .pair (.var 3) (.int 0))) (.int 1), true)], res := .sint .i64 (.fn 51 (argsE [.var 1, .var 3])), frows := [], same := [] }
abbrev asPd66 : Q × Bool := ((.le (.fn 50 (.bi .pair (.var 1) (.int 0))) (.int 13)), true)
def bp14_t0 : List (Q × Bool) := [asPd1, asPd4, asPd66, asPd16, asPd17]
def bp14_d0 : List Duty := []
theorem bp14_y0 : endC bp14 [] 1000 (callC Try.prog (tellA bp14_t0) [] [(58, idxC), (48, cmpC), (35, bp13)] [] 3000 40 35 bp14) = some bp14_d0 := by kernel_rfl
abbrev asPd67 : Q × Bool := ((.le (.fn 50 (.bi .pair (.var 1) (.int 0))) (.int 13)), false)
def bp14_t1 : List (Q × Bool) := [asPd1, asPd4, asPd67, asPd0, asPd19, asPd20, asPd21, asPd22, asPd23, asPd3, asPd5, asPd24]
def bp14_d1 : List Duty := [(true, (.int 1), (.fn 51 txPd0))]
theorem bp14_y1 : endC bp14 [] 1000 (callC Try.prog (tellA bp14_t1) [] [(58, idxC), (48, cmpC), (35, bp13)] [] 3000 40 35 bp14) = some bp14_d1 := by kernel_rfl
def bp14_t2 : List (Q × Bool) := [asPd1, asPd4, asPd67, asPd0, asPd19, asPd20, asPd21, asPd22, asPd23, asPd3, asPd5, asPd25]
def bp14_d2 : List Duty := [(true, (.fn 41 txPd8), (.fn 51 txPd0))]
theorem bp14_y2 : endC bp14 [] 1000 (callC Try.prog (tellA bp14_t2) [] [(58, idxC), (48, cmpC), (35, bp13)] [] 3000 40 35 bp14) = some bp14_d2 := by kernel_rfl
abbrev asPd68 : Q × Bool := ((.le (.fn 50 txPd5) (.int 13)), true)
def bp14_t3 : List (Q × Bool) := [asPd1, asPd4, asPd67, asPd0, asPd19, asPd20, asPd21, asPd22, asPd23, asPd3, asPd8, asPd9, asPd10, asPd11, asPd12, asPd26, asPd27, asPd28, asPd68, asPd30, asPd31]
def bp14_d3 : List Duty := [(true, (.fn 51 txPd10), (.fn 51 txPd0))]
theorem bp14_y3 : endC bp14 [] 1000 (callC Try.prog (tellA bp14_t3) [] [(58, idxC), (48, cmpC), (35, bp13)] [] 3000 40 35 bp14) = some bp14_d3 := by kernel_rfl
def bp14_t4 : List (Q × Bool) := [asPd1, asPd4, asPd67, asPd0, asPd19, asPd20, asPd21, asPd22, asPd23, asPd3, asPd8, asPd9, asPd10, asPd11, asPd12, asPd32]
def bp14_d4 : List Duty := [(true, (.fn 41 txPd9), (.fn 51 txPd0))]
theorem bp14_y4 : endC bp14 [] 1000 (callC Try.prog (tellA bp14_t4) [] [(58, idxC), (48, cmpC), (35, bp13)] [] 3000 40 35 bp14) = some bp14_d4 := by kernel_rfl
theorem bp14_holds : CHolds Try.prog 35 bp14 F := by
 refine cholds_of sound (tableNil _ _) (specsCons idxC_holds (specsCons cmpC_holds (specsCons bp13_holds (specsNil _ _)))) (oversNil _ _) (fuel := 3000) (depth := 40) (by kernel_rfl) fun d hp hR hA => ?_
 have hp := allTold'_iff.2 hp
 simp only [bp14, tl] at hp hR hA
 simp only [F50, F55, D.toInt_int, one_iff] at hp
 obtain ⟨q0, q2, qk, qa, qb⟩ := hp
 have ha := idx_in (d 1).ints
 have hb := idx_in (d 3).ints
 have sa := ne_not qa
 have sb := ne_not qb
 have h0 : List.take (d 0).toInt.toNat (d 1).ints = (d 1).ints := List.take_of_length_le (by omega)
 have h2 : List.take (d 2).toInt.toNat (d 3).ints = (d 3).ints := List.take_of_length_le (by omega)
 by_cases s : ((splitL (d 1).ints).length : Int) ≤ 13
 ·refine ⟨tellA bp14_t0, _, _, _, tellA_ok (allTold'_iff.1 ?_), bp14_y0, dutiesTold_ok ?_⟩
  ·simp only [bp14_t0, F40, F41, F50, F51, F55, one_iff, ints_take, show Int.toNat 0 = 0 from rfl, List.drop_zero, h0, h2, tl]
   and_intros <;> first | assumption | omega
  ·simp only [bp14_d0, F40, F41, F50, F51, F55, one_iff, ints_take, show Int.toNat 0 = 0 from rfl, List.drop_zero, h0, h2, s, tl]
 have a : 0 ≤ idxI (d 1).ints := by
  by_cases g : idxI (d 1).ints = -1
  ·have := parts_one g
   rw [this] at s
   exact absurd (show ((1 : Nat) : Int) ≤ 13 by omega) s
  ·omega
 have ea := parts_cut (a := (d 1).ints) (by omega)
 have ra := ne_rest (a := (d 1).ints) (by omega) qa
 have la := parts_less (a := (d 1).ints) (by omega)
 by_cases b : idxI (d 3).ints = -1
 ·have eb := parts_one b
  obtain ⟨y, m, ey⟩ : ∃ y m, splitL ((d 1).ints.drop (idxI (d 1).ints + 1).toNat) = y :: m := List.exists_cons_of_ne_nil (split_ne _)
  rw [ey] at ea
  by_cases c : cmpB (List.take (idxI (d 1).ints).toNat (d 1).ints) (d 3).ints = 0
  ·refine ⟨tellA bp14_t1, _, _, _, tellA_ok (allTold'_iff.1 ?_), bp14_y1, dutiesTold_ok ?_⟩
   ·simp only [bp14_t1, F40, F41, F50, F51, F55, one_iff, ints_take, show Int.toNat 0 = 0 from rfl, List.drop_zero, h0, h2, tl]
    and_intros <;> first | assumption | omega
   ·simp only [bp14_d1, F40, F41, F50, F51, F55, one_iff, ints_take, show Int.toNat 0 = 0 from rfl, List.drop_zero, h0, h2, ea, eb, cmpP_cons, c, if_pos, cmpP_nil, cmpP_past, cmpP_ahead, ↓reduceIte, tl]
  ·refine ⟨tellA bp14_t2, _, _, _, tellA_ok (allTold'_iff.1 ?_), bp14_y2, dutiesTold_ok ?_⟩
   ·simp only [bp14_t2, F40, F41, F50, F51, F55, one_iff, ints_take, show Int.toNat 0 = 0 from rfl, List.drop_zero, h0, h2, tl]
    and_intros <;> first | assumption | omega
   ·simp only [bp14_d2, F40, F41, F50, F51, F55, one_iff, ints_take, show Int.toNat 0 = 0 from rfl, List.drop_zero, h0, h2, ea, eb, cmpP_cons, c, if_pos, cmpP_nil, cmpP_past, cmpP_ahead, ↓reduceIte, tl]
 ·have eb := parts_cut (a := (d 3).ints) (by omega)
  have rb := ne_rest (a := (d 3).ints) (by omega) qb
  by_cases c : cmpB (List.take (idxI (d 1).ints).toNat (d 1).ints) (List.take (idxI (d 3).ints).toNat (d 3).ints) = 0
  ·refine ⟨tellA bp14_t3, _, _, _, tellA_ok (allTold'_iff.1 ?_), bp14_y3, dutiesTold_ok ?_⟩
   ·simp only [bp14_t3, F40, F41, F50, F51, F55, one_iff, ints_take, show Int.toNat 0 = 0 from rfl, List.drop_zero, h0, h2, tl]
    and_intros <;> first | assumption | omega
   ·simp only [bp14_d3, F40, F41, F50, F51, F55, one_iff, ints_take, show Int.toNat 0 = 0 from rfl, List.drop_zero, h0, h2, ea, eb, cmpP_cons, c, if_pos, cmpP_nil, cmpP_past, cmpP_ahead, ↓reduceIte, tl]
  ·refine ⟨tellA bp14_t4, _, _, _, tellA_ok (allTold'_iff.1 ?_), bp14_y4, dutiesTold_ok ?_⟩
   ·simp only [bp14_t4, F40, F41, F50, F51, F55, one_iff, ints_take, show Int.toNat 0 = 0 from rfl, List.drop_zero, h0, h2, tl]
    and_intros <;> first | assumption | omega
   ·simp only [bp14_d4, F40, F41, F50, F51, F55, one_iff, ints_take, show Int.toNat 0 = 0 from rfl, List.drop_zero, h0, h2, ea, eb, cmpP_cons, c, if_pos, cmpP_nil, cmpP_past, cmpP_ahead, ↓reduceIte, tl]

def bp15 : CSpec := { args := [.sstr (.var 0) (.var 1), .sstr (.var 2) (.var 3)], next := 0, rows := [], pre := [(.le (.var 0) (.int 100000000000000), true), (.le (.var 2) (.int 100000000000000), true), (.le (.fn 50 (.bi .pair (.var 1) (.int 0))) (.int 15), true), (.eq (.fn 55 (.bi .pair (.var 1) (.int 0))) (.int 1), true), (.eq (.fn 55 (.bi .pair (.var 3) (.int 0))) (.int 1), true)], res := .sint .i64 (.fn 51 (argsE [.var 1, .var 3])), frows := [], same := [] }
abbrev asPd69 : Q × Bool := ((.le (.fn 50 (.bi .pair (.var 1) (.int 0))) (.int 14)), true)
def bp15_t0 : List (Q × Bool) := [asPd1, asPd4, asPd69, asPd16, asPd17]
def bp15_d0 : List Duty := []
theorem bp15_y0 : endC bp15 [] 1000 (callC Try.prog (tellA bp15_t0) [] [(58, idxC), (48, cmpC), (35, bp14)] [] 3000 40 35 bp15) = some bp15_d0 := by kernel_rfl
abbrev asPd70 : Q × Bool := ((.le (.fn 50 (.bi .pair (.var 1) (.int 0))) (.int 14)), false)
def bp15_t1 : List (Q × Bool) := [asPd1, asPd4, asPd70, asPd0, asPd19, asPd20, asPd21, asPd22, asPd23, asPd3, asPd5, asPd24]
def bp15_d1 : List Duty := [(true, (.int 1), (.fn 51 txPd0))]
theorem bp15_y1 : endC bp15 [] 1000 (callC Try.prog (tellA bp15_t1) [] [(58, idxC), (48, cmpC), (35, bp14)] [] 3000 40 35 bp15) = some bp15_d1 := by kernel_rfl
def bp15_t2 : List (Q × Bool) := [asPd1, asPd4, asPd70, asPd0, asPd19, asPd20, asPd21, asPd22, asPd23, asPd3, asPd5, asPd25]
def bp15_d2 : List Duty := [(true, (.fn 41 txPd8), (.fn 51 txPd0))]
theorem bp15_y2 : endC bp15 [] 1000 (callC Try.prog (tellA bp15_t2) [] [(58, idxC), (48, cmpC), (35, bp14)] [] 3000 40 35 bp15) = some bp15_d2 := by kernel_rfl
abbrev asPd71 : Q × Bool := ((.le (.fn 50 txPd5) (.int 14)), true)
def bp15_t3 : List (Q × Bool) := [asPd1, asPd4, asPd70, asPd0, asPd19, asPd20, asPd21, asPd22, asPd23, asPd3, asPd8, asPd9, asPd10, asPd11, asPd12, asPd26, asPd27, asPd28, asPd71, asPd30, asPd31]
def bp15_d3 : List Duty := [(true, (.fn 51 txPd10), (.fn 51 txPd0))]
theorem bp15_y3 : endC bp15 [] 1000 (callC Try.prog (tellA bp15_t3) [] [(58, idxC), (48, cmpC), (35, bp14)] [] 3000 40 35 bp15) = some bp15_d3 := by kernel_rfl
def bp15_t4 : List (Q × Bool) := [asPd1, asPd4, asPd70, asPd0, asPd19, asPd20, asPd21, asPd22, asPd23, asPd3, asPd8, asPd9, asPd10, asPd11, asPd12, asPd32]
def bp15_d4 : List Duty := [(true, (.fn 41 txPd9), (.fn 51 txPd0))]
theorem bp15_y4 : endC bp15 [] 1000 (callC Try.prog (tellA bp15_t4) [] [(58, idxC), (48, cmpC), (35, bp14)] [] 3000 40 35 bp15) = some bp15_d4 := by kernel_rfl
theorem bp15_holds : CHolds Try.prog 35 bp15 F := by
 refine cholds_of sound (tableNil _ _) (specsCons idxC_holds (specsCons cmpC_holds (specsCons bp14_holds (specsNil _ _)))) (oversNil _ _) (fuel := 3000) (depth := 40) (by kernel_rfl) fun d hp hR hA => ?_
 have hp := allTold'_iff.2 hp
 simp only [bp15, tl] at hp hR hA
 simp only [F50, F55, D.toInt_int, one_iff] at hp
 obtain ⟨q0, q2, qk, qa, qb⟩ := hp
 have ha := idx_in (d 1).ints
 have hb := idx_in (d 3).ints
 have sa := ne_not qa
 have sb := ne_not qb
 have h0 : List.take (d 0).toInt.toNat (d 1).ints = (d 1).ints := List.take_of_length_le (by omega)
 have h2 : List.take (d 2).toInt.toNat (d 3).ints = (d 3).ints := List.take_of_length_le (by omega)
 by_cases s : ((splitL (d 1).ints).length : Int) ≤ 14
 ·refine ⟨tellA bp15_t0, _, _, _, tellA_ok (allTold'_iff.1 ?_), bp15_y0, dutiesTold_ok ?_⟩
  ·simp only [bp15_t0, F40, F41, F50, F51, F55, one_iff, ints_take, show Int.toNat 0 = 0 from rfl, List.drop_zero, h0, h2, tl]
   and_intros <;> first | assumption | omega
  ·simp only [bp15_d0, F40, F41, F50, F51, F55, one_iff, ints_take, show Int.toNat 0 = 0 from rfl, List.drop_zero, h0, h2, s, tl]
 have a : 0 ≤ idxI (d 1).ints := by
  by_cases g : idxI (d 1).ints = -1
  ·have := parts_one g
   rw [this] at s
   exact absurd (show ((1 : Nat) : Int) ≤ 14 by omega) s
  ·omega
 have ea := parts_cut (a := (d 1).ints) (by omega)
 have ra := ne_rest (a := (d 1).ints) (by omega) qa
 have la := parts_less (a := (d 1).ints) (by omega)
 by_cases b : idxI (d 3).ints = -1
 ·have eb := parts_one b
  obtain ⟨y, m, ey⟩ : ∃ y m, splitL ((d 1).ints.drop (idxI (d 1).ints + 1).toNat) = y :: m := List.exists_cons_of_ne_nil (split_ne _)
  rw [ey] at ea
  by_cases c : cmpB (List.take (idxI (d 1).ints).toNat (d 1).ints) (d 3).ints = 0
  ·refine ⟨tellA bp15_t1, _, _, _, tellA_ok (allTold'_iff.1 ?_), bp15_y1, dutiesTold_ok ?_⟩
   ·simp only [bp15_t1, F40, F41, F50, F51, F55, one_iff, ints_take, show Int.toNat 0 = 0 from rfl, List.drop_zero, h0, h2, tl]
    and_intros <;> first | assumption | omega
   ·simp only [bp15_d1, F40, F41, F50, F51, F55, one_iff, ints_take, show Int.toNat 0 = 0 from rfl, List.drop_zero, h0, h2, ea, eb, cmpP_cons, c, if_pos, cmpP_nil, cmpP_past, cmpP_ahead, ↓reduceIte, tl]
  ·refine ⟨tellA bp15_t2, _, _, _, tellA_ok (allTold'_iff.1 ?_), bp15_y2, dutiesTold_ok ?_⟩
   ·simp only [bp15_t2, F40, F41, F50, F51, F55, one_iff, ints_take, show Int.toNat 0 = 0 from rfl, List.drop_zero, h0, h2, tl]
    and_intros <;> first | assumption | omega
   ·simp only [bp15_d2, F40, F41, F50, F51, F55, one_iff, ints_take, show Int.toNat 0 = 0 from rfl, List.drop_zero, h0, h2, ea, eb, cmpP_cons, c, if_pos, cmpP_nil, cmpP_past, cmpP_ahead, ↓reduceIte, tl]
 ·have eb := parts_cut (a := (d 3).ints) (by omega)
  have rb := ne_rest (a := (d 3).ints) (by omega) qb
  by_cases c : cmpB (List.take (idxI (d 1).ints).toNat (d 1).ints) (List.take (idxI (d 3).ints).toNat (d 3).ints) = 0
  ·refine ⟨tellA bp15_t3, _, _, _, tellA_ok (allTold'_iff.1 ?_), bp15_y3, dutiesTold_ok ?_⟩
   ·simp only [bp15_t3, F40, F41, F50, F51, F55, one_iff, ints_take, show Int.toNat 0 = 0 from rfl, List.drop_zero, h0, h2, tl]
    and_intros <;> first | assumption | omega
   ·simp only [bp15_d3, F40, F41, F50, F51, F55, one_iff, ints_take, show Int.toNat 0 = 0 from rfl, List.drop_zero, h0, h2, ea, eb, cmpP_cons, c, if_pos, cmpP_nil, cmpP_past, cmpP_ahead, ↓reduceIte, tl]
  ·refine ⟨tellA bp15_t4, _, _, _, tellA_ok (allTold'_iff.1 ?_), bp15_y4, dutiesTold_ok ?_⟩
   ·simp only [bp15_t4, F40, F41, F50, F51, F55, one_iff, ints_take, show Int.toNat 0 = 0 from rfl, List.drop_zero, h0, h2, tl]
    and_intros <;> first | assumption | omega
   ·simp only [bp15_d4, F40, F41, F50, F51, F55, one_iff, ints_take, show Int.toNat 0 = 0 from rfl, List.drop_zero, h0, h2, ea, eb, cmpP_cons, c, if_pos, cmpP_nil, cmpP_past, cmpP_ahead, ↓reduceIte, tl]

def bp16 : CSpec := { args := [.sstr (.var 0) (.var 1), .sstr (.var 2) (.var 3)], next := 0, rows := [], pre := [(.le (.var 0) (.int 100000000000000), true), (.le (.var 2) (.int 100000000000000), true), (.le (.fn 50 (.bi .pair (.var 1) (.int 0))) (.int 16), true), (.eq (.fn 55 (.bi .pair (.var 1) (.int 0))) (.int 1), true), (.eq (.fn 55 (.bi .pair (.var 3) (.int 0))) (.int 1), true)], res := .sint .i64 (.fn 51 (argsE [.var 1, .var 3])), frows := [], same := [] }
abbrev asPd72 : Q × Bool := ((.le (.fn 50 (.bi .pair (.var 1) (.int 0))) (.int 15)), true)
def bp16_t0 : List (Q × Bool) := [asPd1, asPd4, asPd72, asPd16, asPd17]
def bp16_d0 : List Duty := []
theorem bp16_y0 : endC bp16 [] 1000 (callC Try.prog (tellA bp16_t0) [] [(58, idxC), (48, cmpC), (35, bp15)] [] 3000 40 35 bp16) = some bp16_d0 := by kernel_rfl
abbrev asPd73 : Q × Bool := ((.le (.fn 50 (.bi .pair (.var 1) (.int 0))) (.int 15)), false)
def bp16_t1 : List (Q × Bool) := [asPd1, asPd4, asPd73, asPd0, asPd19, asPd20, asPd21, asPd22, asPd23, asPd3, asPd5, asPd24]
def bp16_d1 : List Duty := [(true, (.int 1), (.fn 51 txPd0))]
theorem bp16_y1 : endC bp16 [] 1000 (callC Try.prog (tellA bp16_t1) [] [(58, idxC), (48, cmpC), (35, bp15)] [] 3000 40 35 bp16) = some bp16_d1 := by kernel_rfl
def bp16_t2 : List (Q × Bool) := [asPd1, asPd4, asPd73, asPd0, asPd19, asPd20, asPd21, asPd22, asPd23, asPd3, asPd5, asPd25]
def bp16_d2 : List Duty := [(true, (.fn 41 txPd8), (.fn 51 txPd0))]
theorem bp16_y2 : endC bp16 [] 1000 (callC Try.prog (tellA bp16_t2) [] [(58, idxC), (48, cmpC), (35, bp15)] [] 3000 40 35 bp16) = some bp16_d2 := by kernel_rfl
abbrev asPd74 : Q × Bool := ((.le (.fn 50 txPd5) (.int 15)), true)
def bp16_t3 : List (Q × Bool) := [asPd1, asPd4, asPd73, asPd0, asPd19, asPd20, asPd21, asPd22, asPd23, asPd3, asPd8, asPd9, asPd10, asPd11, asPd12, asPd26, asPd27, asPd28, asPd74, asPd30, asPd31]
def bp16_d3 : List Duty := [(true, (.fn 51 txPd10), (.fn 51 txPd0))]
theorem bp16_y3 : endC bp16 [] 1000 (callC Try.prog (tellA bp16_t3) [] [(58, idxC), (48, cmpC), (35, bp15)] [] 3000 40 35 bp16) = some bp16_d3 := by kernel_rfl
def bp16_t4 : List (Q × Bool) := [asPd1, asPd4, asPd73, asPd0, asPd19, asPd20, asPd21, asPd22, asPd23, asPd3, asPd8, asPd9, asPd10, asPd11, asPd12, asPd32]
def bp16_d4 : List Duty := [(true, (.fn 41 txPd9), (.fn 51 txPd0))]
theorem bp16_y4 : endC bp16 [] 1000 (callC Try.prog (tellA bp16_t4) [] [(58, idxC), (48, cmpC), (35, bp15)] [] 3000 40 35 bp16) = some bp16_d4 := by kernel_rfl
theorem bp16_holds : CHolds Try.prog 35 bp16 F := by
 refine cholds_of sound (tableNil _ _) (specsCons idxC_holds (specsCons cmpC_holds (specsCons bp15_holds (specsNil _ _)))) (oversNil _ _) (fuel := 3000) (depth := 40) (by kernel_rfl) fun d hp hR hA => ?_
 have hp := allTold'_iff.2 hp
 simp only [bp16, tl] at hp hR hA
 simp only [F50, F55, D.toInt_int, one_iff] at hp
 obtain ⟨q0, q2, qk, qa, qb⟩ := hp
 have ha := idx_in (d 1).ints
 have hb := idx_in (d 3).ints
 have sa := ne_not qa
 have sb := ne_not qb
 have h0 : List.take (d 0).toInt.toNat (d 1).ints = (d 1).ints := List.take_of_length_le (by omega)
 have h2 : List.take (d 2).toInt.toNat (d 3).ints = (d 3).ints := List.take_of_length_le (by omega)
 by_cases s : ((splitL (d 1).ints).length : Int) ≤ 15
 ·refine ⟨tellA bp16_t0, _, _, _, tellA_ok (allTold'_iff.1 ?_), bp16_y0, dutiesTold_ok ?_⟩
  ·simp only [bp16_t0, F40, F41, F50, F51, F55, one_iff, ints_take, show Int.toNat 0 = 0 from rfl, List.drop_zero, h0, h2, tl]
   and_intros <;> first | assumption | omega
  ·simp only [bp16_d0, F40, F41, F50, F51, F55, one_iff, ints_take, show Int.toNat 0 = 0 from rfl, List.drop_zero, h0, h2, s, tl]
 have a : 0 ≤ idxI (d 1).ints := by
  by_cases g : idxI (d 1).ints = -1
  ·have := parts_one g
   rw [this] at s
   exact absurd (show ((1 : Nat) : Int) ≤ 15 by omega) s
  ·omega
 have ea := parts_cut (a := (d 1).ints) (by omega)
 have ra := ne_rest (a := (d 1).ints) (by omega) qa
 have la := parts_less (a := (d 1).ints) (by omega)
 by_cases b : idxI (d 3).ints = -1
 ·have eb := parts_one b
  obtain ⟨y, m, ey⟩ : ∃ y m, splitL ((d 1).ints.drop (idxI (d 1).ints + 1).toNat) = y :: m := List.exists_cons_of_ne_nil (split_ne _)
  rw [ey] at ea
  by_cases c : cmpB (List.take (idxI (d 1).ints).toNat (d 1).ints) (d 3).ints = 0
  ·refine ⟨tellA bp16_t1, _, _, _, tellA_ok (allTold'_iff.1 ?_), bp16_y1, dutiesTold_ok ?_⟩
   ·simp only [bp16_t1, F40, F41, F50, F51, F55, one_iff, ints_take, show Int.toNat 0 = 0 from rfl, List.drop_zero, h0, h2, tl]
    and_intros <;> first | assumption | omega
   ·simp only [bp16_d1, F40, F41, F50, F51, F55, one_iff, ints_take, show Int.toNat 0 = 0 from rfl, List.drop_zero, h0, h2, ea, eb, cmpP_cons, c, if_pos, cmpP_nil, cmpP_past, cmpP_ahead, ↓reduceIte, tl]
  ·refine ⟨tellA bp16_t2, _, _, _, tellA_ok (allTold'_iff.1 ?_), bp16_y2, dutiesTold_ok ?_⟩
   ·simp only [bp16_t2, F40, F41, F50, F51, F55, one_iff, ints_take, show Int.toNat 0 = 0 from rfl, List.drop_zero, h0, h2, tl]
    and_intros <;> first | assumption | omega
   ·simp only [bp16_d2, F40, F41, F50, F51, F55, one_iff, ints_take, show Int.toNat 0 = 0 from rfl, List.drop_zero, h0, h2, ea, eb, cmpP_cons, c, if_pos, cmpP_nil, cmpP_past, cmpP_ahead, ↓reduceIte, tl]
 ·have eb := parts_cut (a := (d 3).ints) (by omega)
  have rb := ne_rest (a := (d 3).ints) (by omega) qb
  by_cases c : cmpB (List.take (idxI (d 1).ints).toNat (d 1).ints) (List.take (idxI (d 3).ints).toNat (d 3).ints) = 0
  ·refine ⟨tellA bp16_t3, _, _, _, tellA_ok (allTold'_iff.1 ?_), bp16_y3, dutiesTold_ok ?_⟩
   ·simp only [bp16_t3, F40, F41, F50, F51, F55, one_iff, ints_take, show Int.toNat 0 = 0 from rfl, List.drop_zero, h0, h2, tl]
    and_intros <;> first | assumption | omega
   ·simp only [bp16_d3, F40, F41, F50, F51, F55, one_iff, ints_take, show Int.toNat 0 = 0 from rfl, List.drop_zero, h0, h2, ea, eb, cmpP_cons, c, if_pos, cmpP_nil, cmpP_past, cmpP_ahead, ↓reduceIte, tl]
  ·refine ⟨tellA bp16_t4, _, _, _, tellA_ok (allTold'_iff.1 ?_), bp16_y4, dutiesTold_ok ?_⟩
   ·simp only [bp16_t4, F40, F41, F50, F51, F55, one_iff, ints_take, show Int.toNat 0 = 0 from rfl, List.drop_zero, h0, h2, tl]
    and_intros <;> first | assumption | omega
   ·simp only [bp16_d4, F40, F41, F50, F51, F55, one_iff, ints_take, show Int.toNat 0 = 0 from rfl, List.drop_zero, h0, h2, ea, eb, cmpP_cons, c, if_pos, cmpP_nil, cmpP_past, cmpP_ahead, ↓reduceIte, tl]

def bp17 : CSpec := { args := [.sstr (.var 0) (.var 1), .sstr (.var 2) (.var 3)], next := 0, rows := [], pre := [(.le (.var 0) (.int 100000000000000), true), (.le (.var 2) (.int 100000000000000), true), (.le (.fn 50 (.bi .pair (.var 1) (.int 0))) (.int 17), true), (.eq (.fn 55 (.bi .pair (.var 1) (.int 0))) (.int 1), true), (.eq (.fn 55 (.bi .pair (.var 3) (.int 0))) (.int 1), true)], res := .sint .i64 (.fn 51 (argsE [.var 1, .var 3])), frows := [], same := [] }
abbrev asPd75 : Q × Bool := ((.le (.fn 50 (.bi .pair (.var 1) (.int 0))) (.int 16)), true)
def bp17_t0 : List (Q × Bool) := [asPd1, asPd4, asPd75, asPd16, asPd17]
def bp17_d0 : List Duty := []
theorem bp17_y0 : endC bp17 [] 1000 (callC Try.prog (tellA bp17_t0) [] [(58, idxC), (48, cmpC), (35, bp16)] [] 3000 40 35 bp17) = some bp17_d0 := by kernel_rfl
abbrev asPd76 : Q × Bool := ((.le (.fn 50 (.bi .pair (.var 1) (.int 0))) (.int 16)), false)
def bp17_t1 : List (Q × Bool) := [asPd1, asPd4, asPd76, asPd0, asPd19, asPd20, asPd21, asPd22, asPd23, asPd3, asPd5, asPd24]
def bp17_d1 : List Duty := [(true, (.int 1), (.fn 51 txPd0))]
theorem bp17_y1 : endC bp17 [] 1000 (callC Try.prog (tellA bp17_t1) [] [(58, idxC), (48, cmpC), (35, bp16)] [] 3000 40 35 bp17) = some bp17_d1 := by kernel_rfl
def bp17_t2 : List (Q × Bool) := [asPd1, asPd4, asPd76, asPd0, asPd19, asPd20, asPd21, asPd22, asPd23, asPd3, asPd5, asPd25]
def bp17_d2 : List Duty := [(true, (.fn 41 txPd8), (.fn 51 txPd0))]
theorem bp17_y2 : endC bp17 [] 1000 (callC Try.prog (tellA bp17_t2) [] [(58, idxC), (48, cmpC), (35, bp16)] [] 3000 40 35 bp17) = some bp17_d2 := by kernel_rfl
abbrev asPd77 : Q × Bool := ((.le (.fn 50 txPd5) (.int 16)), true)
def bp17_t3 : List (Q × Bool) := [asPd1, asPd4, asPd76, asPd0, asPd19, asPd20, asPd21, asPd22, asPd23, asPd3, asPd8, asPd9, asPd10, asPd11, asPd12, asPd26, asPd27, asPd28, asPd77, asPd30, asPd31]
def bp17_d3 : List Duty := [(true, (.fn 51 txPd10), (.fn 51 txPd0))]
theorem bp17_y3 : endC bp17 [] 1000 (callC Try.prog (tellA bp17_t3) [] [(58, idxC), (48, cmpC), (35, bp16)] [] 3000 40 35 bp17) = some bp17_d3 := by kernel_rfl
def bp17_t4 : List (Q × Bool) := [asPd1, asPd4, asPd76, asPd0, asPd19, asPd20, asPd21, asPd22, asPd23, asPd3, asPd8, asPd9, asPd10, asPd11, asPd12, asPd32]
def bp17_d4 : List Duty := [(true, (.fn 41 txPd9), (.fn 51 txPd0))]
theorem bp17_y4 : endC bp17 [] 1000 (callC Try.prog (tellA bp17_t4) [] [(58, idxC), (48, cmpC), (35, bp16)] [] 3000 40 35 bp17) = some bp17_d4 := by kernel_rfl
theorem bp17_holds : CHolds Try.prog 35 bp17 F := by
 refine cholds_of sound (tableNil _ _) (specsCons idxC_holds (specsCons cmpC_holds (specsCons bp16_holds (specsNil _ _)))) (oversNil _ _) (fuel := 3000) (depth := 40) (by kernel_rfl) fun d hp hR hA => ?_
 have hp := allTold'_iff.2 hp
 simp only [bp17, tl] at hp hR hA
 simp only [F50, F55, D.toInt_int, one_iff] at hp
 obtain ⟨q0, q2, qk, qa, qb⟩ := hp
 have ha := idx_in (d 1).ints
 have hb := idx_in (d 3).ints
 have sa := ne_not qa
 have sb := ne_not qb
 have h0 : List.take (d 0).toInt.toNat (d 1).ints = (d 1).ints := List.take_of_length_le (by omega)
 have h2 : List.take (d 2).toInt.toNat (d 3).ints = (d 3).ints := List.take_of_length_le (by omega)
 by_cases s : ((splitL (d 1).ints).length : Int) ≤ 16
 ·refine ⟨tellA bp17_t0, _, _, _, tellA_ok (allTold'_iff.1 ?_), bp17_y0, dutiesTold_ok ?_⟩
  ·simp only [bp17_t0, F40, F41, F50, F51, F55, one_iff, ints_take, show Int.toNat 0 = 0 from rfl, List.drop_zero, h0, h2, tl]
   and_intros <;> first | assumption | omega
  ·simp only [bp17_d0, F40, F41, F50, F51, F55, one_iff, ints_take, show Int.toNat 0 = 0 from rfl, List.drop_zero, h0, h2, s, tl]
 have a : 0 ≤ idxI (d 1).ints := by
  by_cases g : idxI (d 1).ints = -1
  ·have := parts_one g
   rw [this] at s
   exact absurd (show ((1 : Nat) : Int) ≤ 16 by omega) s
  ·omega
 have ea := parts_cut (a := (d 1).ints) (by omega)
 have ra := ne_rest (a := (d 1).ints) (by omega) qa
 have la := parts_less (a := (d 1).ints) (by omega)
 by_cases b : idxI (d 3).ints = -1
 ·have eb := parts_one b
  obtain ⟨y, m, ey⟩ : ∃ y m, splitL ((d 1).ints.drop (idxI (d 1).ints + 1).toNat) = y :: m := List.exists_cons_of_ne_nil (split_ne _)
  rw [ey] at ea
  by_cases c : cmpB (List.take (idxI (d 1).ints).toNat (d 1).ints) (d 3).ints = 0
  ·refine ⟨tellA bp17_t1, _, _, _, tellA_ok (allTold'_iff.1 ?_), bp17_y1, dutiesTold_ok ?_⟩
   ·simp only [bp17_t1, F40, F41, F50, F51, F55, one_iff, ints_take, show Int.toNat 0 = 0 from rfl, List.drop_zero, h0, h2, tl]
    and_intros <;> first | assumption | omega
   ·simp only [bp17_d1, F40, F41, F50, F51, F55, one_iff, ints_take, show Int.toNat 0 = 0 from rfl, List.drop_zero, h0, h2, ea, eb, cmpP_cons, c, if_pos, cmpP_nil, cmpP_past, cmpP_ahead, ↓reduceIte, tl]
  ·refine ⟨tellA bp17_t2, _, _, _, tellA_ok (allTold'_iff.1 ?_), bp17_y2, dutiesTold_ok ?_⟩
   ·simp only [bp17_t2, F40, F41, F50, F51, F55, one_iff, ints_take, show Int.toNat 0 = 0 from rfl, List.drop_zero, h0, h2, tl]
    and_intros <;> first | assumption | omega
   ·simp only [bp17_d2, F40, F41, F50, F51, F55, one_iff, ints_take, show Int.toNat 0 = 0 from rfl, List.drop_zero, h0, h2, ea, eb, cmpP_cons, c, if_pos, cmpP_nil, cmpP_past, cmpP_ahead, ↓reduceIte, tl]
 ·have eb := parts_cut (a := (d 3).ints) (by omega)
  have rb := ne_rest (a := (d 3).ints) (by omega) qb
  by_cases c : cmpB (List.take (idxI (d 1).ints).toNat (d 1).ints) (List.take (idxI (d 3).ints).toNat (d 3).ints) = 0
  ·refine ⟨tellA bp17_t3, _, _, _, tellA_ok (allTold'_iff.1 ?_), bp17_y3, dutiesTold_ok ?_⟩
   ·simp only [bp17_t3, F40, F41, F50, F51, F55, one_iff, ints_take, show Int.toNat 0 = 0 from rfl, List.drop_zero, h0, h2, tl]
    and_intros <;> first | assumption | omega
   ·simp only [bp17_d3, F40, F41, F50, F51, F55, one_iff, ints_take, show Int.toNat 0 = 0 from rfl, List.drop_zero, h0, h2, ea, eb, cmpP_cons, c, if_pos, cmpP_nil, cmpP_past, cmpP_ahead, ↓reduceIte, tl]
  ·refine ⟨tellA bp17_t4, _, _, _, tellA_ok (allTold'_iff.1 ?_), bp17_y4, dutiesTold_ok ?_⟩
   ·simp only [bp17_t4, F40, F41, F50, F51, F55, one_iff, ints_take, show Int.toNat 0 = 0 from rfl, List.drop_zero, h0, h2, tl]
    and_intros <;> first | assumption | omega
   ·simp only [bp17_d4, F40, F41, F50, F51, F55, one_iff, ints_take, show Int.toNat 0 = 0 from rfl, List.drop_zero, h0, h2, ea, eb, cmpP_cons, c, if_pos, cmpP_nil, cmpP_past, cmpP_ahead, ↓reduceIte, tl]

def bp18 : CSpec := { args := [.sstr (.var 0) (.var 1), .sstr (.var 2) (.var 3)], next := 0, rows := [], pre := [(.le (.var 0) (.int 100000000000000), true), (.le (.var 2) (.int 100000000000000), true), (.le (.fn 50 (.bi .pair (.var 1) (.int 0))) (.int 18), true), (.eq (.fn 55 (.bi .pair (.var 1) (.int 0))) (.int 1), true), (.eq (.fn 55 (.bi .pair (.var 3) (.int 0))) (.int 1), true)], res := .sint .i64 (.fn 51 (argsE [.var 1, .var 3])), frows := [], same := [] }
abbrev asPd78 : Q × Bool := ((.le (.fn 50 (.bi .pair (.var 1) (.int 0))) (.int 17)), true)
def bp18_t0 : List (Q × Bool) := [asPd1, asPd4, asPd78, asPd16, asPd17]
def bp18_d0 : List Duty := []
theorem bp18_y0 : endC bp18 [] 1000 (callC Try.prog (tellA bp18_t0) [] [(58, idxC), (48, cmpC), (35, bp17)] [] 3000 40 35 bp18) = some bp18_d0 := by kernel_rfl
abbrev asPd79 : Q × Bool := ((.le (.fn 50 (.bi .pair (.var 1) (.int 0))) (.int 17)), false)
def bp18_t1 : List (Q × Bool) := [asPd1, asPd4, asPd79, asPd0, asPd19, asPd20, asPd21, asPd22, asPd23, asPd3, asPd5, asPd24]
def bp18_d1 : List Duty := [(true, (.int 1), (.fn 51 txPd0))]
theorem bp18_y1 : endC bp18 [] 1000 (callC Try.prog (tellA bp18_t1) [] [(58, idxC), (48, cmpC), (35, bp17)] [] 3000 40 35 bp18) = some bp18_d1 := by kernel_rfl
def bp18_t2 : List (Q × Bool) := [asPd1, asPd4, asPd79, asPd0, asPd19, asPd20, asPd21, asPd22, asPd23, asPd3, asPd5, asPd25]
def bp18_d2 : List Duty := [(true, (.fn 41 txPd8), (.fn 51 txPd0))]
theorem bp18_y2 : endC bp18 [] 1000 (callC Try.prog (tellA bp18_t2) [] [(58, idxC), (48, cmpC), (35, bp17)] [] 3000 40 35 bp18) = some bp18_d2 := by kernel_rfl
abbrev asPd80 : Q × Bool := ((.le (.fn 50 txPd5) (.int 17)), true)
def bp18_t3 : List (Q × Bool) := [asPd1, asPd4, asPd79, asPd0, asPd19, asPd20, asPd21, asPd22, asPd23, asPd3, asPd8, asPd9, asPd10, asPd11, asPd12, asPd26, asPd27, asPd28, asPd80, asPd30, asPd31]
def bp18_d3 : List Duty := [(true, (.fn 51 txPd10), (.fn 51 txPd0))]
theorem bp18_y3 : endC bp18 [] 1000 (callC Try.prog (tellA bp18_t3) [] [(58, idxC), (48, cmpC), (35, bp17)] [] 3000 40 35 bp18) = some bp18_d3 := by kernel_rfl
def bp18_t4 : List (Q × Bool) := [asPd1, asPd4, asPd79, asPd0, asPd19, asPd20, asPd21, asPd22, asPd23, asPd3, asPd8, asPd9, asPd10, asPd11, asPd12, asPd32]
def bp18_d4 : List Duty := [(true, (.fn 41 txPd9), (.fn 51 txPd0))]
theorem bp18_y4 : endC bp18 [] 1000 (callC Try.prog (tellA bp18_t4) [] [(58, idxC), (48, cmpC), (35, bp17)] [] 3000 40 35 bp18) = some bp18_d4 := by kernel_rfl
theorem bp18_holds : CHolds Try.prog 35 bp18 F := by
 refine cholds_of sound (tableNil _ _) (specsCons idxC_holds (specsCons cmpC_holds (specsCons bp17_holds (specsNil _ _)))) (oversNil _ _) (fuel := 3000) (depth := 40) (by kernel_rfl) fun d hp hR hA => ?_
 have hp := allTold'_iff.2 hp
 simp only [bp18, tl] at hp hR hA
 simp only [F50, F55, D.toInt_int, one_iff] at hp
 obtain ⟨q0, q2, qk, qa, qb⟩ := hp
 have ha := idx_in (d 1).ints
 have hb := idx_in (d 3).ints
 have sa := ne_not qa
 have sb := ne_not qb
 have h0 : List.take (d 0).toInt.toNat (d 1).ints = (d 1).ints := List.take_of_length_le (by omega)
 have h2 : List.take (d 2).toInt.toNat (d 3).ints = (d 3).ints := List.take_of_length_le (by omega)
 by_cases s : ((splitL (d 1).ints).length : Int) ≤ 17
 ·refine ⟨tellA bp18_t0, _, _, _, tellA_ok (allTold'_iff.1 ?_), bp18_y0, dutiesTold_ok ?_⟩
  ·simp only [bp18_t0, F40, F41, F50, F51, F55, one_iff, ints_take, show Int.toNat 0 = 0 from rfl, List.drop_zero, h0, h2, tl]
   and_intros <;> first | assumption | omega
  ·simp only [bp18_d0, F40, F41, F50, F51, F55, one_iff, ints_take, show Int.toNat 0 = 0 from rfl, List.drop_zero, h0, h2, s, tl]
 have a : 0 ≤ idxI (d 1).ints := by
  by_cases g : idxI (d 1).ints = -1
  ·have := parts_one g
   rw [this] at s
   exact absurd (show ((1 : Nat) : Int) ≤ 17 by omega) s
  ·omega
 have ea := parts_cut (a := (d 1).ints) (by omega)
 have ra := ne_rest (a := (d 1).ints) (by omega) qa
 have la := parts_less (a := (d 1).ints) (by omega)
 by_cases b : idxI (d 3).ints = -1
 ·have eb := parts_one b
  obtain ⟨y, m, ey⟩ : ∃ y m, splitL ((d 1).ints.drop (idxI (d 1).ints + 1).toNat) = y :: m := List.exists_cons_of_ne_nil (split_ne _)
  rw [ey] at ea
  by_cases c : cmpB (List.take (idxI (d 1).ints).toNat (d 1).ints) (d 3).ints = 0
  ·refine ⟨tellA bp18_t1, _, _, _, tellA_ok (allTold'_iff.1 ?_), bp18_y1, dutiesTold_ok ?_⟩
   ·simp only [bp18_t1, F40, F41, F50, F51, F55, one_iff, ints_take, show Int.toNat 0 = 0 from rfl, List.drop_zero, h0, h2, tl]
    and_intros <;> first | assumption | omega
   ·simp only [bp18_d1, F40, F41, F50, F51, F55, one_iff, ints_take, show Int.toNat 0 = 0 from rfl, List.drop_zero, h0, h2, ea, eb, cmpP_cons, c, if_pos, cmpP_nil, cmpP_past, cmpP_ahead, ↓reduceIte, tl]
  ·refine ⟨tellA bp18_t2, _, _, _, tellA_ok (allTold'_iff.1 ?_), bp18_y2, dutiesTold_ok ?_⟩
   ·simp only [bp18_t2, F40, F41, F50, F51, F55, one_iff, ints_take, show Int.toNat 0 = 0 from rfl, List.drop_zero, h0, h2, tl]
    and_intros <;> first | assumption | omega
   ·simp only [bp18_d2, F40, F41, F50, F51, F55, one_iff, ints_take, show Int.toNat 0 = 0 from rfl, List.drop_zero, h0, h2, ea, eb, cmpP_cons, c, if_pos, cmpP_nil, cmpP_past, cmpP_ahead, ↓reduceIte, tl]
 ·have eb := parts_cut (a := (d 3).ints) (by omega)
  have rb := ne_rest (a := (d 3).ints) (by omega) qb
  by_cases c : cmpB (List.take (idxI (d 1).ints).toNat (d 1).ints) (List.take (idxI (d 3).ints).toNat (d 3).ints) = 0
  ·refine ⟨tellA bp18_t3, _, _, _, tellA_ok (allTold'_iff.1 ?_), bp18_y3, dutiesTold_ok ?_⟩
   ·simp only [bp18_t3, F40, F41, F50, F51, F55, one_iff, ints_take, show Int.toNat 0 = 0 from rfl, List.drop_zero, h0, h2, tl]
    and_intros <;> first | assumption | omega
   ·simp only [bp18_d3, F40, F41, F50, F51, F55, one_iff, ints_take, show Int.toNat 0 = 0 from rfl, List.drop_zero, h0, h2, ea, eb, cmpP_cons, c, if_pos, cmpP_nil, cmpP_past, cmpP_ahead, ↓reduceIte, tl]
  ·refine ⟨tellA bp18_t4, _, _, _, tellA_ok (allTold'_iff.1 ?_), bp18_y4, dutiesTold_ok ?_⟩
   ·simp only [bp18_t4, F40, F41, F50, F51, F55, one_iff, ints_take, show Int.toNat 0 = 0 from rfl, List.drop_zero, h0, h2, tl]
    and_intros <;> first | assumption | omega
   ·simp only [bp18_d4, F40, F41, F50, F51, F55, one_iff, ints_take, show Int.toNat 0 = 0 from rfl, List.drop_zero, h0, h2, ea, eb, cmpP_cons, c, if_pos, cmpP_nil, cmpP_past, cmpP_ahead, ↓reduceIte, tl]

def bp19 : CSpec := { args := [.sstr (.var 0) (.var 1), .sstr (.var 2) (.var 3)], next := 0, rows := [], pre := [(.le (.var 0) (.int 100000000000000), true), (.le (.var 2) (.int 100000000000000), true), (.le (.fn 50 (.bi .pair (.var 1) (.int 0))) (.int 19), true), (.eq (.fn 55 (.bi .pair (.var 1) (.int 0))) (.int 1), true), (.eq (.fn 55 (.bi .pair (.var 3) (.int 0))) (.int 1), true)], res := .sint .i64 (.fn 51 (argsE [.var 1, .var 3])), frows := [], same := [] }
abbrev asPd81 : Q × Bool := ((.le (.fn 50 (.bi .pair (.var 1) (.int 0))) (.int 18)), true)
def bp19_t0 : List (Q × Bool) := [asPd1, asPd4, asPd81, asPd16, asPd17]
def bp19_d0 : List Duty := []
theorem bp19_y0 : endC bp19 [] 1000 (callC Try.prog (tellA bp19_t0) [] [(58, idxC), (48, cmpC), (35, bp18)] [] 3000 40 35 bp19) = some bp19_d0 := by kernel_rfl
abbrev asPd82 : Q × Bool := ((.le (.fn 50 (.bi .pair (.var 1) (.int 0))) (.int 18)), false)
def bp19_t1 : List (Q × Bool) := [asPd1, asPd4, asPd82, asPd0, asPd19, asPd20, asPd21, asPd22, asPd23, asPd3, asPd5, asPd24]
def bp19_d1 : List Duty := [(true, (.int 1), (.fn 51 txPd0))]
theorem bp19_y1 : endC bp19 [] 1000 (callC Try.prog (tellA bp19_t1) [] [(58, idxC), (48, cmpC), (35, bp18)] [] 3000 40 35 bp19) = some bp19_d1 := by kernel_rfl
def bp19_t2 : List (Q × Bool) := [asPd1, asPd4, asPd82, asPd0, asPd19, asPd20, asPd21, asPd22, asPd23, asPd3, asPd5, asPd25]
def bp19_d2 : List Duty := [(true, (.fn 41 txPd8), (.fn 51 txPd0))]
theorem bp19_y2 : endC bp19 [] 1000 (callC Try.prog (tellA bp19_t2) [] [(58, idxC), (48, cmpC), (35, bp18)] [] 3000 40 35 bp19) = some bp19_d2 := by kernel_rfl
abbrev asPd83 : Q × Bool := ((.le (.fn 50 txPd5) (.int 18)), true)
def bp19_t3 : List (Q × Bool) := [asPd1, asPd4, asPd82, asPd0, asPd19, asPd20, asPd21, asPd22, asPd23, asPd3, asPd8, asPd9, asPd10, asPd11, asPd12, asPd26, asPd27, asPd28, asPd83, asPd30, asPd31]
def bp19_d3 : List Duty := [(true, (.fn 51 txPd10), (.fn 51 txPd0))]
theorem bp19_y3 : endC bp19 [] 1000 (callC Try.prog (tellA bp19_t3) [] [(58, idxC), (48, cmpC), (35, bp18)] [] 3000 40 35 bp19) = some bp19_d3 := by kernel_rfl
def bp19_t4 : List (Q × Bool) := [asPd1, asPd4, asPd82, asPd0, asPd19, asPd20, asPd21, asPd22, asPd23, asPd3, asPd8, asPd9, asPd10, asPd11, asPd12, asPd32]
def bp19_d4 : List Duty := [(true, (.fn 41 txPd9), (.fn 51 txPd0))]
theorem bp19_y4 : endC bp19 [] 1000 (callC Try.prog (tellA bp19_t4) [] [(58, idxC), (48, cmpC), (35, bp18)] [] 3000 40 35 bp19) = some bp19_d4 := by kernel_rfl
theorem bp19_holds : CHolds Try.prog 35 bp19 F := by
 refine cholds_of sound (tableNil _ _) (specsCons idxC_holds (specsCons cmpC_holds (specsCons bp18_holds (specsNil _ _)))) (oversNil _ _) (fuel := 3000) (depth := 40) (by kernel_rfl) fun d hp hR hA => ?_
 have hp := allTold'_iff.2 hp
 simp only [bp19, tl] at hp hR hA
 simp only [F50, F55, D.toInt_int, one_iff] at hp
 obtain ⟨q0, q2, qk, qa, qb⟩ := hp
 have ha := idx_in (d 1).ints
 have hb := idx_in (d 3).ints
 have sa := ne_not qa
 have sb := ne_not qb
 have h0 : List.take (d 0).toInt.toNat (d 1).ints = (d 1).ints := List.take_of_length_le (by omega)
 have h2 : List.take (d 2).toInt.toNat (d 3).ints = (d 3).ints := List.take_of_length_le (by omega)
 by_cases s : ((splitL (d 1).ints).length : Int) ≤ 18
 ·refine ⟨tellA bp19_t0, _, _, _, tellA_ok (allTold'_iff.1 ?_), bp19_y0, dutiesTold_ok ?_⟩
  ·simp only [bp19_t0, F40, F41, F50, F51, F55, one_iff, ints_take, show Int.toNat 0 = 0 from rfl, List.drop_zero, h0, h2, tl]
   and_intros <;> first | assumption | omega
  ·simp only [bp19_d0, F40, F41, F50, F51, F55, one_iff, ints_take, show Int.toNat 0 = 0 from rfl, List.drop_zero, h0, h2, s, tl]
 have a : 0 ≤ idxI (d 1).ints := by
  by_cases g : idxI (d 1).ints = -1
  ·have := parts_one g
   rw [this] at s
   exact absurd (show ((1 : Nat) : Int) ≤ 18 by omega) s
  ·omega
 have ea := parts_cut (a := (d 1).ints) (by omega)
 have ra := ne_rest (a := (d 1).ints) (by omega) qa
 have la := parts_less (a := (d 1).ints) (by omega)
 by_cases b : idxI (d 3).ints = -1
 ·have eb := parts_one b
  obtain ⟨y, m, ey⟩ : ∃ y m, splitL ((d 1).ints.drop (idxI (d 1).ints + 1).toNat) = y :: m := List.exists_cons_of_ne_nil (split_ne _)
  rw [ey] at ea
  by_cases c : cmpB (List.take (idxI (d 1).ints).toNat (d 1).ints) (d 3).ints = 0
  ·refine ⟨tellA bp19_t1, _, _, _, tellA_ok (allTold'_iff.1 ?_), bp19_y1, dutiesTold_ok ?_⟩
   ·simp only [bp19_t1, F40, F41, F50, F51, F55, one_iff, ints_take, show Int.toNat 0 = 0 from rfl, List.drop_zero, h0, h2, tl]
    and_intros <;> first | assumption | omega
   ·simp only [bp19_d1, F40, F41, F50, F51, F55, one_iff, ints_take, show Int.toNat 0 = 0 from rfl, List.drop_zero, h0, h2, ea, eb, cmpP_cons, c, if_pos, cmpP_nil, cmpP_past, cmpP_ahead, ↓reduceIte, tl]
  ·refine ⟨tellA bp19_t2, _, _, _, tellA_ok (allTold'_iff.1 ?_), bp19_y2, dutiesTold_ok ?_⟩
   ·simp only [bp19_t2, F40, F41, F50, F51, F55, one_iff, ints_take, show Int.toNat 0 = 0 from rfl, List.drop_zero, h0, h2, tl]
    and_intros <;> first | assumption | omega
   ·simp only [bp19_d2, F40, F41, F50, F51, F55, one_iff, ints_take, show Int.toNat 0 = 0 from rfl, List.drop_zero, h0, h2, ea, eb, cmpP_cons, c, if_pos, cmpP_nil, cmpP_past, cmpP_ahead, ↓reduceIte, tl]
 ·have eb := parts_cut (a := (d 3).ints) (by omega)
  have rb := ne_rest (a := (d 3).ints) (by omega) qb
  by_cases c : cmpB (List.take (idxI (d 1).ints).toNat (d 1).ints) (List.take (idxI (d 3).ints).toNat (d 3).ints) = 0
  ·refine ⟨tellA bp19_t3, _, _, _, tellA_ok (allTold'_iff.1 ?_), bp19_y3, dutiesTold_ok ?_⟩
   ·simp only [bp19_t3, F40, F41, F50, F51, F55, one_iff, ints_take, show Int.toNat 0 = 0 from rfl, List.drop_zero, h0, h2, tl]
    and_intros <;> first | assumption | omega
   ·simp only [bp19_d3, F40, F41, F50, F51, F55, one_iff, ints_take, show Int.toNat 0 = 0 from rfl, List.drop_zero, h0, h2, ea, eb, cmpP_cons, c, if_pos, cmpP_nil, cmpP_past, cmpP_ahead, ↓reduceIte, tl]
  ·refine ⟨tellA bp19_t4, _, _, _, tellA_ok (allTold'_iff.1 ?_), bp19_y4, dutiesTold_ok ?_⟩
   ·simp only [bp19_t4, F40, F41, F50, F51, F55, one_iff, ints_take, show Int.toNat 0 = 0 from rfl, List.drop_zero, h0, h2, tl]
    and_intros <;> first | assumption | omega
   ·simp only [bp19_d4, F40, F41, F50, F51, F55, one_iff, ints_take, show Int.toNat 0 = 0 from rfl, List.drop_zero, h0, h2, ea, eb, cmpP_cons, c, if_pos, cmpP_nil, cmpP_past, cmpP_ahead, ↓reduceIte, tl]

def bp20 : CSpec := { args := [.sstr (.var 0) (.var 1), .sstr (.var 2) (.var 3)], next := 0, rows := [], pre := [(.le (.var 0) (.int 100000000000000), true), (.le (.var 2) (.int 100000000000000), true), (.le (.fn 50 (.bi .pair (.var 1) (.int 0))) (.int 20), true), (.eq (.fn 55 (.bi .pair (.var 1) (.int 0))) (.int 1), true), (.eq (.fn 55 (.bi .pair (.var 3) (.int 0))) (.int 1), true)], res := .sint .i64 (.fn 51 (argsE [.var 1, .var 3])), frows := [], same := [] }
abbrev asPd84 : Q × Bool := ((.le (.fn 50 (.bi .pair (.var 1) (.int 0))) (.int 19)), true)
def bp20_t0 : List (Q × Bool) := [asPd1, asPd4, asPd84, asPd16, asPd17]
def bp20_d0 : List Duty := []
theorem bp20_y0 : endC bp20 [] 1000 (callC Try.prog (tellA bp20_t0) [] [(58, idxC), (48, cmpC), (35, bp19)] [] 3000 40 35 bp20) = some bp20_d0 := by kernel_rfl
abbrev asPd85 : Q × Bool := ((.le (.fn 50 (.bi .pair (.var 1) (.int 0))) (.int 19)), false)
def bp20_t1 : List (Q × Bool) := [asPd1, asPd4, asPd85, asPd0, asPd19, asPd20, asPd21, asPd22, asPd23, asPd3, asPd5, asPd24]
def bp20_d1 : List Duty := [(true, (.int 1), (.fn 51 txPd0))]
theorem bp20_y1 : endC bp20 [] 1000 (callC Try.prog (tellA bp20_t1) [] [(58, idxC), (48, cmpC), (35, bp19)] [] 3000 40 35 bp20) = some bp20_d1 := by kernel_rfl
def bp20_t2 : List (Q × Bool) := [asPd1, asPd4, asPd85, asPd0, asPd19, asPd20, asPd21, asPd22, asPd23, asPd3, asPd5, asPd25]
def bp20_d2 : List Duty := [(true, (.fn 41 txPd8), (.fn 51 txPd0))]
theorem bp20_y2 : endC bp20 [] 1000 (callC Try.prog (tellA bp20_t2) [] [(58, idxC), (48, cmpC), (35, bp19)] [] 3000 40 35 bp20) = some bp20_d2 := by kernel_rfl
abbrev asPd86 : Q × Bool := ((.le (.fn 50 txPd5) (.int 19)), true)
def bp20_t3 : List (Q × Bool) := [asPd1, asPd4, asPd85, asPd0, asPd19, asPd20, asPd21, asPd22, asPd23, asPd3, asPd8, asPd9, asPd10, asPd11, asPd12, asPd26, asPd27, asPd28, asPd86, asPd30, asPd31]
def bp20_d3 : List Duty := [(true, (.fn 51 txPd10), (.fn 51 txPd0))]
theorem bp20_y3 : endC bp20 [] 1000 (callC Try.prog (tellA bp20_t3) [] [(58, idxC), (48, cmpC), (35, bp19)] [] 3000 40 35 bp20) = some bp20_d3 := by kernel_rfl
def bp20_t4 : List (Q × Bool) := [asPd1, asPd4, asPd85, asPd0, asPd19, asPd20, asPd21, asPd22, asPd23, asPd3, asPd8, asPd9, asPd10, asPd11, asPd12, asPd32]
def bp20_d4 : List Duty := [(true, (.fn 41 txPd9), (.fn 51 txPd0))]
theorem bp20_y4 : endC bp20 [] 1000 (callC Try.prog (tellA bp20_t4) [] [(58, idxC), (48, cmpC), (35, bp19)] [] 3000 40 35 bp20) = some bp20_d4 := by kernel_rfl
theorem bp20_holds : CHolds Try.prog 35 bp20 F := by
 refine cholds_of sound (tableNil _ _) (specsCons idxC_holds (specsCons cmpC_holds (specsCons bp19_holds (specsNil _ _)))) (oversNil _ _) (fuel := 3000) (depth := 40) (by kernel_rfl) fun d hp hR hA => ?_
 have hp := allTold'_iff.2 hp
 simp only [bp20, tl] at hp hR hA
 simp only [F50, F55, D.toInt_int, one_iff] at hp
 obtain ⟨q0, q2, qk, qa, qb⟩ := hp
 have ha := idx_in (d 1).ints
 have hb := idx_in (d 3).ints
 have sa := ne_not qa
 have sb := ne_not qb
 have h0 : List.take (d 0).toInt.toNat (d 1).ints = (d 1).ints := List.take_of_length_le (by omega)
 have h2 : List.take (d 2).toInt.toNat (d 3).ints = (d 3).ints := List.take_of_length_le (by omega)
 by_cases s : ((splitL (d 1).ints).length : Int) ≤ 19
 ·refine ⟨tellA bp20_t0, _, _, _, tellA_ok (allTold'_iff.1 ?_), bp20_y0, dutiesTold_ok ?_⟩
  ·simp only [bp20_t0, F40, F41, F50, F51, F55, one_iff, ints_take, show Int.toNat 0 = 0 from rfl, List.drop_zero, h0, h2, tl]
   and_intros <;> first | assumption | omega
  ·simp only [bp20_d0, F40, F41, F50, F51, F55, one_iff, ints_take, show Int.toNat 0 = 0 from rfl, List.drop_zero, h0, h2, s, tl]
 have a : 0 ≤ idxI (d 1).ints := by
  by_cases g : idxI (d 1).ints = -1
  ·have := parts_one g
   rw [this] at s
   exact absurd (show ((1 : Nat) : Int) ≤ 19 by omega) s
  ·omega
 have ea := parts_cut (a := (d 1).ints) (by omega)
 have ra := ne_rest (a := (d 1).ints) (by omega) qa
 have la := parts_less (a := (d 1).ints) (by omega)
 by_cases b : idxI (d 3).ints = -1
 ·have eb := parts_one b
  obtain ⟨y, m, ey⟩ : ∃ y m, splitL ((d 1).ints.drop (idxI (d 1).ints + 1).toNat) = y :: m := List.exists_cons_of_ne_nil (split_ne _)
  rw [ey] at ea
  by_cases c : cmpB (List.take (idxI (d 1).ints).toNat (d 1).ints) (d 3).ints = 0
  ·refine ⟨tellA bp20_t1, _, _, _, tellA_ok (allTold'_iff.1 ?_), bp20_y1, dutiesTold_ok ?_⟩
   ·simp only [bp20_t1, F40, F41, F50, F51, F55, one_iff, ints_take, show Int.toNat 0 = 0 from rfl, List.drop_zero, h0, h2, tl]
    and_intros <;> first | assumption | omega
   ·simp only [bp20_d1, F40, F41, F50, F51, F55, one_iff, ints_take, show Int.toNat 0 = 0 from rfl, List.drop_zero, h0, h2, ea, eb, cmpP_cons, c, if_pos, cmpP_nil, cmpP_past, cmpP_ahead, ↓reduceIte, tl]
  ·refine ⟨tellA bp20_t2, _, _, _, tellA_ok (allTold'_iff.1 ?_), bp20_y2, dutiesTold_ok ?_⟩
   ·simp only [bp20_t2, F40, F41, F50, F51, F55, one_iff, ints_take, show Int.toNat 0 = 0 from rfl, List.drop_zero, h0, h2, tl]
    and_intros <;> first | assumption | omega
   ·simp only [bp20_d2, F40, F41, F50, F51, F55, one_iff, ints_take, show Int.toNat 0 = 0 from rfl, List.drop_zero, h0, h2, ea, eb, cmpP_cons, c, if_pos, cmpP_nil, cmpP_past, cmpP_ahead, ↓reduceIte, tl]
 ·have eb := parts_cut (a := (d 3).ints) (by omega)
  have rb := ne_rest (a := (d 3).ints) (by omega) qb
  by_cases c : cmpB (List.take (idxI (d 1).ints).toNat (d 1).ints) (List.take (idxI (d 3).ints).toNat (d 3).ints) = 0
  ·refine ⟨tellA bp20_t3, _, _, _, tellA_ok (allTold'_iff.1 ?_), bp20_y3, dutiesTold_ok ?_⟩
   ·simp only [bp20_t3, F40, F41, F50, F51, F55, one_iff, ints_take, show Int.toNat 0 = 0 from rfl, List.drop_zero, h0, h2, tl]
    and_intros <;> first | assumption | omega
   ·simp only [bp20_d3, F40, F41, F50, F51, F55, one_iff, ints_take, show Int.toNat 0 = 0 from rfl, List.drop_zero, h0, h2, ea, eb, cmpP_cons, c, if_pos, cmpP_nil, cmpP_past, cmpP_ahead, ↓reduceIte, tl]
  ·refine ⟨tellA bp20_t4, _, _, _, tellA_ok (allTold'_iff.1 ?_), bp20_y4, dutiesTold_ok ?_⟩
   ·simp only [bp20_t4, F40, F41, F50, F51, F55, one_iff, ints_take, show Int.toNat 0 = 0 from rfl, List.drop_zero, h0, h2, tl]
    and_intros <;> first | assumption | omega
   ·simp only [bp20_d4, F40, F41, F50, F51, F55, one_iff, ints_take, show Int.toNat 0 = 0 from rfl, List.drop_zero, h0, h2, ea, eb, cmpP_cons, c, if_pos, cmpP_nil, cmpP_past, cmpP_ahead, ↓reduceIte, tl]

end Go.Proofs.Ytkejfocfmndogaa.Pd
