/-
 Contracts of this seat: what loops and calls leave, for all inputs. No condition.
-/
import Derived.Test.YtkejfocfmndogaaSycp
import Derived.Test.YtkejfocfmndogaaSyfm
import Derived.Test.YtkejfocfmndogaaCo
import Derived.Test.YtkejfocfmndogaaShelf
import Derived.Test.YtkejfocfmndogaaPa
import Derived.Test.YtkejfocfmndogaaPb
import Derived.Test.YtkejfocfmndogaaPc
import Derived.Test.YtkejfocfmndogaaPd
set_option linter.unusedSimpArgs false
set_option linter.unusedVariables false
namespace Go.Proofs.Ytkejfocfmndogaa.Pe
open Go.RowKit Go.Ev Go.Proofs.Ytkejfocfmndogaa.Co

open Go.Proofs.Ytkejfocfmndogaa.Pa
open Go.Proofs.Ytkejfocfmndogaa.Pb
open Go.Proofs.Ytkejfocfmndogaa.Pc
open Go.Proofs.Ytkejfocfmndogaa.Pd
theorem ok_dec {x : List Int} (h : (checkF x).1 = 0) : okP x = true := decide_eq_true h
theorem ok_not {x : List Int} (h : ¬ (checkF x).1 = 0) : okP x = false := decide_eq_false h
theorem ok_ne {x : List Int} (h : okP x = true) : neP x = true := by
 have := (ok_iff x).1 h
 unfold neP
 rw [List.all_eq_true]
 intro p hp
 have := part_ne (this.2.2.1 p hp)
 cases p with
 | nil => exact absurd rfl this
 | cons a l => rfl
theorem ok_zero {x : List Int} (h : okP x = true) : (checkF x).1 = 0 := of_decide_eq_true h
theorem pre_take {s d m : List Int} {n : Int} (h : s = d ++ 47 :: m) (hn : n = d.length) : s.take (n + 1).toNat = d ++ [47] := by
 rw [h, show d ++ 47 :: m = (d ++ [47]) ++ m by simp, List.take_append_of_le_length (by rw [List.length_append]; simp; omega), List.take_of_length_le (by rw [List.length_append]; simp; omega)]
theorem take_pre {s d : List Int} {n : Nat} (h : s.take n = d ++ [47]) : ∃ m, s = d ++ 47 :: m := ⟨s.drop n, by rw [show d ++ 47 :: s.drop n = (d ++ [47]) ++ s.drop n by simp, ← h, List.take_append_drop]⟩
theorem ok_parts {x : List Int} (h : okP x = true) : ((splitL x).length : Int) ≤ 20 := ((ok_iff x).1 h).2.2.2

abbrev txPe0 : E := (.bi .pair (.var 1) (.bi .pair (.var 3) (.int 0)))
def pathC : CSpec := { args := [.sstr (.var 0) (.var 1), .sstr (.var 2) (.var 3)], next := 0, rows := [], pre := [(.le (.var 0) (.int 100000000000000), true), (.le (.var 2) (.int 100000000000000), true)], res := .sint .i64 (.fn 52 (argsE [.var 1, .var 3])), frows := [], same := [] }
abbrev asPe0 : Q × Bool := ((.le (.var 0) (.int 100000000000000)), true)
abbrev asPe1 : Q × Bool := ((.eq (.fn 45 (.bi .pair (.var 1) (.int 0))) (.int 0)), true)
abbrev asPe2 : Q × Bool := ((.le (.var 2) (.int 100000000000000)), true)
abbrev asPe3 : Q × Bool := ((.eq (.fn 45 (.bi .pair (.var 3) (.int 0))) (.int 0)), true)
abbrev asPe4 : Q × Bool := ((.le (.fn 50 (.bi .pair (.var 1) (.int 0))) (.int 20)), true)
abbrev asPe5 : Q × Bool := ((.eq (.fn 55 (.bi .pair (.var 1) (.int 0))) (.int 1)), true)
abbrev asPe6 : Q × Bool := ((.eq (.fn 55 (.bi .pair (.var 3) (.int 0))) (.int 1)), true)
def pathC_t0 : List (Q × Bool) := [asPe0, asPe1, asPe2, asPe3, asPe4, asPe5, asPe6]
def pathC_d0 : List Duty := [(true, (.fn 51 txPe0), (.fn 52 txPe0))]
theorem pathC_y0 : endC pathC [] 1000 (callC Try.prog (tellA pathC_t0) [] [(48, cmpC), (11, checkC), (35, bp20)] [] 3000 40 18 pathC) = some pathC_d0 := by kernel_rfl
abbrev asPe7 : Q × Bool := ((.eq (.fn 45 (.bi .pair (.var 3) (.int 0))) (.int 0)), false)
def pathC_t1 : List (Q × Bool) := [asPe0, asPe1, asPe2, asPe7]
def pathC_d1 : List Duty := [(true, (.int 1), (.fn 52 txPe0))]
theorem pathC_y1 : endC pathC [] 1000 (callC Try.prog (tellA pathC_t1) [] [(48, cmpC), (11, checkC), (35, bp20)] [] 3000 40 18 pathC) = some pathC_d1 := by kernel_rfl
abbrev asPe8 : Q × Bool := ((.eq (.fn 45 (.bi .pair (.var 1) (.int 0))) (.int 0)), false)
def pathC_t2 : List (Q × Bool) := [asPe0, asPe8, asPe2, asPe3]
def pathC_d2 : List Duty := [(true, (.int (-1)), (.fn 52 txPe0))]
theorem pathC_y2 : endC pathC [] 1000 (callC Try.prog (tellA pathC_t2) [] [(48, cmpC), (11, checkC), (35, bp20)] [] 3000 40 18 pathC) = some pathC_d2 := by kernel_rfl
def pathC_t3 : List (Q × Bool) := [asPe0, asPe8, asPe2, asPe7]
def pathC_d3 : List Duty := [(true, (.fn 41 txPe0), (.fn 52 txPe0))]
theorem pathC_y3 : endC pathC [] 1000 (callC Try.prog (tellA pathC_t3) [] [(48, cmpC), (11, checkC), (35, bp20)] [] 3000 40 18 pathC) = some pathC_d3 := by kernel_rfl
theorem pathC_holds : CHolds Try.prog 18 pathC F := by
 refine cholds_of sound (tableNil _ _) (specsCons cmpC_holds (specsCons checkC_holds (specsCons bp20_holds (specsNil _ _)))) (oversNil _ _) (fuel := 3000) (depth := 40) (by kernel_rfl) fun d hp hR hA => ?_
 have hp := allTold'_iff.2 hp
 simp only [pathC, tl] at hp hR hA
 by_cases a : (checkF (d 1).ints).1 = 0
 ·have oa := ok_dec a
  have na := ok_ne oa
  have ka := ok_parts oa
  by_cases b : (checkF (d 3).ints).1 = 0
  ·have ob := ok_dec b
   have nb := ok_ne ob
   have hq : cmpT (d 1).ints (d 3).ints = cmpP (splitL (d 1).ints) (splitL (d 3).ints) := by unfold cmpT; simp only [oa, ob, if_pos, if_neg, Bool.false_eq_true, ↓reduceIte]
   refine ⟨tellA pathC_t0, _, _, _, tellA_ok (allTold'_iff.1 ?_), pathC_y0, dutiesTold_ok ?_⟩
   ·simp only [pathC_t0, F45, F50, F55, F40, F42, F53, F56, one_iff, show Int.toNat 0 = 0 from rfl, List.drop_zero, ints_take, tl]
    and_intros <;> first | assumption | omega
   ·simp only [pathC_d0, F51, F52, F41, hq, tl]
  ·have ob := ok_not b
   have hq : cmpT (d 1).ints (d 3).ints = 1 := by unfold cmpT; simp only [oa, ob, if_pos, if_neg, Bool.false_eq_true, ↓reduceIte]
   refine ⟨tellA pathC_t1, _, _, _, tellA_ok (allTold'_iff.1 ?_), pathC_y1, dutiesTold_ok ?_⟩
   ·simp only [pathC_t1, F45, F50, F55, F40, F42, F53, F56, one_iff, show Int.toNat 0 = 0 from rfl, List.drop_zero, ints_take, tl]
    and_intros <;> first | assumption | omega
   ·simp only [pathC_d1, F51, F52, F41, hq, tl]
 ·have oa := ok_not a
  by_cases b : (checkF (d 3).ints).1 = 0
  ·have ob := ok_dec b
   have nb := ok_ne ob
   have hq : cmpT (d 1).ints (d 3).ints = -1 := by unfold cmpT; simp only [oa, ob, if_pos, if_neg, Bool.false_eq_true, ↓reduceIte]
   refine ⟨tellA pathC_t2, _, _, _, tellA_ok (allTold'_iff.1 ?_), pathC_y2, dutiesTold_ok ?_⟩
   ·simp only [pathC_t2, F45, F50, F55, F40, F42, F53, F56, one_iff, show Int.toNat 0 = 0 from rfl, List.drop_zero, ints_take, tl]
    and_intros <;> first | assumption | omega
   ·simp only [pathC_d2, F51, F52, F41, hq, tl]
  ·have ob := ok_not b
   have hq : cmpT (d 1).ints (d 3).ints = cmpB (d 1).ints (d 3).ints := by unfold cmpT; simp only [oa, ob, if_pos, if_neg, Bool.false_eq_true, ↓reduceIte]
   refine ⟨tellA pathC_t3, _, _, _, tellA_ok (allTold'_iff.1 ?_), pathC_y3, dutiesTold_ok ?_⟩
   ·simp only [pathC_t3, F45, F50, F55, F40, F42, F53, F56, one_iff, show Int.toNat 0 = 0 from rfl, List.drop_zero, ints_take, tl]
    and_intros <;> first | assumption | omega
   ·simp only [pathC_d3, F51, F52, F41, hq, tl]

def undY : CSpec := { args := [.sstr (.var 0) (.var 1), .sstr (.var 2) (.var 3)], next := 0, rows := [], pre := [(.le (.var 0) (.int 100000000000000), true), (.le (.var 2) (.int 100000000000000), true), (.eq (.fn 53 txPe0) (.int 1), true)], res := .bool true, frows := [], same := [] }
abbrev asPe9 : Q × Bool := ((.le (.bi .add (.var 2) (.int 1)) (.int 9223372036854775807)), true)
abbrev asPe10 : Q × Bool := ((.fit .i64 (.var 0)), true)
abbrev asPe11 : Q × Bool := ((.fit .i64 (.bi .add (.var 2) (.int 1))), true)
abbrev asPe12 : Q × Bool := ((.le (.bi .add (.var 2) (.int 1)) (.var 0)), true)
abbrev asPe13 : Q × Bool := ((.le (.int 0) (.bi .add (.var 2) (.int 1))), true)
abbrev asPe14 : Q × Bool := ((.same (.tr .cut (.var 1) (.int 0) (.bi .add (.var 2) (.int 1))) (.bi .app (.var 3) (.lits [47]))), true)
def undY_t0 : List (Q × Bool) := [asPe0, asPe1, asPe2, asPe3, asPe9, asPe10, asPe11, asPe12, asPe13, asPe14]
def undY_d0 : List Duty := []
theorem undY_y0 : endC undY [] 1000 (callC Try.prog (tellA undY_t0) [] [(11, checkC)] [] 3000 40 20 undY) = some undY_d0 := by kernel_rfl
theorem undY_holds : CHolds Try.prog 20 undY F := by
 refine cholds_of sound (tableNil _ _) (specsCons checkC_holds (specsNil _ _)) (oversNil _ _) (fuel := 3000) (depth := 40) (by kernel_rfl) fun d hp hR hA => ?_
 have hp := allTold'_iff.2 hp
 simp only [undY, tl] at hp hR hA
 simp only [F53, D.toInt_int, one_iff] at hp
 obtain ⟨q0, q2, hu⟩ := hp
 obtain ⟨oa, ob, m, hm⟩ := und_iff.1 hu
 have a := ok_zero oa
 have b := ok_zero ob
 have hl : (d 1).ints.length = (d 3).ints.length + (m.length + 1) := by rw [hm, List.length_append, List.length_cons]
 have ht := pre_take (n := (d 2).toInt) hm (by omega)
 refine ⟨tellA undY_t0, _, _, _, tellA_ok (allTold'_iff.1 ?_), undY_y0, dutiesTold_ok ?_⟩
 ·simp only [undY_t0, F45, F50, F55, F40, F42, F53, F56, one_iff, show Int.toNat 0 = 0 from rfl, List.drop_zero, ints_take, tl]
  and_intros <;> first | assumption | omega
 ·simp only [undY_d0, tl]

def undN : CSpec := { args := [.sstr (.var 0) (.var 1), .sstr (.var 2) (.var 3)], next := 0, rows := [], pre := [(.le (.var 0) (.int 100000000000000), true), (.le (.var 2) (.int 100000000000000), true), (.eq (.fn 53 txPe0) (.int 1), false)], res := .bool false, frows := [], same := [] }
def undN_t0 : List (Q × Bool) := [asPe0, asPe8]
def undN_d0 : List Duty := []
theorem undN_y0 : endC undN [] 1000 (callC Try.prog (tellA undN_t0) [] [(11, checkC)] [] 3000 40 20 undN) = some undN_d0 := by kernel_rfl
def undN_t1 : List (Q × Bool) := [asPe0, asPe1, asPe2, asPe7]
def undN_d1 : List Duty := []
theorem undN_y1 : endC undN [] 1000 (callC Try.prog (tellA undN_t1) [] [(11, checkC)] [] 3000 40 20 undN) = some undN_d1 := by kernel_rfl
abbrev asPe15 : Q × Bool := ((.le (.bi .add (.var 2) (.int 1)) (.var 0)), false)
def undN_t2 : List (Q × Bool) := [asPe0, asPe1, asPe2, asPe3, asPe9, asPe10, asPe11, asPe15]
def undN_d2 : List Duty := []
theorem undN_y2 : endC undN [] 1000 (callC Try.prog (tellA undN_t2) [] [(11, checkC)] [] 3000 40 20 undN) = some undN_d2 := by kernel_rfl
abbrev asPe16 : Q × Bool := ((.same (.tr .cut (.var 1) (.int 0) (.bi .add (.var 2) (.int 1))) (.bi .app (.var 3) (.lits [47]))), false)
def undN_t3 : List (Q × Bool) := [asPe0, asPe1, asPe2, asPe3, asPe9, asPe10, asPe11, asPe12, asPe13, asPe16]
def undN_d3 : List Duty := []
theorem undN_y3 : endC undN [] 1000 (callC Try.prog (tellA undN_t3) [] [(11, checkC)] [] 3000 40 20 undN) = some undN_d3 := by kernel_rfl
theorem undN_holds : CHolds Try.prog 20 undN F := by
 refine cholds_of sound (tableNil _ _) (specsCons checkC_holds (specsNil _ _)) (oversNil _ _) (fuel := 3000) (depth := 40) (by kernel_rfl) fun d hp hR hA => ?_
 have hp := allTold'_iff.2 hp
 simp only [undN, tl] at hp hR hA
 simp only [F53, D.toInt_int, one_iff] at hp
 obtain ⟨q0, q2, hu⟩ := hp
 have hu := fun h => hu (one_iff.2 h)
 by_cases a : (checkF (d 1).ints).1 = 0
 ·by_cases b : (checkF (d 3).ints).1 = 0
  ·by_cases c : (d 2).toInt + 1 ≤ (d 0).toInt
   ·have ht : (d 1).ints.take ((d 2).toInt + 1).toNat ≠ (d 3).ints ++ [47] := fun h => hu (und_iff.2 ⟨ok_dec a, ok_dec b, take_pre h⟩)
    refine ⟨tellA undN_t3, _, _, _, tellA_ok (allTold'_iff.1 ?_), undN_y3, dutiesTold_ok ?_⟩
    ·simp only [undN_t3, F45, F50, F55, F40, F42, F53, F56, one_iff, show Int.toNat 0 = 0 from rfl, List.drop_zero, ints_take, tl]
     and_intros <;> first | assumption | omega
    ·simp only [undN_d3, tl]
   ·refine ⟨tellA undN_t2, _, _, _, tellA_ok (allTold'_iff.1 ?_), undN_y2, dutiesTold_ok ?_⟩
    ·simp only [undN_t2, F45, F50, F55, F40, F42, F53, F56, one_iff, show Int.toNat 0 = 0 from rfl, List.drop_zero, ints_take, tl]
     and_intros <;> first | assumption | omega
    ·simp only [undN_d2, tl]
  ·refine ⟨tellA undN_t1, _, _, _, tellA_ok (allTold'_iff.1 ?_), undN_y1, dutiesTold_ok ?_⟩
   ·simp only [undN_t1, F45, F50, F55, F40, F42, F53, F56, one_iff, show Int.toNat 0 = 0 from rfl, List.drop_zero, ints_take, tl]
    and_intros <;> first | assumption | omega
   ·simp only [undN_d1, tl]
 ·refine ⟨tellA undN_t0, _, _, _, tellA_ok (allTold'_iff.1 ?_), undN_y0, dutiesTold_ok ?_⟩
  ·simp only [undN_t0, F45, F50, F55, F40, F42, F53, F56, one_iff, show Int.toNat 0 = 0 from rfl, List.drop_zero, ints_take, tl]
   and_intros <;> first | assumption | omega
  ·simp only [undN_d0, tl]

def parY : CSpec := { args := [.sstr (.var 0) (.var 1)], next := 0, rows := [], pre := [(.le (.var 0) (.int 100000000000000), true), (.eq (.fn 56 (.bi .pair (.var 1) (.int 0))) (.int 1), true)], res := .tuple [.sstr (.fn 42 (argsE [.var 1])) (.tr .cut (.var 1) (.int 0) (.fn 42 (argsE [.var 1]))), .bool true], frows := [], same := [] }
abbrev asPe17 : Q × Bool := ((.le (.int 0) (.fn 42 (.bi .pair (.var 1) (.int 0)))), true)
abbrev asPe18 : Q × Bool := ((.le (.fn 42 (.bi .pair (.var 1) (.int 0))) (.var 0)), true)
def parY_t0 : List (Q × Bool) := [asPe0, asPe17, asPe1, asPe18]
def parY_d0 : List Duty := []
theorem parY_y0 : endC parY [] 1000 (callC Try.prog (tellA parY_t0) [] [(43, lastC), (11, checkC)] [] 3000 40 8 parY) = some parY_d0 := by kernel_rfl
theorem parY_holds : CHolds Try.prog 8 parY F := by
 refine cholds_of sound (tableNil _ _) (specsCons lastC_holds (specsCons checkC_holds (specsNil _ _))) (oversNil _ _) (fuel := 3000) (depth := 40) (by kernel_rfl) fun d hp hR hA => ?_
 have hp := allTold'_iff.2 hp
 simp only [parY, tl] at hp hR hA
 simp only [F56, D.toInt_int, one_iff] at hp
 obtain ⟨q0, hu⟩ := hp
 unfold hasP at hu
 rw [Bool.and_eq_true] at hu
 obtain ⟨oa, hl⟩ := hu
 have hl := of_decide_eq_true hl
 have a := ok_zero oa
 have hb := last_in (d 1).ints
 refine ⟨tellA parY_t0, _, _, _, tellA_ok (allTold'_iff.1 ?_), parY_y0, dutiesTold_ok ?_⟩
 ·simp only [parY_t0, F45, F50, F55, F40, F42, F53, F56, one_iff, show Int.toNat 0 = 0 from rfl, List.drop_zero, ints_take, tl]
  and_intros <;> first | assumption | omega
 ·simp only [parY_d0, F42, tl]

def parN : CSpec := { args := [.sstr (.var 0) (.var 1)], next := 0, rows := [], pre := [(.le (.var 0) (.int 100000000000000), true), (.eq (.fn 56 (.bi .pair (.var 1) (.int 0))) (.int 1), false)], res := .tuple [.str ⟨#[]⟩, .bool false], frows := [], same := [] }
abbrev asPe19 : Q × Bool := ((.le (.int 0) (.fn 42 (.bi .pair (.var 1) (.int 0)))), false)
def parN_t0 : List (Q × Bool) := [asPe0, asPe19]
def parN_d0 : List Duty := []
theorem parN_y0 : endC parN [] 1000 (callC Try.prog (tellA parN_t0) [] [(43, lastC), (11, checkC)] [] 3000 40 8 parN) = some parN_d0 := by kernel_rfl
def parN_t1 : List (Q × Bool) := [asPe0, asPe17, asPe8]
def parN_d1 : List Duty := []
theorem parN_y1 : endC parN [] 1000 (callC Try.prog (tellA parN_t1) [] [(43, lastC), (11, checkC)] [] 3000 40 8 parN) = some parN_d1 := by kernel_rfl
theorem parN_holds : CHolds Try.prog 8 parN F := by
 refine cholds_of sound (tableNil _ _) (specsCons lastC_holds (specsCons checkC_holds (specsNil _ _))) (oversNil _ _) (fuel := 3000) (depth := 40) (by kernel_rfl) fun d hp hR hA => ?_
 have hp := allTold'_iff.2 hp
 simp only [parN, tl] at hp hR hA
 simp only [F56, D.toInt_int, one_iff] at hp
 obtain ⟨q0, hu⟩ := hp
 have hu := fun h => hu (one_iff.2 h)
 unfold hasP at hu
 rw [Bool.and_eq_true] at hu
 by_cases hl : 0 ≤ lastI (d 1).ints
 ·have a : ¬ (checkF (d 1).ints).1 = 0 := fun h => hu ⟨ok_dec h, decide_eq_true hl⟩
  refine ⟨tellA parN_t1, _, _, _, tellA_ok (allTold'_iff.1 ?_), parN_y1, dutiesTold_ok ?_⟩
  ·simp only [parN_t1, F45, F50, F55, F40, F42, F53, F56, one_iff, show Int.toNat 0 = 0 from rfl, List.drop_zero, ints_take, tl]
   and_intros <;> first | assumption | omega
  ·simp only [parN_d1, tl]
 ·refine ⟨tellA parN_t0, _, _, _, tellA_ok (allTold'_iff.1 ?_), parN_y0, dutiesTold_ok ?_⟩
  ·simp only [parN_t0, F45, F50, F55, F40, F42, F53, F56, one_iff, show Int.toNat 0 = 0 from rfl, List.drop_zero, ints_take, tl]
   and_intros <;> first | assumption | omega
  ·simp only [parN_d0, tl]

end Go.Proofs.Ytkejfocfmndogaa.Pe
