/-
 Contracts of this seat: what loops and calls leave, for all inputs. No condition.
-/
import Derived.Test.YtlfehhmkpppajaaSycp
import Derived.Test.YtlfehhmkpppajaaSyfm
import Derived.Test.YtlfehhmkpppajaaCo
import Derived.Test.YtlfehhmkpppajaaZa
set_option linter.unusedSimpArgs false
set_option linter.unusedVariables false
namespace Go.Proofs.Ytlfehhmkpppajaa.Zb
open Go.RowKit Go.Ev Go.Proofs.Ytlfehhmkpppajaa.Co

open Go.Proofs.Ytlfehhmkpppajaa.Za

theorem ring0 (x : List Int) (o : Int) : ringN x o 0 = List.replicate 16 0 := rfl
theorem win0 (x : List Int) {o : Int} (ho : 0 ≤ o) : winI x o 0 = 0 := by
 unfold winI
 rw [if_pos (by omega), prt_nil (by omega) (by omega)]
 rfl
/-- All chunks within the next r bytes. -/
def allN (x : List Int) (o : Int) (r : Nat) (i n : Int) : List Int := if 0 < (cutsN x o r i n).2 then (cutsN x o r i n).1 ++ [(cutsN x o r i n).2] else (cutsN x o r i n).1
theorem allT_eq (x : List Int) (o t : Int) : allT x o t = allN x o t.toNat 0 0 := by
 unfold allT allN cutsT
 rw [Int.sub_zero]
theorem all_zero (x : List Int) (o i n : Int) : allN x o 0 i n = if 0 < n then [n] else [] := by
 simp only [allN, cutsN, List.nil_append]
 rfl
theorem all_yes {x : List Int} {o i n : Int} {r : Nat} (h : endB x o (i + 1) (n + 1) = true) : allN x o (r + 1) i n = (n + 1) :: allN x o r (i + 1) 0 := by
 unfold allN
 rw [cutsN, if_pos h]
 simp only
 split <;> rfl
theorem all_no {x : List Int} {o i n : Int} {r : Nat} (h : ¬ endB x o (i + 1) (n + 1) = true) : allN x o (r + 1) i n = allN x o r (i + 1) (n + 1) := by
 unfold allN
 rw [cutsN, if_neg h]
theorem all_head {x : List Int} {o : Int} : ∀ (r : Nat) (i n : Int) (h : Int) (t : List Int), 0 ≤ n → allN x o r i n = h :: t → n ≤ h ∧ 1 ≤ h ∧ h ≤ n + r ∧ t = allN x o (n + r - h).toNat (i + h - n) 0
 | 0, i, n, h, t, hn, e => by
  rw [all_zero] at e
  split at e
  ·simp only [List.cons.injEq] at e
   obtain ⟨rfl, rfl⟩ := e
   refine ⟨by omega, by omega, by omega, ?_⟩
   rw [show (n + ((0 : Nat) : Int) - n).toNat = 0 by omega, all_zero, if_neg (by omega)]
  ·cases e
 | r + 1, i, n, h, t, hn, e => by
  by_cases c : endB x o (i + 1) (n + 1) = true
  ·rw [all_yes c] at e
   simp only [List.cons.injEq] at e
   obtain ⟨rfl, rfl⟩ := e
   refine ⟨by omega, by omega, by omega, ?_⟩
   rw [show (n + ((r + 1 : Nat) : Int) - (n + 1)).toNat = r by omega, show i + (n + 1) - n = i + 1 by omega]
  ·rw [all_no c] at e
   obtain ⟨h1, h2, h3, h4⟩ := all_head r (i + 1) (n + 1) h t (by omega) e
   refine ⟨by omega, h2, by omega, ?_⟩
   rw [h4, show (n + 1 + (r : Int) - h).toNat = (n + ((r + 1 : Nat) : Int) - h).toNat by omega, show i + 1 + h - (n + 1) = i + h - n by omega]
theorem end_shift {x : List Int} {o a j n : Int} (ha : 0 ≤ a) (hn : n ≤ j) : endB x o (a + j) n = endB x (o + a) j n := by
 by_cases g : 64 ≤ n
 ·have : winI x o (a + j) = winI x (o + a) j := by
   unfold winI
   rw [if_neg (by omega), if_neg (by omega), show o + (a + j) - 16 = o + a + j - 16 by omega, show o + (a + j) = o + a + j by omega]
  unfold endB
  rw [this]
 ·unfold endB
  rw [decide_eq_decide]
  omega
theorem all_shift {x : List Int} {o a : Int} (ha : 0 ≤ a) : ∀ (r : Nat) (j n : Int), 0 ≤ j → n ≤ j → allN x o r (a + j) n = allN x (o + a) r j n
 | 0, j, n, _, h => by rw [all_zero, all_zero]
 | r + 1, j, n, hj, h => by
  have e := end_shift (x := x) (o := o) (a := a) (j := j + 1) (n := n + 1) ha (by omega)
  rw [← Int.add_assoc] at e
  by_cases c : endB x (o + a) (j + 1) (n + 1) = true
  ·rw [all_yes c, all_yes (e.trans c), ← all_shift ha r (j + 1) 0 (by omega) (by omega), Int.add_assoc]
  ·rw [all_no c, all_no (by rw [e]; exact c), ← all_shift ha r (j + 1) (n + 1) (by omega) (by omega), Int.add_assoc]
theorem cutsN_len (x : List Int) (o : Int) : ∀ (r : Nat) (i n : Int), (cutsN x o r i n).1.length ≤ r
 | 0, i, n => by simp [cutsN]
 | r + 1, i, n => by
  simp only [cutsN]
  split
  ·have := cutsN_len x o r (i + 1) 0
   simp only [List.length_cons]; omega
  ·have := cutsN_len x o r (i + 1) (n + 1)
   omega
theorem cuts_len {x : List Int} {o t i n : Int} (h : i ≤ t) : ((cutsT x o t i n).1.length : Int) ≤ t - i := by
 have := cutsN_len x o (t - i).toNat i n
 unfold cutsT
 omega
theorem all_ne {x : List Int} {o : Int} : ∀ (r : Nat) (i n : Int), 0 ≤ n → 0 < n + r → 0 < (allN x o r i n).length
 | 0, i, n, h, g => by rw [all_zero, if_pos (by omega)]; simp
 | r + 1, i, n, h, g => by
  by_cases c : endB x o (i + 1) (n + 1) = true
  ·rw [all_yes c]; simp
  ·rw [all_no c]; exact all_ne r (i + 1) (n + 1) (by omega) (by omega)
theorem all_pos {x : List Int} {o t : Int} (h : 1 ≤ t) : 0 < (allT x o t).length := by
 rw [allT_eq]
 exact all_ne _ _ _ (by omega) (by omega)

abbrev txZb0 : E := (.bi .pair (.var 3) (.bi .pair (.var 4) (.int 0)))
abbrev txZb1 : E := (.bi .pair (.int 0) (.bi .pair (.int 0) (.int 0)))
abbrev txZb2 : E := (.un .len (.fn 23 (.bi .pair (.var 2) txZb0)))
abbrev txZb3 : E := (.bi .pair (.var 3) (.bi .pair (.var 4) txZb1))
abbrev txZb4 : E := (.un .len (.fn 20 (.bi .pair (.var 2) txZb3)))
def cutY : CSpec := { args := [.sslice 3 (.var 3) (.var 4) (.var 5) false], next := 2, rows := [(3, .eseq ⟨.u8, .var 6, .var 2⟩)], pre := [(.le (.bi .add (.var 3) (.var 4)) (.var 6), true), (.le (.var 4) (.int 20000), true), (.le (.int 1) (.var 4), true)], res := .sslice 5 (.int 0) txZb2 txZb2 true, frows := [(5, .seq ⟨3, .i64, .un .len (.fn 23 (.bi .pair (.var 2) txZb0)), .fn 23 (.bi .pair (.var 2) txZb0), true, false⟩)], same := [3] }
abbrev asZb0 : Q × Bool := ((.fit .i64 (.var 4)), true)
abbrev asZb1 : Q × Bool := ((.le (.int 0) (.var 4)), true)
abbrev asZb2 : Q × Bool := ((.le (.int 0) (.var 3)), true)
abbrev asZb3 : Q × Bool := ((.le (.bi .add (.var 3) (.var 4)) (.var 6)), true)
abbrev asZb4 : Q × Bool := ((.le (.var 4) (.var 5)), true)
abbrev asZb5 : Q × Bool := ((.le (.var 4) (.int 20000)), true)
abbrev asZb6 : Q × Bool := ((.same (.lits [0, 0, 0, 0, 0, 0, 0, 0, 0, 0, 0, 0, 0, 0, 0, 0]) (.fn 9 (.bi .pair (.var 2) (.bi .pair (.var 3) (.bi .pair (.bi .add (.int 0) (.int 1)) (.int 0)))))), true)
abbrev asZb7 : Q × Bool := ((.eq (.int 0) (.fn 11 (.bi .pair (.var 2) (.bi .pair (.var 3) (.bi .pair (.bi .add (.int 0) (.int 1)) (.int 0)))))), true)
abbrev asZb8 : Q × Bool := ((.le (.int 1) (.fn 21 (.bi .pair (.var 2) txZb3))), true)
abbrev asZb9 : Q × Bool := ((.le (.int 1) txZb4), false)
abbrev asZb10 : Q × Bool := ((.fit .i64 (.fn 21 (.bi .pair (.var 2) txZb3))), true)
abbrev asZb11 : Q × Bool := ((.le (.fn 21 (.bi .pair (.var 2) txZb3)) (.int 0)), false)
def cutY_t0 : List (Q × Bool) := [asZb0, asZb1, asZb2, asZb3, asZb4, asZb5, asZb6, asZb7, asZb8, asZb9, asZb10, asZb11]
def cutY_d0 : List Duty := [(true, (.int 1), txZb2), (true, (.int 1), txZb2), (true, (.int 1), txZb2), (false, (.bi .app (.un .one (.fn 21 (.bi .pair (.var 2) txZb3))) (.lits [])), (.fn 23 (.bi .pair (.var 2) txZb0)))]
theorem cutY_y0 : endC cutY [(5, 43), (3, 3)] 1000 (callC Try.prog (tellA cutY_t0) [⟨34, [4, 1], eA00⟩, ⟨34, [4, 1], eB00⟩, ⟨34, [4, 1], eC00⟩] [] [] 3000 40 19 cutY) = some cutY_d0 := by kernel_rfl
abbrev asZb12 : Q × Bool := ((.le (.int 1) (.fn 21 (.bi .pair (.var 2) txZb3))), false)
abbrev asZb13 : Q × Bool := ((.le (.int 1) txZb4), true)
def cutY_t1 : List (Q × Bool) := [asZb0, asZb1, asZb2, asZb3, asZb4, asZb5, asZb6, asZb7, asZb12, asZb13]
def cutY_d1 : List Duty := [(true, txZb4, txZb2), (true, txZb4, txZb2), (true, txZb4, txZb2), (false, (.fn 20 (.bi .pair (.var 2) txZb3)), (.fn 23 (.bi .pair (.var 2) txZb0)))]
theorem cutY_y1 : endC cutY [(5, 27), (3, 3)] 1000 (callC Try.prog (tellA cutY_t1) [⟨34, [4, 1], eA00⟩, ⟨34, [4, 1], eB00⟩, ⟨34, [4, 1], eC00⟩] [] [] 3000 40 19 cutY) = some cutY_d1 := by kernel_rfl
abbrev asZb14 : Q × Bool := ((.le (.bi .mul (.bi .add txZb4 (.int 1)) (.int 16)) (.int 281474976710656)), true)
def cutY_t2 : List (Q × Bool) := [asZb0, asZb1, asZb2, asZb3, asZb4, asZb5, asZb6, asZb7, asZb8, asZb13, asZb10, asZb11, asZb14]
def cutY_d2 : List Duty := [(true, (.bi .add txZb4 (.int 1)), txZb2), (true, (.bi .add txZb4 (.int 1)), txZb2), (true, (.bi .add txZb4 (.int 1)), txZb2), (false, (.bi .app (.fn 20 (.bi .pair (.var 2) txZb3)) (.bi .app (.un .one (.fn 21 (.bi .pair (.var 2) txZb3))) (.lits []))), (.fn 23 (.bi .pair (.var 2) txZb0)))]
theorem cutY_y2 : endC cutY [(5, 45), (3, 3)] 1000 (callC Try.prog (tellA cutY_t2) [⟨34, [4, 1], eA00⟩, ⟨34, [4, 1], eB00⟩, ⟨34, [4, 1], eC00⟩] [] [] 3000 40 19 cutY) = some cutY_d2 := by kernel_rfl
theorem cutY_holds : CHolds Try.prog 19 cutY F := by
 refine cholds_of sound (tableCons eA00_holds (tableCons eB00_holds (tableCons eC00_holds (tableNil _ _)))) (specsNil _ _) (oversNil _ _) (fuel := 3000) (depth := 40) (by kernel_rfl) fun d hp hR hA => ?_
 have hp := allTold'_iff.2 hp
 simp only [cutY, allTold', dutiesTold, factsA, factsC, factsP, factsR, AV.facts, RW.facts, inK, and_true, Q.holds', E.i, E.s, E.n, D.nat, E.den, BO.den, UO.den, TO.den, D.toInt_int, D.toList_list, D.ints_ofInts, i64min, i64max, u8min, u8max, u16min, u16max, u32min, u32max, u64min, u64max, i32min, i32max, Om.sub, selI, ints_app, ints_cut, ints_upd, ints_rep, ints_splice, ints_seg, len_ints] at hp hR hA
 have h1 := cuts_in (x := (d 2).ints) (o := (d 3).toInt) (t := (d 4).toInt) (i := 0) (n := 0) (by omega) (by omega)
 have h2 := cuts_len (x := (d 2).ints) (o := (d 3).toInt) (t := (d 4).toInt) (i := 0) (n := 0) (by omega)
 have e1 : Int.toNat (0 + 1 - 1) = 0 := rfl
 have e2 : (((0 + 1 - 1 : Int).toNat : Nat) : Int) = 0 := rfl
 have hr := ring0 (d 2).ints (d 3).toInt
 have hw := win0 (d 2).ints (o := (d 3).toInt) (by omega)
 by_cases f : 0 < (cutsT (d 2).ints (d 3).toInt (d 4).toInt 0 0).2
 ·by_cases z : 0 < (cutsT (d 2).ints (d 3).toInt (d 4).toInt 0 0).1.length
  ·have ha : allT (d 2).ints (d 3).toInt (d 4).toInt = (cutsT (d 2).ints (d 3).toInt (d 4).toInt 0 0).1 ++ [(cutsT (d 2).ints (d 3).toInt (d 4).toInt 0 0).2] := if_pos f
   refine ⟨tellA cutY_t2, _, _, _, tellA_ok (allTold'_iff.1 ?_), cutY_y2, dutiesTold_ok ?_⟩
   ·simp only [cutY_t2, F9, F11, F20, F21, e1, e2, Int.natCast_zero, hr, hw, allTold', dutiesTold, factsA, factsC, factsP, factsR, AV.facts, RW.facts, inK, and_true, Q.holds', E.i, E.s, E.n, D.nat, E.den, BO.den, UO.den, TO.den, D.toInt_int, D.toList_list, D.ints_ofInts, i64min, i64max, u8min, u8max, u16min, u16max, u32min, u32max, u64min, u64max, i32min, i32max, Om.sub, selI, ints_app, ints_cut, ints_upd, ints_rep, ints_splice, ints_seg, len_ints]
    (try simp only [ints_list, List.map_append, List.map_cons, List.map_nil, map_ints, D.ints_ofInts, D.toInt_int, ofInts0, List.length_append, List.length_cons, List.length_nil, List.nil_append, List.append_nil]); first | done | (and_intros <;> first | exact True.intro | omega | assumption | rfl)
   ·simp only [cutY_d2, F20, F21, F23, ha, allTold', dutiesTold, factsA, factsC, factsP, factsR, AV.facts, RW.facts, inK, and_true, Q.holds', E.i, E.s, E.n, D.nat, E.den, BO.den, UO.den, TO.den, D.toInt_int, D.toList_list, D.ints_ofInts, i64min, i64max, u8min, u8max, u16min, u16max, u32min, u32max, u64min, u64max, i32min, i32max, Om.sub, selI, ints_app, ints_cut, ints_upd, ints_rep, ints_splice, ints_seg, len_ints]
    (try simp only [ints_list, List.map_append, List.map_cons, List.map_nil, map_ints, D.ints_ofInts, D.toInt_int, ofInts0, List.length_append, List.length_cons, List.length_nil, List.nil_append, List.append_nil]); first | done | (and_intros <;> first | exact True.intro | omega | assumption | rfl)
  ·have ha : allT (d 2).ints (d 3).toInt (d 4).toInt = (cutsT (d 2).ints (d 3).toInt (d 4).toInt 0 0).1 ++ [(cutsT (d 2).ints (d 3).toInt (d 4).toInt 0 0).2] := if_pos f
   have z0 : (cutsT (d 2).ints (d 3).toInt (d 4).toInt 0 0).1 = [] := List.eq_nil_of_length_eq_zero (by omega)
   refine ⟨tellA cutY_t0, _, _, _, tellA_ok (allTold'_iff.1 ?_), cutY_y0, dutiesTold_ok ?_⟩
   ·simp only [cutY_t0, F9, F11, F20, F21, e1, e2, Int.natCast_zero, hr, hw, allTold', dutiesTold, factsA, factsC, factsP, factsR, AV.facts, RW.facts, inK, and_true, Q.holds', E.i, E.s, E.n, D.nat, E.den, BO.den, UO.den, TO.den, D.toInt_int, D.toList_list, D.ints_ofInts, i64min, i64max, u8min, u8max, u16min, u16max, u32min, u32max, u64min, u64max, i32min, i32max, Om.sub, selI, ints_app, ints_cut, ints_upd, ints_rep, ints_splice, ints_seg, len_ints]
    (try simp only [ints_list, List.map_append, List.map_cons, List.map_nil, map_ints, D.ints_ofInts, D.toInt_int, ofInts0, List.length_append, List.length_cons, List.length_nil, List.nil_append, List.append_nil]); first | done | (and_intros <;> first | exact True.intro | omega | assumption | rfl)
   ·simp only [cutY_d0, F20, F21, F23, ha, z0, allTold', dutiesTold, factsA, factsC, factsP, factsR, AV.facts, RW.facts, inK, and_true, Q.holds', E.i, E.s, E.n, D.nat, E.den, BO.den, UO.den, TO.den, D.toInt_int, D.toList_list, D.ints_ofInts, i64min, i64max, u8min, u8max, u16min, u16max, u32min, u32max, u64min, u64max, i32min, i32max, Om.sub, selI, ints_app, ints_cut, ints_upd, ints_rep, ints_splice, ints_seg, len_ints]
    (try simp only [ints_list, List.map_append, List.map_cons, List.map_nil, map_ints, D.ints_ofInts, D.toInt_int, ofInts0, List.length_append, List.length_cons, List.length_nil, List.nil_append, List.append_nil]); first | done | (and_intros <;> first | exact True.intro | omega | assumption | rfl)
 ·have ha : allT (d 2).ints (d 3).toInt (d 4).toInt = (cutsT (d 2).ints (d 3).toInt (d 4).toInt 0 0).1 := if_neg f
  have hz : 0 < (cutsT (d 2).ints (d 3).toInt (d 4).toInt 0 0).1.length := by
   have := all_pos (x := (d 2).ints) (o := (d 3).toInt) (t := (d 4).toInt) (by omega)
   rw [ha] at this
   exact this
  refine ⟨tellA cutY_t1, _, _, _, tellA_ok (allTold'_iff.1 ?_), cutY_y1, dutiesTold_ok ?_⟩
  ·simp only [cutY_t1, F9, F11, F20, F21, e1, e2, Int.natCast_zero, hr, hw, allTold', dutiesTold, factsA, factsC, factsP, factsR, AV.facts, RW.facts, inK, and_true, Q.holds', E.i, E.s, E.n, D.nat, E.den, BO.den, UO.den, TO.den, D.toInt_int, D.toList_list, D.ints_ofInts, i64min, i64max, u8min, u8max, u16min, u16max, u32min, u32max, u64min, u64max, i32min, i32max, Om.sub, selI, ints_app, ints_cut, ints_upd, ints_rep, ints_splice, ints_seg, len_ints]
   (try simp only [ints_list, List.map_append, List.map_cons, List.map_nil, map_ints, D.ints_ofInts, D.toInt_int, ofInts0, List.length_append, List.length_cons, List.length_nil, List.nil_append, List.append_nil]); first | done | (and_intros <;> first | exact True.intro | omega | assumption | rfl)
  ·simp only [cutY_d1, F20, F21, F23, ha, allTold', dutiesTold, factsA, factsC, factsP, factsR, AV.facts, RW.facts, inK, and_true, Q.holds', E.i, E.s, E.n, D.nat, E.den, BO.den, UO.den, TO.den, D.toInt_int, D.toList_list, D.ints_ofInts, i64min, i64max, u8min, u8max, u16min, u16max, u32min, u32max, u64min, u64max, i32min, i32max, Om.sub, selI, ints_app, ints_cut, ints_upd, ints_rep, ints_splice, ints_seg, len_ints]
   (try simp only [ints_list, List.map_append, List.map_cons, List.map_nil, map_ints, D.ints_ofInts, D.toInt_int, ofInts0, List.length_append, List.length_cons, List.length_nil, List.nil_append, List.append_nil]); first | done | (and_intros <;> first | exact True.intro | omega | assumption | rfl)

def cutN : CSpec := { args := [.sslice 3 (.var 3) (.var 4) (.var 5) false], next := 2, rows := [(3, .eseq ⟨.u8, .var 6, .var 2⟩)], pre := [(.le (.bi .add (.var 3) (.var 4)) (.var 6), true), (.le (.var 4) (.int 20000), true), (.le (.int 1) (.var 4), false)], res := .nilslice, frows := [], same := [3] }
abbrev asZb15 : Q × Bool := ((.le (.var 4) (.int 0)), true)
def cutN_t0 : List (Q × Bool) := [asZb0, asZb15]
def cutN_d0 : List Duty := []
theorem cutN_y0 : endC cutN [(3, 3)] 1000 (callC Try.prog (tellA cutN_t0) [] [] [] 3000 40 19 cutN) = some cutN_d0 := by kernel_rfl
theorem cutN_holds : CHolds Try.prog 19 cutN F := by
 refine cholds_of sound (tableNil _ _) (specsNil _ _) (oversNil _ _) (fuel := 3000) (depth := 40) (by kernel_rfl) fun d hp hR hA => ?_
 have hp := allTold'_iff.2 hp
 simp only [cutN, allTold', dutiesTold, factsA, factsC, factsP, factsR, AV.facts, RW.facts, inK, and_true, Q.holds', E.i, E.s, E.n, D.nat, E.den, BO.den, UO.den, TO.den, D.toInt_int, D.toList_list, D.ints_ofInts, i64min, i64max, u8min, u8max, u16min, u16max, u32min, u32max, u64min, u64max, i32min, i32max, Om.sub, selI, ints_app, ints_cut, ints_upd, ints_rep, ints_splice, ints_seg, len_ints] at hp hR hA
 refine ⟨tellA cutN_t0, _, _, _, tellA_ok (allTold'_iff.1 ?_), cutN_y0, dutiesTold_ok ?_⟩
 ·simp only [cutN_t0, allTold', dutiesTold, factsA, factsC, factsP, factsR, AV.facts, RW.facts, inK, and_true, Q.holds', E.i, E.s, E.n, D.nat, E.den, BO.den, UO.den, TO.den, D.toInt_int, D.toList_list, D.ints_ofInts, i64min, i64max, u8min, u8max, u16min, u16max, u32min, u32max, u64min, u64max, i32min, i32max, Om.sub, selI, ints_app, ints_cut, ints_upd, ints_rep, ints_splice, ints_seg, len_ints]
  omega
 ·simp only [cutN_d0, allTold', dutiesTold, factsA, factsC, factsP, factsR, AV.facts, RW.facts, inK, and_true, Q.holds', E.i, E.s, E.n, D.nat, E.den, BO.den, UO.den, TO.den, D.toInt_int, D.toList_list, D.ints_ofInts, i64min, i64max, u8min, u8max, u16min, u16max, u32min, u32max, u64min, u64max, i32min, i32max, Om.sub, selI, ints_app, ints_cut, ints_upd, ints_rep, ints_splice, ints_seg, len_ints]

end Go.Proofs.Ytlfehhmkpppajaa.Zb
