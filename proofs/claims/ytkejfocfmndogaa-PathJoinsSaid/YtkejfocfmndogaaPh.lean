/-
 Contracts of this seat: what loops and calls leave, for all inputs. No condition.
-/
import Derived.Test.YtkejfocfmndogaaSycp
import Derived.Test.YtkejfocfmndogaaSyfm
import Derived.Test.YtkejfocfmndogaaCo
import Derived.Test.YtkejfocfmndogaaShelf
import Derived.Test.YtkejfocfmndogaaPa
import Derived.Test.YtkejfocfmndogaaPb
set_option linter.unusedSimpArgs false
set_option linter.unusedVariables false
namespace Go.Proofs.Ytkejfocfmndogaa.Ph
open Go.RowKit Go.Ev Go.Proofs.Ytkejfocfmndogaa.Co

open Go.Proofs.Ytkejfocfmndogaa.Pa
open Go.Proofs.Ytkejfocfmndogaa.Pb
theorem splitR_ne (l : List D) : splitR l ≠ [] := by
 cases l with
 | nil => simp [splitR]
 | cons c l =>
  rw [splitR]
  split
  ·simp
  ·split <;> simp
theorem cut_last {l : List D} (h : l ≠ []) : ∃ l' a, l = l' ++ [a] := ⟨l.dropLast, l.getLast h, (List.dropLast_concat_getLast h).symm⟩
theorem lastD_at (l : List D) (a : D) : lastD (l ++ [a]) = a := by simp [lastD]
theorem glue_end {l : List D} (h : l ≠ []) : glueD l (splitR []) = l := by
 obtain ⟨l, a, rfl⟩ := cut_last h
 simp only [splitR, glueD, List.isEmpty_nil, ↓reduceIte, List.map_nil, List.dropLast_concat, lastD_at]
theorem glue_stroke {l r : List D} {c : D} (h : l ≠ []) (hc : c.toInt = 47) : glueD l (splitR (c :: r)) = glueD (l ++ [.list []]) (splitR r) := by
 obtain ⟨l, a, rfl⟩ := cut_last h
 rw [splitR, if_pos hc]
 cases hr : splitR r with
 | nil => exact absurd hr (splitR_ne r)
 | cons p m =>
  have e : glueD ((l ++ [a]) ++ [D.list []]) (p :: m) = (l ++ [a]) ++ D.list p :: m.map D.list := by
   simp only [glueD, List.dropLast_concat, lastD_at]
   cases p with
   | nil => rfl
   | cons b p => rfl
  rw [e]
  simp only [glueD, List.isEmpty_nil, ↓reduceIte, List.dropLast_concat, lastD_at, List.map_cons, List.append_assoc, List.singleton_append]
theorem glue_byte {l r : List D} {c : D} {n : Nat} (h : l.length = n + 1) (hc : ¬ c.toInt = 47) : glueD l (splitR (c :: r)) = glueD (l.set n (.list ((l[n]?.getD (.int 0)).toList ++ [c]))) (splitR r) := by
 obtain ⟨l, a, rfl⟩ := cut_last (show l ≠ [] from fun e => by rw [e] at h; simp at h)
 rw [List.length_append, List.length_singleton] at h
 obtain rfl : n = l.length := by omega
 have e1 : (l ++ [a])[l.length]?.getD (.int 0) = a := by simp
 have e2 : ∀ x, (l ++ [a]).set l.length x = l ++ [x] := fun x => by simp
 rw [e1, e2, splitR, if_neg hc]
 cases hr : splitR r with
 | nil => exact absurd hr (splitR_ne r)
 | cons p m =>
  simp only [glueD, List.dropLast_concat, lastD_at, List.isEmpty_cons, Bool.false_eq_true, ↓reduceIte]
  cases p with
  | nil => simp
  | cons b p => simp [D.toList_list]
theorem glue_len {l : List D} (h : l ≠ []) (r : List D) : l.length ≤ (glueD l (splitR r)).length := by
 obtain ⟨l, a, rfl⟩ := cut_last h
 cases hr : splitR r with
 | nil => exact absurd hr (splitR_ne r)
 | cons p m => simp only [glueD, List.dropLast_concat, List.length_append, List.length_cons, List.length_nil]; omega
theorem byte_step {x s : List D} {i : Int} {n : Nat} (hi : 0 ≤ i) (hs : i < s.length) (hx : x.length = n + 1) (hc : (s.map D.toInt)[i.toNat]?.getD 0 ≠ 47) :
  glueD (x.set n (.list ((x[n]?.getD (.int 0)).toList ++ (s.take (i + 1).toNat).drop i.toNat))) (splitR (s.drop (i + 1).toNat)) = glueD x (splitR (s.drop i.toNat)) := by
 have hl : i.toNat < s.length := by omega
 rw [show (i + 1).toNat = i.toNat + 1 by omega]
 have e1 : (s.take (i.toNat + 1)).drop i.toNat = [s[i.toNat]] := by
  rw [List.take_succ_eq_append_getElem hl, List.drop_append, List.drop_of_length_le (by rw [List.length_take]; omega), List.length_take, show i.toNat - min i.toNat s.length = 0 by omega]
  rfl
 rw [List.getElem?_map, List.getElem?_eq_getElem hl] at hc
 rw [e1, List.drop_eq_getElem_cons hl, ← glue_byte hx hc]
theorem stroke_step {x s : List D} {i : Int} (hi : 0 ≤ i) (hs : i < s.length) (hx : x ≠ []) (hc : (s.map D.toInt)[i.toNat]?.getD 0 = 47) :
  glueD (x ++ [D.ofInts []]) (splitR (s.drop (i + 1).toNat)) = glueD x (splitR (s.drop i.toNat)) := by
 show glueD (x ++ [.list []]) _ = _
 have hl : i.toNat < s.length := by omega
 rw [List.getElem?_map, List.getElem?_eq_getElem hl] at hc
 rw [show (i + 1).toNat = i.toNat + 1 by omega, List.drop_eq_getElem_cons hl, ← glue_stroke hx hc]
theorem list_back {d : D} (h : d.toList ≠ []) : D.list d.toList = d := by
 cases d with
 | int n => exact absurd rfl h
 | list l => rfl
theorem set_len {x : List D} {n : Nat} {y z : List D} (h : n < x.length) : ((x.set n (.list (y ++ z)))[n]?.getD (.int 0)).ints.length = y.length + z.length := by
 rw [List.getElem?_set_self h, Option.getD_some]
 show ((y ++ z).map D.toInt).length = _
 rw [List.length_map, List.length_append]
theorem snoc_len {x : List D} {n : Nat} (h : n = x.length) : ((x ++ [D.ofInts []])[n]?.getD (.int 0)).ints.length = 0 := by
 rw [h]
 simp [D.ofInts, D.ints, D.toList]
theorem piece_len {s : List D} {i : Int} (h : 0 ≤ i) : ((s.take (i + 1).toNat).drop i.toNat).length ≤ 1 := by
 rw [List.length_drop, List.length_take]; omega
theorem idx_byte {x : List Int} {i : Int} (hi : 0 ≤ i) (hx : i < x.length) (hc : x[i.toNat]?.getD 0 ≠ 47) : (0 ≤ idxI (x.drop i.toNat)) ↔ (0 ≤ idxI (x.drop (i + 1).toNat)) := by
 have hl : i.toNat < x.length := by omega
 rw [List.getElem?_eq_getElem hl, Option.getD_some] at hc
 rw [List.drop_eq_getElem_cons hl, show (i + 1).toNat = i.toNat + 1 by omega, idxI, if_neg hc]
 have := idx_in (x.drop (i.toNat + 1))
 split <;> omega
theorem idx_stroke {x : List Int} {i : Int} (hi : 0 ≤ i) (hx : i < x.length) (hc : x[i.toNat]?.getD 0 = 47) : 0 ≤ idxI (x.drop i.toNat) := by
 have hl : i.toNat < x.length := by omega
 rw [List.getElem?_eq_getElem hl, Option.getD_some] at hc
 rw [List.drop_eq_getElem_cons hl, idxI, if_pos hc]
 exact Int.le_refl 0
abbrev txPh0 : E := (.bi .pair (.bi .add (.var 0) (.int 1)) (.int 0))
abbrev txPh1 : E := (.un .len (.fn 57 (.bi .pair (.var 1) (.int 0))))
abbrev txPh2 : E := (.bi .pair (.var 2) (.bi .pair (.var 0) (.int 0)))
abbrev txPh3 : E := (.bi .pair (.var 1) (.bi .pair (.int 0) (.int 0)))
abbrev txPh4 : E := (.bi .sel (.var 6) (.bi .add (.var 7) (.int (-1))))
abbrev txPh5 : E := (.tr .cut (.var 2) (.var 0) (.bi .add (.var 0) (.int 1)))
abbrev txPh6 : E := (.un .len (.fn 58 (.bi .pair (.var 6) txPh2)))
abbrev txPh7 : E := (.un .code (.fn 58 (.bi .pair (.var 6) txPh2)))
abbrev txPh8 : E := (.bi .pair (.bi .snoc (.lits []) (.lits [])) txPh3)
abbrev txPh9 : E := (.bi .app (.bi .sel (.var 6) (.int 0)) txPh5)
abbrev txPh10 : E := (.bi .pair (.bi .snoc (.var 6) (.lits [])) (.bi .pair (.var 2) txPh0))
abbrev txPh11 : E := (.tr .upd (.var 6) (.bi .add (.var 7) (.int (-1))) (.bi .app txPh4 txPh5))
abbrev txPh12 : E := (.bi .pair (.tr .upd (.var 6) (.int 0) txPh9) (.bi .pair (.var 2) txPh0))
abbrev txPh13 : E := (.bi .pair txPh11 (.bi .pair (.var 2) txPh0))
theorem glue_all (l : List D) : glueD [D.ofInts []] (splitR l) = (splitR l).map D.list := by
 cases h : splitR l with
 | nil => exact absurd h (splitR_ne l)
 | cons p m =>
  cases p with
  | nil => rfl
  | cons a p => rfl

def splC : LSpec := { n := 37, next := 1, pat := [(4, .sint .i64 (.var 0)), (0, .sstr (.var 5) (.var 2)), (3, .vslice 1 1 (.int 0) (.int 1) (.int 1) false)], rows := [(1, .vseq ⟨9, .str, .int 1, .var 6, false⟩)], pre := [(.le (.int 0) (.var 0), true), (.le (.var 0) (.var 5), true), (.le (.var 5) (.int 1000), true), (.le (.int 0) (.fn 40 (.bi .pair (.tr .cut (.var 2) (.var 0) (.var 5)) (.int 0))), true), (.le (.un .len (.bi .sel (.var 6) (.int 0))) (.var 0), true)], x := 0, fin := [(0, .sstr (.var 5) (.var 2)), (3, .vslice 3 1 (.int 0) txPh6 txPh6 true)], frows := [(3, .vseq ⟨9, .str, .un .len (.fn 58 (.bi .pair (.var 6) txPh2)), .fn 58 (.bi .pair (.var 6) txPh2), true⟩)], same := [], chg := [0, 3, 4, 6, 7, 8, 9, 10, 11, 12, 13, 14, 15, 16, 17, 18, 19, 20, 21, 22, 23, 24, 25, 26, 27, 28, 29, 30, 31, 32, 33, 34, 35] }
def splO : LSpec := { n := 37, next := 1, pat := [(4, .sint .i64 (.var 0)), (0, .sstr (.var 5) (.var 2)), (3, .vslice 1 1 (.int 0) (.var 7) (.var 7) true)], rows := [(1, .vseq ⟨9, .str, .var 7, .var 6, true⟩)], pre := [(.le (.int 0) (.var 0), true), (.le (.var 0) (.var 5), true), (.le (.var 5) (.int 1000), true), (.le (.int 1) (.var 7), true), (.le (.var 7) (.bi .add (.var 0) (.int 1)), true), (.le (.un .len txPh4) (.var 0), true)], x := 0, fin := [(0, .sstr (.var 5) (.var 2)), (3, .vslice 3 1 (.int 0) txPh6 txPh6 true)], frows := [(3, .vseq ⟨9, .str, .un .len (.fn 58 (.bi .pair (.var 6) txPh2)), .fn 58 (.bi .pair (.var 6) txPh2), true⟩)], same := [], chg := [0, 3, 4, 6, 7, 8, 9, 10, 11, 12, 13, 14, 15, 16, 17, 18, 19, 20, 21, 22, 23, 24, 25, 26, 27, 28, 29, 30, 31, 32, 33, 34, 35] }
def splM : Nat → LSpec
 | 0 => splC
 | _ => splO
abbrev asPh0 : Q × Bool := ((.fit .i64 (.var 5)), true)
abbrev asPh1 : Q × Bool := ((.le (.var 5) (.var 0)), false)
abbrev asPh2 : Q × Bool := ((.le (.int 0) (.var 0)), true)
abbrev asPh3 : Q × Bool := ((.eq (.bi .sel (.var 2) (.var 0)) (.int 47)), false)
abbrev asPh4 : Q × Bool := ((.fit .i64 (.bi .add (.var 0) (.int 1))), true)
abbrev asPh5 : Q × Bool := ((.le (.var 0) (.bi .add (.var 0) (.int 1))), true)
abbrev asPh6 : Q × Bool := ((.le (.bi .add (.var 0) (.int 1)) (.var 5)), true)
abbrev asPh7 : Q × Bool := ((.le (.bi .add (.un .len (.bi .sel (.var 6) (.int 0))) (.int 1)) (.int 9223372036854775807)), true)
def splC_t0 : List (Q × Bool) := [asPh0, asPh1, asPh2, asPh3, asPh4, asPh5, asPh6, asPh7]
def splC_d0 : List Duty := [(true, (.un .len (.fn 58 txPh12)), txPh6), (true, (.un .len (.fn 58 txPh12)), txPh6), (true, (.un .len (.fn 58 txPh12)), txPh6), (false, (.un .code (.fn 58 txPh12)), txPh7)]
def splC_h0 : List (Nat × E) := [(6, (.tr .upd (.var 6) (.int 0) txPh9)), (5, (.var 5)), (2, (.var 2)), (0, (.bi .add (.var 0) (.int 1)))]
theorem splC_h0_0 : lookE splC_h0 0 = (.bi .add (.var 0) (.int 1)) := rfl
theorem splC_h0_2 : lookE splC_h0 2 = (.var 2) := rfl
theorem splC_h0_5 : lookE splC_h0 5 = (.var 5) := rfl
theorem splC_h0_6 : lookE splC_h0 6 = (.tr .upd (.var 6) (.int 0) txPh9) := rfl
theorem splC_y0 : nextJ (splM 0) (splM 0) splC_h0 [(1, 1)] (roundC Try.prog [] [] [] 3000 40 32 [4, 1, 0, 1, 1] (tellA splC_t0) (splM 0)) = some splC_d0 := by kernel_rfl
abbrev asPh8 : Q × Bool := ((.eq (.bi .sel (.var 2) (.var 0)) (.int 47)), true)
def splC_t1 : List (Q × Bool) := [asPh0, asPh1, asPh2, asPh8, asPh4]
def splC_d1 : List Duty := [(true, (.un .len (.fn 58 txPh10)), txPh6), (true, (.un .len (.fn 58 txPh10)), txPh6), (true, (.un .len (.fn 58 txPh10)), txPh6), (false, (.un .code (.fn 58 txPh10)), txPh7)]
def splC_h1 : List (Nat × E) := [(6, (.bi .snoc (.var 6) (.lits []))), (7, (.int 2)), (5, (.var 5)), (2, (.var 2)), (0, (.bi .add (.var 0) (.int 1)))]
theorem splC_h1_0 : lookE splC_h1 0 = (.bi .add (.var 0) (.int 1)) := rfl
theorem splC_h1_2 : lookE splC_h1 2 = (.var 2) := rfl
theorem splC_h1_5 : lookE splC_h1 5 = (.var 5) := rfl
theorem splC_h1_6 : lookE splC_h1 6 = (.bi .snoc (.var 6) (.lits [])) := rfl
theorem splC_h1_7 : lookE splC_h1 7 = (.int 2) := rfl
theorem splC_y1 : nextJ (splM 0) (splM 1) splC_h1 [(1, 5)] (roundC Try.prog [] [] [] 3000 40 32 [4, 1, 0, 1, 1] (tellA splC_t1) (splM 0)) = some splC_d1 := by kernel_rfl
abbrev asPh9 : Q × Bool := ((.fit .i64 (.var 7)), true)
abbrev asPh10 : Q × Bool := ((.fit .i64 (.bi .add (.var 7) (.int (-1)))), true)
abbrev asPh11 : Q × Bool := ((.le (.int 0) (.bi .add (.var 7) (.int (-1)))), true)
abbrev asPh12 : Q × Bool := ((.le (.var 7) (.bi .add (.var 7) (.int (-1)))), false)
abbrev asPh13 : Q × Bool := ((.le (.bi .add (.un .len txPh4) (.int 1)) (.int 9223372036854775807)), true)
def splO_t0 : List (Q × Bool) := [asPh0, asPh1, asPh2, asPh3, asPh9, asPh10, asPh11, asPh12, asPh4, asPh5, asPh6, asPh13]
def splO_d0 : List Duty := [(true, (.un .len (.fn 58 txPh13)), txPh6), (true, (.un .len (.fn 58 txPh13)), txPh6), (true, (.un .len (.fn 58 txPh13)), txPh6), (false, (.un .code (.fn 58 txPh13)), txPh7)]
def splO_h0 : List (Nat × E) := [(6, txPh11), (7, (.var 7)), (5, (.var 5)), (2, (.var 2)), (0, (.bi .add (.var 0) (.int 1)))]
theorem splO_h0_0 : lookE splO_h0 0 = (.bi .add (.var 0) (.int 1)) := rfl
theorem splO_h0_2 : lookE splO_h0 2 = (.var 2) := rfl
theorem splO_h0_5 : lookE splO_h0 5 = (.var 5) := rfl
theorem splO_h0_6 : lookE splO_h0 6 = txPh11 := rfl
theorem splO_h0_7 : lookE splO_h0 7 = (.var 7) := rfl
theorem splO_y0 : nextJ (splM 1) (splM 1) splO_h0 [(1, 1)] (roundC Try.prog [] [] [] 3000 40 32 [4, 1, 0, 1, 1] (tellA splO_t0) (splM 1)) = some splO_d0 := by kernel_rfl
abbrev asPh14 : Q × Bool := ((.le (.bi .mul (.bi .add (.var 7) (.int 1)) (.int 32)) (.int 281474976710656)), true)
def splO_t1 : List (Q × Bool) := [asPh0, asPh1, asPh2, asPh8, asPh14, asPh4]
def splO_d1 : List Duty := [(true, (.un .len (.fn 58 txPh10)), txPh6), (true, (.un .len (.fn 58 txPh10)), txPh6), (true, (.un .len (.fn 58 txPh10)), txPh6), (false, (.un .code (.fn 58 txPh10)), txPh7)]
def splO_h1 : List (Nat × E) := [(6, (.bi .snoc (.var 6) (.lits []))), (7, (.bi .add (.var 7) (.int 1))), (5, (.var 5)), (2, (.var 2)), (0, (.bi .add (.var 0) (.int 1)))]
theorem splO_h1_0 : lookE splO_h1 0 = (.bi .add (.var 0) (.int 1)) := rfl
theorem splO_h1_2 : lookE splO_h1 2 = (.var 2) := rfl
theorem splO_h1_5 : lookE splO_h1 5 = (.var 5) := rfl
theorem splO_h1_6 : lookE splO_h1 6 = (.bi .snoc (.var 6) (.lits [])) := rfl
theorem splO_h1_7 : lookE splO_h1 7 = (.bi .add (.var 7) (.int 1)) := rfl
theorem splO_y1 : nextJ (splM 1) (splM 1) splO_h1 [(1, 5)] (roundC Try.prog [] [] [] 3000 40 32 [4, 1, 0, 1, 1] (tellA splO_t1) (splM 1)) = some splO_d1 := by kernel_rfl
abbrev asPh15 : Q × Bool := ((.le (.var 5) (.var 0)), true)
def splO_t2 : List (Q × Bool) := [asPh0, asPh15]
def splO_d2 : List Duty := [(true, (.var 7), txPh6), (true, (.var 7), txPh6), (true, (.var 7), txPh6), (false, (.un .code (.var 6)), txPh7)]
theorem splO_y2 : endD (splM 1) [(3, 1)] 1000 (roundC Try.prog [] [] [] 3000 40 32 [4, 1, 0, 1, 1] (tellA splO_t2) (splM 1)) = some splO_d2 := by kernel_rfl
theorem splM_holds : ∀ i, i < 2 → LHolds Try.prog (loopAt Try.prog 32 [4, 1, 0, 1, 1]) (splM i) F := by
 refine loop_famC sound (tableNil _ _) (specsNil _ _) (oversNil _ _) (fuel := 3000) (depth := 40) (by kernel_rfl) (fun i d => match i with | 0 => ((d 5).toInt - (d 0).toInt).toNat | _ => ((d 5).toInt - (d 0).toInt).toNat) ?_
 intro i hi d hp hR hA
 match i, hi with
 | 0, _ =>
   have hp := allTold'_iff.2 hp
   simp only [splM, splC, tl] at hp hR hA
   have h6 : (d 6).ints.length = (d 6).toList.length := List.length_map ..
   have h2 : (d 2).ints.length = (d 2).toList.length := List.length_map ..
   have h5 : List.take (d 5).toInt.toNat (d 2).ints = (d 2).ints := List.take_of_length_le (by omega)
   have hx : (d 6).toList ≠ [] := fun e => by have := congrArg List.length e; simp only [List.length_nil] at this; omega
   have hn : (d 6).toList.length = ((0 : Int)).toNat + 1 := by omega
   have hq := hp.2.2.2.1
   simp only [F40, h5, tl] at hq
   by_cases e : (d 5).toInt ≤ (d 0).toInt
   ·exfalso
    rw [List.drop_of_length_le (by omega)] at hq
    exact absurd hq (by decide)
   by_cases c : (d 2).ints[(d 0).toInt.toNat]?.getD 0 = 47
   ·have hg := stroke_step (x := (d 6).toList) (s := (d 2).toList) (i := (d 0).toInt) (by omega) (by omega) hx c
    have hk := snoc_len (x := (d 6).toList) (n := ((2 : Int) + -1).toNat) (by omega)
    have hb : True := trivial
    have hd := idx_stroke (x := (d 2).ints) (i := (d 0).toInt) (by omega) (by omega) c
    refine ⟨tellA splC_t1, tellA_ok (allTold'_iff.1 ?_), .inr ⟨1, splC_h1, _, _, by decide, splC_y1, dutiesTold_ok ?_, allTold'_iff.1 ?_, ?_⟩⟩
    ·simp only [splC_t1, F40, F58, h5, tl]
     and_intros <;> first | omega | assumption | (rw [hg]; done) | (rw [hg]; omega) | (rw [hg, hb]) | (rw [hk]; omega) | exact hd | exact hd.1 hq | (have := hd.2; omega) | rfl
    ·simp only [splC_d1, F40, F58, h5, tl]
     and_intros <;> first | omega | assumption | (rw [hg]; done) | (rw [hg]; omega) | (rw [hg, hb]) | (rw [hk]; omega) | exact hd | exact hd.1 hq | (have := hd.2; omega) | rfl
    ·simp only [splM, splC, splO, splC_h1_0, splC_h1_2, splC_h1_5, splC_h1_6, splC_h1_7, F40, F58, h5, tl]
     and_intros <;> first | omega | assumption | (rw [hg]; done) | (rw [hg]; omega) | (rw [hg, hb]) | (rw [hk]; omega) | exact hd | exact hd.1 hq | (have := hd.2; omega) | rfl
    ·simp only [splC_h1_0, splC_h1_2, splC_h1_5, splC_h1_6, splC_h1_7, tl]
     omega
   ·have hg := byte_step (x := (d 6).toList) (s := (d 2).toList) (n := ((0 : Int)).toNat) (i := (d 0).toInt) (by omega) (by omega) hn c
    have h7 : ((d 6).toList[((0 : Int)).toNat]?.getD (.int 0)).ints.length = ((d 6).toList[((0 : Int)).toNat]?.getD (.int 0)).toList.length := List.length_map ..
    have h8 := piece_len (s := (d 2).toList) (i := (d 0).toInt) (by omega)
    have hk := set_len (x := (d 6).toList) (n := ((0 : Int)).toNat) (y := ((d 6).toList[((0 : Int)).toNat]?.getD (.int 0)).toList) (z := ((d 2).toList.take ((d 0).toInt + 1).toNat).drop (d 0).toInt.toNat) (by omega)
    have hb : True := trivial
    have hd := idx_byte (x := (d 2).ints) (i := (d 0).toInt) (by omega) (by omega) c
    refine ⟨tellA splC_t0, tellA_ok (allTold'_iff.1 ?_), .inr ⟨0, splC_h0, _, _, by decide, splC_y0, dutiesTold_ok ?_, allTold'_iff.1 ?_, ?_⟩⟩
    ·simp only [splC_t0, F40, F58, h5, tl]
     and_intros <;> first | omega | assumption | (rw [hg]; done) | (rw [hg]; omega) | (rw [hg, hb]) | (rw [hk]; omega) | exact hd | exact hd.1 hq | (have := hd.2; omega) | rfl
    ·simp only [splC_d0, F40, F58, h5, tl]
     and_intros <;> first | omega | assumption | (rw [hg]; done) | (rw [hg]; omega) | (rw [hg, hb]) | (rw [hk]; omega) | exact hd | exact hd.1 hq | (have := hd.2; omega) | rfl
    ·simp only [splM, splC, splO, splC_h0_0, splC_h0_2, splC_h0_5, splC_h0_6, F40, F58, h5, tl]
     and_intros <;> first | omega | assumption | (rw [hg]; done) | (rw [hg]; omega) | (rw [hg, hb]) | (rw [hk]; omega) | exact hd | exact hd.1 hq | (have := hd.2; omega) | rfl
    ·simp only [splC_h0_0, splC_h0_2, splC_h0_5, splC_h0_6, tl]
     omega
 | 1, _ =>
   have hp := allTold'_iff.2 hp
   simp only [splM, splO, tl] at hp hR hA
   have h6 : (d 6).ints.length = (d 6).toList.length := List.length_map ..
   have h2 : (d 2).ints.length = (d 2).toList.length := List.length_map ..
   have h5 : List.take (d 5).toInt.toNat (d 2).ints = (d 2).ints := List.take_of_length_le (by omega)
   have hx : (d 6).toList ≠ [] := fun e => by have := congrArg List.length e; simp only [List.length_nil] at this; omega
   have hn : (d 6).toList.length = ((d 7).toInt + -1).toNat + 1 := by omega
   by_cases e : (d 5).toInt ≤ (d 0).toInt
   ·have hg : glueD (d 6).toList (splitR ((d 2).toList.drop (d 0).toInt.toNat)) = (d 6).toList := by rw [List.drop_of_length_le (by omega)]; exact glue_end hx
    have hb := list_back hx
    have hk : True := trivial
    have hd : True := trivial
    refine ⟨tellA splO_t2, tellA_ok (allTold'_iff.1 ?_), .inl ⟨_, _, _, splO_y2, dutiesTold_ok ?_⟩⟩
    ·simp only [splO_t2, F40, F58, h5, tl]
     and_intros <;> first | omega | assumption | (rw [hg]; done) | (rw [hg]; omega) | (rw [hg, hb]) | (rw [hk]; omega) | exact hd | exact hd.1 hq | (have := hd.2; omega) | rfl
    ·simp only [splO_d2, F40, F58, h5, tl]
     and_intros <;> first | omega | assumption | (rw [hg]; done) | (rw [hg]; omega) | (rw [hg, hb]) | (rw [hk]; omega) | exact hd | exact hd.1 hq | (have := hd.2; omega) | rfl
   by_cases c : (d 2).ints[(d 0).toInt.toNat]?.getD 0 = 47
   ·have hg := stroke_step (x := (d 6).toList) (s := (d 2).toList) (i := (d 0).toInt) (by omega) (by omega) hx c
    have hk := snoc_len (x := (d 6).toList) (n := ((d 7).toInt + 1 + -1).toNat) (by omega)
    have hb : True := trivial
    have hd := idx_stroke (x := (d 2).ints) (i := (d 0).toInt) (by omega) (by omega) c
    refine ⟨tellA splO_t1, tellA_ok (allTold'_iff.1 ?_), .inr ⟨1, splO_h1, _, _, by decide, splO_y1, dutiesTold_ok ?_, allTold'_iff.1 ?_, ?_⟩⟩
    ·simp only [splO_t1, F40, F58, h5, tl]
     and_intros <;> first | omega | assumption | (rw [hg]; done) | (rw [hg]; omega) | (rw [hg, hb]) | (rw [hk]; omega) | exact hd | exact hd.1 hq | (have := hd.2; omega) | rfl
    ·simp only [splO_d1, F40, F58, h5, tl]
     and_intros <;> first | omega | assumption | (rw [hg]; done) | (rw [hg]; omega) | (rw [hg, hb]) | (rw [hk]; omega) | exact hd | exact hd.1 hq | (have := hd.2; omega) | rfl
    ·simp only [splM, splC, splO, splO_h1_0, splO_h1_2, splO_h1_5, splO_h1_6, splO_h1_7, F40, F58, h5, tl]
     and_intros <;> first | omega | assumption | (rw [hg]; done) | (rw [hg]; omega) | (rw [hg, hb]) | (rw [hk]; omega) | exact hd | exact hd.1 hq | (have := hd.2; omega) | rfl
    ·simp only [splO_h1_0, splO_h1_2, splO_h1_5, splO_h1_6, splO_h1_7, tl]
     omega
   ·have hg := byte_step (x := (d 6).toList) (s := (d 2).toList) (n := ((d 7).toInt + -1).toNat) (i := (d 0).toInt) (by omega) (by omega) hn c
    have h7 : ((d 6).toList[((d 7).toInt + -1).toNat]?.getD (.int 0)).ints.length = ((d 6).toList[((d 7).toInt + -1).toNat]?.getD (.int 0)).toList.length := List.length_map ..
    have h8 := piece_len (s := (d 2).toList) (i := (d 0).toInt) (by omega)
    have hk := set_len (x := (d 6).toList) (n := ((d 7).toInt + -1).toNat) (y := ((d 6).toList[((d 7).toInt + -1).toNat]?.getD (.int 0)).toList) (z := ((d 2).toList.take ((d 0).toInt + 1).toNat).drop (d 0).toInt.toNat) (by omega)
    have hb : True := trivial
    have hd := idx_byte (x := (d 2).ints) (i := (d 0).toInt) (by omega) (by omega) c
    refine ⟨tellA splO_t0, tellA_ok (allTold'_iff.1 ?_), .inr ⟨1, splO_h0, _, _, by decide, splO_y0, dutiesTold_ok ?_, allTold'_iff.1 ?_, ?_⟩⟩
    ·simp only [splO_t0, F40, F58, h5, tl]
     and_intros <;> first | omega | assumption | (rw [hg]; done) | (rw [hg]; omega) | (rw [hg, hb]) | (rw [hk]; omega) | exact hd | exact hd.1 hq | (have := hd.2; omega) | rfl
    ·simp only [splO_d0, F40, F58, h5, tl]
     and_intros <;> first | omega | assumption | (rw [hg]; done) | (rw [hg]; omega) | (rw [hg, hb]) | (rw [hk]; omega) | exact hd | exact hd.1 hq | (have := hd.2; omega) | rfl
    ·simp only [splM, splC, splO, splO_h0_0, splO_h0_2, splO_h0_5, splO_h0_6, splO_h0_7, F40, F58, h5, tl]
     and_intros <;> first | omega | assumption | (rw [hg]; done) | (rw [hg]; omega) | (rw [hg, hb]) | (rw [hk]; omega) | exact hd | exact hd.1 hq | (have := hd.2; omega) | rfl
    ·simp only [splO_h0_0, splO_h0_2, splO_h0_5, splO_h0_6, splO_h0_7, tl]
     omega
theorem splC_holds : LHolds Try.prog (loopAt Try.prog 32 [4, 1, 0, 1, 1]) splC F := splM_holds 0 (by decide)
theorem splO_holds : LHolds Try.prog (loopAt Try.prog 32 [4, 1, 0, 1, 1]) splO F := splM_holds 1 (by decide)

def splN : LSpec := { n := 37, next := 1, pat := [(4, .sint .i64 (.var 0)), (0, .sstr (.var 5) (.var 2)), (3, .vslice 1 1 (.int 0) (.int 1) (.int 1) false)], rows := [(1, .vseq ⟨9, .str, .int 1, .var 6, false⟩)], pre := [(.le (.int 0) (.var 0), true), (.le (.var 0) (.var 5), true), (.le (.var 5) (.int 1000), true), (.le (.int 0) (.fn 40 (.bi .pair (.tr .cut (.var 2) (.var 0) (.var 5)) (.int 0))), false), (.le (.un .len (.bi .sel (.var 6) (.int 0))) (.var 0), true)], x := 0, fin := [(0, .sstr (.var 5) (.var 2)), (3, .vslice 1 1 (.int 0) (.int 1) (.int 1) false)], frows := [(1, .vseq ⟨9, .str, .int 1, .fn 58 (.bi .pair (.var 6) txPh2), false⟩)], same := [1], chg := [0, 3, 4, 6, 7, 8, 9, 10, 11, 12, 13, 14, 15, 19, 20, 21, 22, 23, 24, 25, 26, 27, 28, 29, 30, 31, 32, 33, 34, 35] }
def splN_t0 : List (Q × Bool) := [asPh0, asPh1, asPh2, asPh3, asPh4, asPh5, asPh6, asPh7]
def splN_d0 : List Duty := [(false, (.un .code (.fn 58 txPh12)), txPh7)]
def splN_h0 : List (Nat × E) := [(6, (.tr .upd (.var 6) (.int 0) txPh9)), (5, (.var 5)), (2, (.var 2)), (0, (.bi .add (.var 0) (.int 1)))]
theorem splN_h0_0 : lookE splN_h0 0 = (.bi .add (.var 0) (.int 1)) := rfl
theorem splN_h0_2 : lookE splN_h0 2 = (.var 2) := rfl
theorem splN_h0_5 : lookE splN_h0 5 = (.var 5) := rfl
theorem splN_h0_6 : lookE splN_h0 6 = (.tr .upd (.var 6) (.int 0) txPh9) := rfl
theorem splN_y0 : nextD splN splN_h0 [(1, 1)] (roundC Try.prog [] [] [] 3000 40 32 [4, 1, 0, 1, 1] (tellA splN_t0) splN) = some splN_d0 := by kernel_rfl
def splN_t1 : List (Q × Bool) := [asPh0, asPh15]
def splN_d1 : List Duty := [(false, (.un .code (.var 6)), txPh7)]
theorem splN_y1 : endD splN [(1, 1)] 1000 (roundC Try.prog [] [] [] 3000 40 32 [4, 1, 0, 1, 1] (tellA splN_t1) splN) = some splN_d1 := by kernel_rfl
theorem splN_holds : LHolds Try.prog (loopAt Try.prog 32 [4, 1, 0, 1, 1]) splN F := by
 refine loop_roundsC sound (tableNil _ _) (specsNil _ _) (oversNil _ _) (fuel := 3000) (depth := 40) (by kernel_rfl) (by kernel_rfl) (by kernel_rfl) (fun d => ((d 5).toInt - (d 0).toInt).toNat) fun d hp hR hA => ?_
 have hp := allTold'_iff.2 hp
 simp only [splN, tl] at hp hR hA
 have h6 : (d 6).ints.length = (d 6).toList.length := List.length_map ..
 have h2 : (d 2).ints.length = (d 2).toList.length := List.length_map ..
 have h5 : List.take (d 5).toInt.toNat (d 2).ints = (d 2).ints := List.take_of_length_le (by omega)
 have hx : (d 6).toList ≠ [] := fun e => by have := congrArg List.length e; simp only [List.length_nil] at this; omega
 have hn : (d 6).toList.length = ((0 : Int)).toNat + 1 := by omega
 have hq := hp.2.2.2.1
 simp only [F40, h5, tl] at hq
 by_cases e : (d 5).toInt ≤ (d 0).toInt
 ·have hg : glueD (d 6).toList (splitR ((d 2).toList.drop (d 0).toInt.toNat)) = (d 6).toList := by rw [List.drop_of_length_le (by omega)]; exact glue_end hx
  have hb := list_back hx
  have hk : True := trivial
  have hd : True := trivial
  refine ⟨tellA splN_t1, tellA_ok (allTold'_iff.1 ?_), .inl ⟨_, _, _, splN_y1, dutiesTold_ok ?_⟩⟩
  ·simp only [splN_t1, F40, F58, h5, tl]
   and_intros <;> first | omega | assumption | (rw [hg]; done) | (rw [hg]; omega) | (rw [hg, hb]) | (rw [hk]; omega) | exact hd | exact hd.1 hq | (have := hd.2; omega) | rfl
  ·simp only [splN_d1, F40, F58, h5, tl]
   and_intros <;> first | omega | assumption | (rw [hg]; done) | (rw [hg]; omega) | (rw [hg, hb]) | (rw [hk]; omega) | exact hd | exact hd.1 hq | (have := hd.2; omega) | rfl
 by_cases c : (d 2).ints[(d 0).toInt.toNat]?.getD 0 = 47
 ·have hd := idx_stroke (x := (d 2).ints) (i := (d 0).toInt) (by omega) (by omega) c
  omega
 ·have hg := byte_step (x := (d 6).toList) (s := (d 2).toList) (n := ((0 : Int)).toNat) (i := (d 0).toInt) (by omega) (by omega) hn c
  have h7 : ((d 6).toList[((0 : Int)).toNat]?.getD (.int 0)).ints.length = ((d 6).toList[((0 : Int)).toNat]?.getD (.int 0)).toList.length := List.length_map ..
  have h8 := piece_len (s := (d 2).toList) (i := (d 0).toInt) (by omega)
  have hk := set_len (x := (d 6).toList) (n := ((0 : Int)).toNat) (y := ((d 6).toList[((0 : Int)).toNat]?.getD (.int 0)).toList) (z := ((d 2).toList.take ((d 0).toInt + 1).toNat).drop (d 0).toInt.toNat) (by omega)
  have hb : True := trivial
  have hd := idx_byte (x := (d 2).ints) (i := (d 0).toInt) (by omega) (by omega) c
  refine ⟨tellA splN_t0, tellA_ok (allTold'_iff.1 ?_), .inr ⟨splN_h0, _, _, splN_y0, dutiesTold_ok ?_, allTold'_iff.1 ?_, ?_⟩⟩
  ·simp only [splN_t0, F40, F58, h5, tl]
   and_intros <;> first | omega | assumption | (rw [hg]; done) | (rw [hg]; omega) | (rw [hg, hb]) | (rw [hk]; omega) | exact hd | exact hd.1 hq | (have := hd.2; omega) | rfl
  ·simp only [splN_d0, F40, F58, h5, tl]
   and_intros <;> first | omega | assumption | (rw [hg]; done) | (rw [hg]; omega) | (rw [hg, hb]) | (rw [hk]; omega) | exact hd | exact hd.1 hq | (have := hd.2; omega) | rfl
  ·simp only [splN, splN_h0_0, splN_h0_2, splN_h0_5, splN_h0_6, F40, F58, h5, tl]
   and_intros <;> first | omega | assumption | (rw [hg]; done) | (rw [hg]; omega) | (rw [hg, hb]) | (rw [hk]; omega) | exact hd | exact hd.1 hq | (have := hd.2; omega) | rfl
  ·simp only [splN_h0_0, splN_h0_2, splN_h0_5, splN_h0_6, tl]
   omega

def splitY : CSpec := { args := [.sstr (.var 0) (.var 1)], next := 0, rows := [], pre := [(.le (.var 0) (.int 1000), true), (.le (.int 0) (.fn 40 (.bi .pair (.var 1) (.int 0))), true)], res := .vslice 1 1 (.int 0) txPh1 txPh1 true, frows := [(1, .vseq ⟨9, .str, .un .len (.fn 57 (.bi .pair (.var 1) (.int 0))), .fn 57 (.bi .pair (.var 1) (.int 0)), true⟩)], same := [] }
abbrev asPh16 : Q × Bool := ((.le (.var 0) (.int 1000)), true)
abbrev asPh17 : Q × Bool := ((.le (.int 0) (.fn 40 (.bi .pair (.tr .cut (.var 1) (.int 0) (.var 0)) (.int 0)))), true)
abbrev asPh18 : Q × Bool := ((.le (.un .len (.bi .sel (.bi .snoc (.lits []) (.lits [])) (.int 0))) (.int 0)), true)
def splitY_t0 : List (Q × Bool) := [asPh2, asPh16, asPh17, asPh18]
def splitY_d0 : List Duty := [(true, (.un .len (.fn 58 txPh8)), txPh1), (true, (.un .len (.fn 58 txPh8)), txPh1), (true, (.un .len (.fn 58 txPh8)), txPh1), (false, (.un .code (.fn 58 txPh8)), (.un .code (.fn 57 (.bi .pair (.var 1) (.int 0)))))]
theorem splitY_y0 : endC splitY [(1, 3)] 1000 (callC Try.prog (tellA splitY_t0) [⟨32, [4, 1, 0, 1, 1], splC⟩, ⟨32, [4, 1, 0, 1, 1], splO⟩, ⟨32, [4, 1, 0, 1, 1], splN⟩] [] [] 3000 40 32 splitY) = some splitY_d0 := by kernel_rfl
theorem splitY_holds : CHolds Try.prog 32 splitY F := by
 refine cholds_of sound (tableCons splC_holds (tableCons splO_holds (tableCons splN_holds (tableNil _ _)))) (specsNil _ _) (oversNil _ _) (fuel := 3000) (depth := 40) (by kernel_rfl) fun d hp hR hA => ?_
 have hp := allTold'_iff.2 hp
 simp only [splitY, tl] at hp hR hA
 simp only [F40, D.toInt_int] at hp
 have h0 : List.take (d 0).toInt.toNat (d 1).ints = (d 1).ints := List.take_of_length_le (by omega)
 have hg : glueD ((D.ofInts []).toList ++ [D.ofInts []]) (splitR (List.drop (Int.toNat 0) (d 1).toList)) = (splitR (d 1).toList).map D.list := glue_all _
 refine ⟨tellA splitY_t0, _, _, _, tellA_ok (allTold'_iff.1 ?_), splitY_y0, dutiesTold_ok ?_⟩
 ·simp only [splitY_t0, F40, F58, h0, tl]
  and_intros <;> first | omega | assumption | exact Int.le_refl 0 | exact hp.2
 ·simp only [splitY_d0, F57, F58, tl]
  and_intros <;> first | (rw [hg]; done) | rw [hg]

def splitN : CSpec := { args := [.sstr (.var 0) (.var 1)], next := 0, rows := [], pre := [(.le (.var 0) (.int 1000), true), (.le (.int 0) (.fn 40 (.bi .pair (.var 1) (.int 0))), false)], res := .vslice 1 1 (.int 0) (.int 1) (.int 1) false, frows := [(1, .vseq ⟨9, .str, .int 1, .fn 57 (.bi .pair (.var 1) (.int 0)), false⟩)], same := [] }
abbrev asPh19 : Q × Bool := ((.le (.int 0) (.fn 40 (.bi .pair (.tr .cut (.var 1) (.int 0) (.var 0)) (.int 0)))), false)
def splitN_t0 : List (Q × Bool) := [asPh2, asPh16, asPh19, asPh18]
def splitN_d0 : List Duty := [(false, (.un .code (.fn 58 txPh8)), (.un .code (.fn 57 (.bi .pair (.var 1) (.int 0)))))]
theorem splitN_y0 : endC splitN [(1, 1)] 1000 (callC Try.prog (tellA splitN_t0) [⟨32, [4, 1, 0, 1, 1], splC⟩, ⟨32, [4, 1, 0, 1, 1], splO⟩, ⟨32, [4, 1, 0, 1, 1], splN⟩] [] [] 3000 40 32 splitN) = some splitN_d0 := by kernel_rfl
theorem splitN_holds : CHolds Try.prog 32 splitN F := by
 refine cholds_of sound (tableCons splC_holds (tableCons splO_holds (tableCons splN_holds (tableNil _ _)))) (specsNil _ _) (oversNil _ _) (fuel := 3000) (depth := 40) (by kernel_rfl) fun d hp hR hA => ?_
 have hp := allTold'_iff.2 hp
 simp only [splitN, tl] at hp hR hA
 simp only [F40, D.toInt_int] at hp
 have h0 : List.take (d 0).toInt.toNat (d 1).ints = (d 1).ints := List.take_of_length_le (by omega)
 have hg : glueD ((D.ofInts []).toList ++ [D.ofInts []]) (splitR (List.drop (Int.toNat 0) (d 1).toList)) = (splitR (d 1).toList).map D.list := glue_all _
 refine ⟨tellA splitN_t0, _, _, _, tellA_ok (allTold'_iff.1 ?_), splitN_y0, dutiesTold_ok ?_⟩
 ·simp only [splitN_t0, F40, F58, h0, tl]
  and_intros <;> first | omega | assumption | exact Int.le_refl 0 | exact hp.2
 ·simp only [splitN_d0, F57, F58, tl]
  and_intros <;> first | (rw [hg]; done) | rw [hg]

end Go.Proofs.Ytkejfocfmndogaa.Ph
