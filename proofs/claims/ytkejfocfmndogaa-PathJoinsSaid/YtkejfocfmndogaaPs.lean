/-
 Contracts of this seat: what loops and calls leave, for all inputs. No condition.
-/
import Derived.Test.YtkejfocfmndogaaSycp
import Derived.Test.YtkejfocfmndogaaSyfm
import Derived.Test.YtkejfocfmndogaaCo
import Derived.Test.YtkejfocfmndogaaShelf
import Derived.Test.YtkejfocfmndogaaPa
import Derived.Test.YtkejfocfmndogaaPb
import Derived.Test.YtkejfocfmndogaaPh
import Derived.Test.YtkejfocfmndogaaPr
set_option linter.unusedSimpArgs false
set_option linter.unusedVariables false
namespace Go.Proofs.Ytkejfocfmndogaa.Ps
open Go.RowKit Go.Ev Go.Proofs.Ytkejfocfmndogaa.Co

open Go.Proofs.Ytkejfocfmndogaa.Pa
open Go.Proofs.Ytkejfocfmndogaa.Pb
open Go.Proofs.Ytkejfocfmndogaa.Ph
open Go.Proofs.Ytkejfocfmndogaa.Pr
theorem one_if {b : Bool} : (if b = true then (1 : Int) else 0) = 1 ↔ b = true := by cases b <;> simp
theorem chkD_end {l : List D} {i a : Int} (h : l.length ≤ i) : chkD l i a = (0, 0) := by
 unfold chkD
 rw [List.drop_of_length_le (by omega)]
 rfl
theorem chkD_step {l : List D} {i a : Int} (h : 0 ≤ i) (g : i < l.length) : chkD l i a = if 20 < i + 1 then (3, a) else if (partF (l[i.toNat]?.getD (.int 0)).ints).1 = 0 then chkD l (i + 1) (a + (l[i.toNat]?.getD (.int 0)).ints.length + 1) else ((partF (l[i.toNat]?.getD (.int 0)).ints).1, a + (partF (l[i.toNat]?.getD (.int 0)).ints).2) := by
 have hl : i.toNat < l.length := by omega
 unfold chkD
 rw [List.drop_eq_getElem_cons hl, List.map_cons, chkL, List.getElem?_eq_getElem hl, Option.getD_some, show (i + 1).toNat = i.toNat + 1 by omega]
theorem free_at {l : List D} {i : Int} (h : freeL l = true) (h0 : 0 ≤ i) (g : i < l.length) : idxI (l[i.toNat]?.getD (.int 0)).ints < 0 ∧ (l[i.toNat]?.getD (.int 0)).ints.length ≤ 1000 := by
 have hl : i.toNat < l.length := by omega
 unfold freeL at h
 rw [List.all_eq_true] at h
 have := h l[i.toNat] (List.getElem_mem hl)
 rw [List.getElem?_eq_getElem hl, Option.getD_some]
 exact of_decide_eq_true this
theorem part_in (p : List Int) : 0 ≤ (partF p).2 ∧ (partF p).2 ≤ 60 + p.length := by
 have := may_le p
 rw [part_eq]
 split
 ·simp only; omega
 ·split
  ·simp only; omega
  ·split <;> simp only <;> omega
theorem splitR_ints : ∀ l : List D, (splitR l).map (fun p => p.map D.toInt) = splitL (l.map D.toInt)
 | [] => rfl
 | c :: l => by
  have ih := splitR_ints l
  rw [splitR, List.map_cons, splitL]
  by_cases k : c.toInt = 47
  ·rw [if_pos k, if_pos k, List.map_cons, ih]; rfl
  ·rw [if_neg k, if_neg k, ← ih]
   cases splitR l with
   | nil => rfl
   | cons p m => rfl
theorem parts_ints (x : D) : ((splitR x.toList).map D.list).map D.ints = splitL x.ints := by
 rw [List.map_map]
 exact splitR_ints x.toList
abbrev txPs0 : E := (.bi .pair (.bi .sel (.var 6) (.var 0)) (.int 0))
abbrev txPs1 : E := (.bi .pair (.var 0) (.bi .pair (.var 1) (.int 0)))
abbrev txPs2 : E := (.bi .pair (.int 0) (.bi .pair (.int 0) (.int 0)))
abbrev txPs3 : E := (.bi .add (.var 1) (.un .len (.bi .sel (.var 6) (.var 0))))
abbrev txPs4 : E := (.bi .pair (.bi .add txPs3 (.int 1)) (.int 0))
abbrev txPs5 : E := (.bi .pair (.fn 57 (.bi .pair (.var 1) (.int 0))) txPs2)
abbrev txPs6 : E := (.bi .pair (.bi .add (.var 0) (.int 1)) txPs4)
theorem chk_all (x : D) : chkD ((splitR x.toList).map D.list) 0 0 = chkR x.ints 0 0 := by
 unfold chkD chkR
 rw [show Int.toNat 0 = 0 from rfl, List.drop_zero, parts_ints]
theorem part_short : ∀ (l : List Int), ∀ p ∈ splitL l, p.length ≤ l.length
 | [], p, h => by simp only [splitL, List.mem_singleton] at h; subst h; exact Nat.le_refl 0
 | c :: l, p, h => by
  have ih := part_short l
  rw [splitL] at h
  split at h
  ·rcases List.mem_cons.1 h with rfl | h
   ·simp
   ·have := ih p h; simp only [List.length_cons]; omega
  ·cases hs : splitL l with
   | nil => exact absurd hs (split_ne l)
   | cons q m =>
    rw [hs] at h ih
    rcases List.mem_cons.1 h with rfl | h
    ·have := ih q (List.mem_cons_self ..); simp only [List.length_cons]; omega
    ·have := ih p (List.mem_cons_of_mem _ h); simp only [List.length_cons]; omega
theorem idx_free : ∀ {p : List Int}, (∀ c ∈ p, c ≠ 47) → idxI p < 0
 | [], _ => by decide
 | c :: p, h => by
  rw [idxI, if_neg (h c (List.mem_cons_self ..))]
  have := idx_free (p := p) fun c hc => h c (List.mem_cons_of_mem _ hc)
  have hi := idx_in p
  rw [if_pos (by omega)]; decide
theorem free_all (x : D) (h : x.ints.length ≤ 1000) : freeL ((splitR x.toList).map D.list) = true := by
 unfold freeL
 rw [List.all_eq_true]
 intro p hp
 have : p.ints ∈ splitL x.ints := by rw [← parts_ints]; exact List.mem_map_of_mem hp
 exact decide_eq_true ⟨idx_free (split_free _ _ this), Nat.le_trans (part_short _ _ this) h⟩
theorem parts_many : ∀ (l : List Int), (splitL l).length ≤ l.length + 1
 | [] => Nat.le_refl 1
 | c :: l => by
  have ih := parts_many l
  rw [splitL]
  split
  ·simp only [List.length_cons]; omega
  ·cases hs : splitL l with
   | nil => exact absurd hs (split_ne l)
   | cons q m => rw [hs] at ih; simp only [List.length_cons] at ih ⊢; omega
theorem check_as (s : List Int) : checkF s = if s = [] then (2, 0) else if 200 < (s.length : Int) then (3, 200) else chkR s 0 0 := rfl
theorem chk_zz : ∀ (l : List (List Int)) (a n : Int), (chkL l a n).1 = 0 → (chkL l a n).2 = 0
 | [], a, n, _ => rfl
 | p :: l, a, n, h => by
  rw [chkL] at h ⊢
  by_cases k : 20 < n + 1
  ·rw [if_pos k] at h; simp at h
  ·rw [if_neg k] at h ⊢
   by_cases q : (partF p).1 = 0
   ·rw [if_pos q] at h ⊢; exact chk_zz l _ _ h
   ·rw [if_neg q] at h; exact absurd h q
theorem one_d {x : D} (h : idxI x.ints < 0) : (splitR x.toList).length = 1 := by
 have e := congrArg List.length (splitR_ints x.toList)
 rcases split_idx x.ints with ⟨_, g⟩ | ⟨g, _⟩
 ·rw [List.length_map] at e
  rw [e]
  show (splitL x.ints).length = 1
  rw [g]; rfl
 ·omega
theorem many_d {x : D} (h : 0 ≤ idxI x.ints) : 2 ≤ (splitR x.toList).length := by
 have e := congrArg List.length (splitR_ints x.toList)
 rcases split_idx x.ints with ⟨g, _⟩ | ⟨_, g⟩
 ·omega
 ·rw [List.length_map] at e
  rw [e]
  show 2 ≤ (splitL x.ints).length
  have hn := split_ne (x.ints.drop (idxI x.ints + 1).toNat)
  rw [g, List.length_cons]
  cases hs : splitL (x.ints.drop (idxI x.ints + 1).toNat) with
  | nil => exact absurd hs hn
  | cons a l => simp only [List.length_cons]; omega

def rcAO : LSpec := { n := 51, next := 2, pat := [(3, .vslice 1 1 (.int 0) (.var 7) (.var 7) true), (4, .sint .i64 (.var 1)), (5, .sint .i64 (.var 0))], rows := [(1, .vseq ⟨9, .str, .var 7, .var 6, true⟩)], pre := [(.le (.int 0) (.var 0), true), (.le (.var 0) (.var 7), true), (.le (.var 0) (.int 20), true), (.le (.int 0) (.var 1), true), (.le (.var 1) (.bi .mul (.var 0) (.int 1001)), true), (.le (.var 7) (.int 1001), true), (.eq (.fn 61 (.bi .pair (.var 6) (.int 0))) (.int 1), true), (.eq (.fn 59 (.bi .pair (.var 6) txPs1)) (.int 0), true)], x := 0, fin := [], frows := [], same := [], chg := [3, 4, 5, 6, 7, 17, 18, 19, 20, 21, 22, 23, 24, 27, 28, 29, 30, 31, 32, 33, 34, 35, 36, 42, 43, 44, 45, 46, 47, 48, 49] }
abbrev asPs0 : Q × Bool := ((.fit .i64 (.var 7)), true)
abbrev asPs1 : Q × Bool := ((.le (.var 7) (.var 0)), false)
abbrev asPs2 : Q × Bool := ((.eq (.var 0) (.int 20)), false)
abbrev asPs3 : Q × Bool := ((.le (.int 0) (.var 0)), true)
abbrev asPs4 : Q × Bool := ((.le (.un .len (.bi .sel (.var 6) (.var 0))) (.int 1000)), true)
abbrev asPs5 : Q × Bool := ((.le (.int 0) (.fn 40 txPs0)), false)
abbrev asPs6 : Q × Bool := ((.eq (.fn 43 txPs0) (.int 0)), true)
abbrev asPs7 : Q × Bool := ((.fit .i64 (.un .len (.bi .sel (.var 6) (.var 0)))), true)
abbrev asPs8 : Q × Bool := ((.fit .i64 txPs3), true)
abbrev asPs9 : Q × Bool := ((.fit .i64 (.bi .add txPs3 (.int 1))), true)
abbrev asPs10 : Q × Bool := ((.fit .i64 (.bi .add (.var 0) (.int 1))), true)
def rcAO_t0 : List (Q × Bool) := [asPs0, asPs1, asPs2, asPs3, asPs4, asPs5, asPs6, asPs7, asPs8, asPs9, asPs10]
def rcAO_d0 : List Duty := []
def rcAO_h0 : List (Nat × E) := [(6, (.var 6)), (0, (.bi .add (.var 0) (.int 1))), (1, (.bi .add txPs3 (.int 1))), (7, (.var 7))]
theorem rcAO_h0_0 : lookE rcAO_h0 0 = (.bi .add (.var 0) (.int 1)) := rfl
theorem rcAO_h0_1 : lookE rcAO_h0 1 = (.bi .add txPs3 (.int 1)) := rfl
theorem rcAO_h0_6 : lookE rcAO_h0 6 = (.var 6) := rfl
theorem rcAO_h0_7 : lookE rcAO_h0 7 = (.var 7) := rfl
theorem rcAO_y0 : nextD rcAO rcAO_h0 [(1, 1)] (roundC Try.prog [] [(33, rpC)] [] 3000 40 12 [4, 1, 0, 1, 1, 1, 1, 1] (tellA rcAO_t0) rcAO) = some rcAO_d0 := by kernel_rfl
abbrev asPs11 : Q × Bool := ((.le (.var 7) (.var 0)), true)
def rcAO_t1 : List (Q × Bool) := [asPs0, asPs11]
def rcAO_d1 : List Duty := []
theorem rcAO_y1 : endD rcAO [(1, 1)] 1000 (roundC Try.prog [] [(33, rpC)] [] 3000 40 12 [4, 1, 0, 1, 1, 1, 1, 1] (tellA rcAO_t1) rcAO) = some rcAO_d1 := by kernel_rfl
theorem rcAO_holds : LHolds Try.prog (loopAt Try.prog 12 [4, 1, 0, 1, 1, 1, 1, 1]) rcAO F := by
 refine loop_roundsC sound (tableNil _ _) (specsCons rpC_holds (specsNil _ _)) (oversNil _ _) (fuel := 3000) (depth := 40) (by kernel_rfl) (by kernel_rfl) (by kernel_rfl) (fun d => ((d 7).toInt - (d 0).toInt).toNat) fun d hp hR hA => ?_
 have hp := allTold'_iff.2 hp
 simp only [rcAO, tl] at hp hR hA
 simp only [F59, F61, D.toInt_int, one_if] at hp
 obtain ⟨p0, p1, p2, p3, p4, p5, p6, hz⟩ := hp
 have h6 : (d 6).ints.length = (d 6).toList.length := List.length_map ..
 by_cases e : (d 7).toInt ≤ (d 0).toInt
 ·have hs := chkD_end (l := (d 6).toList) (i := (d 0).toInt) (a := (d 1).toInt) (by omega)
  refine ⟨tellA rcAO_t1, tellA_ok (allTold'_iff.1 ?_), .inl ⟨_, _, _, rcAO_y1, dutiesTold_ok ?_⟩⟩
  ·simp only [rcAO_t1, F40, F43, F44, F59, F60, F61, one_if, tl]
   and_intros <;> first | omega | assumption | (rw [hs]; done) | (rw [hs]; assumption) | rfl
  ·simp only [rcAO_d1, F40, F43, F44, F59, F60, F61, one_if, hs, tl]
 have hs := chkD_step (l := (d 6).toList) (i := (d 0).toInt) (a := (d 1).toInt) (by omega) (by omega)
 obtain ⟨f1, f2⟩ := free_at (i := (d 0).toInt) p6 (by omega) (by omega)
 have hb := part_in ((d 6).toList[(d 0).toInt.toNat]?.getD (D.int 0)).ints
 by_cases n : 20 < (d 0).toInt + 1
 ·rw [if_pos n] at hs
  rw [hs] at hz
  exact absurd (show (3 : Int) = 0 from hz) (by decide)
 rw [if_neg n] at hs
 by_cases q : (partF ((d 6).toList[(d 0).toInt.toNat]?.getD (D.int 0)).ints).1 = 0
 ·rw [if_pos q] at hs
  rw [hs] at hz
  refine ⟨tellA rcAO_t0, tellA_ok (allTold'_iff.1 ?_), .inr ⟨rcAO_h0, _, _, rcAO_y0, dutiesTold_ok ?_, allTold'_iff.1 ?_, ?_⟩⟩
  ·simp only [rcAO_t0, F40, F43, F44, F59, F60, F61, one_if, tl]
   and_intros <;> first | omega | assumption | (rw [hs]; done) | (rw [hs]; assumption) | rfl
  ·simp only [rcAO_d0, F40, F43, F44, F59, F60, F61, one_if, hs, tl]
  ·simp only [rcAO, rcAO_h0_0, rcAO_h0_1, rcAO_h0_6, rcAO_h0_7, F40, F43, F44, F59, F60, F61, one_if, tl]
   and_intros <;> first | omega | assumption | (rw [hs]; done) | (rw [hs]; assumption) | exact hz | rfl
  ·simp only [rcAO_h0_0, rcAO_h0_1, rcAO_h0_6, rcAO_h0_7, tl]
   omega
 ·rw [if_neg q] at hs
  rw [hs] at hz
  exact absurd hz q

def rcBO : LSpec := { n := 51, next := 2, pat := [(2, .ptr 3 0), (3, .vslice 1 1 (.int 0) (.var 7) (.var 7) true), (4, .sint .i64 (.var 1)), (5, .sint .i64 (.var 0))], rows := [(3, .cells 29 0 false false [.int .i64 0, .int .i64 0]), (1, .vseq ⟨9, .str, .var 7, .var 6, true⟩)], pre := [(.le (.int 0) (.var 0), true), (.le (.var 0) (.var 7), true), (.le (.var 0) (.int 20), true), (.le (.int 0) (.var 1), true), (.le (.var 1) (.bi .mul (.var 0) (.int 1001)), true), (.le (.var 7) (.int 1001), true), (.eq (.fn 61 (.bi .pair (.var 6) (.int 0))) (.int 1), true), (.eq (.fn 59 (.bi .pair (.var 6) txPs1)) (.int 0), false)], x := 999999, fin := [(2, .ptr 3 0)], frows := [(3, .cells 29 0 false false [.sint .i64 (.fn 59 (.bi .pair (.var 6) txPs1)), .sint .i64 (.fn 60 (.bi .pair (.var 6) txPs1))])], same := [3], chg := [2, 3, 4, 5, 6, 7, 17, 18, 19, 20, 21, 22, 23, 24, 25, 26, 27, 28, 29, 30, 31, 32, 33, 34, 35, 36, 37, 38, 39, 40, 41, 42, 43, 44, 45, 46, 47, 48, 49] }
def rcBO_t0 : List (Q × Bool) := [asPs0, asPs1, asPs2, asPs3, asPs4, asPs5, asPs6, asPs7, asPs8, asPs9, asPs10]
def rcBO_d0 : List Duty := [(true, (.fn 59 (.bi .pair (.var 6) txPs6)), (.fn 59 (.bi .pair (.var 6) txPs1))), (true, (.fn 60 (.bi .pair (.var 6) txPs6)), (.fn 60 (.bi .pair (.var 6) txPs1)))]
def rcBO_h0 : List (Nat × E) := [(6, (.var 6)), (0, (.bi .add (.var 0) (.int 1))), (1, (.bi .add txPs3 (.int 1))), (7, (.var 7))]
theorem rcBO_h0_0 : lookE rcBO_h0 0 = (.bi .add (.var 0) (.int 1)) := rfl
theorem rcBO_h0_1 : lookE rcBO_h0 1 = (.bi .add txPs3 (.int 1)) := rfl
theorem rcBO_h0_6 : lookE rcBO_h0 6 = (.var 6) := rfl
theorem rcBO_h0_7 : lookE rcBO_h0 7 = (.var 7) := rfl
theorem rcBO_y0 : nextD rcBO rcBO_h0 [(1, 1), (3, 3)] (roundC Try.prog [] [(33, rpC)] [] 3000 40 12 [4, 1, 0, 1, 1, 1, 1, 1] (tellA rcBO_t0) rcBO) = some rcBO_d0 := by kernel_rfl
abbrev asPs12 : Q × Bool := ((.eq (.fn 43 txPs0) (.int 0)), false)
abbrev asPs13 : Q × Bool := ((.fit .i64 (.bi .add (.var 1) (.fn 44 txPs0))), true)
def rcBO_t1 : List (Q × Bool) := [asPs0, asPs1, asPs2, asPs3, asPs4, asPs5, asPs12, asPs13]
def rcBO_d1 : List Duty := [(true, (.fn 43 txPs0), (.fn 59 (.bi .pair (.var 6) txPs1))), (true, (.bi .add (.var 1) (.fn 44 txPs0)), (.fn 60 (.bi .pair (.var 6) txPs1)))]
theorem rcBO_y1 : endD rcBO [(1, 1), (3, 3)] 1000 (roundC Try.prog [] [(33, rpC)] [] 3000 40 12 [4, 1, 0, 1, 1, 1, 1, 1] (tellA rcBO_t1) rcBO) = some rcBO_d1 := by kernel_rfl
abbrev asPs14 : Q × Bool := ((.eq (.var 0) (.int 20)), true)
def rcBO_t2 : List (Q × Bool) := [asPs0, asPs1, asPs14]
def rcBO_d2 : List Duty := [(true, (.int 3), (.fn 59 (.bi .pair (.var 6) txPs1))), (true, (.var 1), (.fn 60 (.bi .pair (.var 6) txPs1)))]
theorem rcBO_y2 : endD rcBO [(1, 1), (3, 3)] 1000 (roundC Try.prog [] [(33, rpC)] [] 3000 40 12 [4, 1, 0, 1, 1, 1, 1, 1] (tellA rcBO_t2) rcBO) = some rcBO_d2 := by kernel_rfl
theorem rcBO_holds : LHolds Try.prog (loopAt Try.prog 12 [4, 1, 0, 1, 1, 1, 1, 1]) rcBO F := by
 refine loop_roundsC sound (tableNil _ _) (specsCons rpC_holds (specsNil _ _)) (oversNil _ _) (fuel := 3000) (depth := 40) (by kernel_rfl) (by kernel_rfl) (by kernel_rfl) (fun d => ((d 7).toInt - (d 0).toInt).toNat) fun d hp hR hA => ?_
 have hp := allTold'_iff.2 hp
 simp only [rcBO, tl] at hp hR hA
 simp only [F59, F61, D.toInt_int, one_if] at hp
 obtain ⟨p0, p1, p2, p3, p4, p5, p6, hz⟩ := hp
 have h6 : (d 6).ints.length = (d 6).toList.length := List.length_map ..
 by_cases e : (d 7).toInt ≤ (d 0).toInt
 ·have hs := chkD_end (l := (d 6).toList) (i := (d 0).toInt) (a := (d 1).toInt) (by omega)
  rw [hs] at hz
  exact absurd rfl hz
 have hs := chkD_step (l := (d 6).toList) (i := (d 0).toInt) (a := (d 1).toInt) (by omega) (by omega)
 obtain ⟨f1, f2⟩ := free_at (i := (d 0).toInt) p6 (by omega) (by omega)
 have hb := part_in ((d 6).toList[(d 0).toInt.toNat]?.getD (D.int 0)).ints
 by_cases n : 20 < (d 0).toInt + 1
 ·rw [if_pos n] at hs
  refine ⟨tellA rcBO_t2, tellA_ok (allTold'_iff.1 ?_), .inl ⟨_, _, _, rcBO_y2, dutiesTold_ok ?_⟩⟩
  ·simp only [rcBO_t2, F40, F43, F44, F59, F60, F61, one_if, tl]
   and_intros <;> first | omega | assumption | (rw [hs]; done) | (rw [hs]; assumption) | rfl
  ·simp only [rcBO_d2, F40, F43, F44, F59, F60, F61, one_if, hs, tl]
 rw [if_neg n] at hs
 by_cases q : (partF ((d 6).toList[(d 0).toInt.toNat]?.getD (D.int 0)).ints).1 = 0
 ·rw [if_pos q] at hs
  rw [hs] at hz
  refine ⟨tellA rcBO_t0, tellA_ok (allTold'_iff.1 ?_), .inr ⟨rcBO_h0, _, _, rcBO_y0, dutiesTold_ok ?_, allTold'_iff.1 ?_, ?_⟩⟩
  ·simp only [rcBO_t0, F40, F43, F44, F59, F60, F61, one_if, tl]
   and_intros <;> first | omega | assumption | (rw [hs]; done) | (rw [hs]; assumption) | rfl
  ·simp only [rcBO_d0, F40, F43, F44, F59, F60, F61, one_if, hs, tl]
  ·simp only [rcBO, rcBO_h0_0, rcBO_h0_1, rcBO_h0_6, rcBO_h0_7, F40, F43, F44, F59, F60, F61, one_if, tl]
   and_intros <;> first | omega | assumption | (rw [hs]; done) | (rw [hs]; assumption) | exact hz | rfl
  ·simp only [rcBO_h0_0, rcBO_h0_1, rcBO_h0_6, rcBO_h0_7, tl]
   omega
 ·rw [if_neg q] at hs
  refine ⟨tellA rcBO_t1, tellA_ok (allTold'_iff.1 ?_), .inl ⟨_, _, _, rcBO_y1, dutiesTold_ok ?_⟩⟩
  ·simp only [rcBO_t1, F40, F43, F44, F59, F60, F61, one_if, tl]
   and_intros <;> first | omega | assumption | (rw [hs]; done) | (rw [hs]; assumption) | rfl
  ·simp only [rcBO_d1, F40, F43, F44, F59, F60, F61, one_if, hs, tl]

def rcAC : LSpec := { n := 51, next := 2, pat := [(3, .vslice 1 1 (.int 0) (.var 7) (.var 7) false), (4, .sint .i64 (.var 1)), (5, .sint .i64 (.var 0))], rows := [(1, .vseq ⟨9, .str, .var 7, .var 6, false⟩)], pre := [(.le (.int 0) (.var 0), true), (.le (.var 0) (.var 7), true), (.le (.var 0) (.int 20), true), (.le (.int 0) (.var 1), true), (.le (.var 1) (.bi .mul (.var 0) (.int 1001)), true), (.le (.var 7) (.int 1001), true), (.eq (.fn 61 (.bi .pair (.var 6) (.int 0))) (.int 1), true), (.eq (.fn 59 (.bi .pair (.var 6) txPs1)) (.int 0), true)], x := 0, fin := [], frows := [], same := [], chg := [3, 4, 5, 6, 7, 17, 18, 19, 20, 21, 22, 23, 24, 27, 28, 29, 30, 31, 32, 33, 34, 35, 36, 42, 43, 44, 45, 46, 47, 48, 49] }
def rcAC_t0 : List (Q × Bool) := [asPs0, asPs1, asPs2, asPs3, asPs4, asPs5, asPs6, asPs7, asPs8, asPs9, asPs10]
def rcAC_d0 : List Duty := []
def rcAC_h0 : List (Nat × E) := [(6, (.var 6)), (0, (.bi .add (.var 0) (.int 1))), (1, (.bi .add txPs3 (.int 1))), (7, (.var 7))]
theorem rcAC_h0_0 : lookE rcAC_h0 0 = (.bi .add (.var 0) (.int 1)) := rfl
theorem rcAC_h0_1 : lookE rcAC_h0 1 = (.bi .add txPs3 (.int 1)) := rfl
theorem rcAC_h0_6 : lookE rcAC_h0 6 = (.var 6) := rfl
theorem rcAC_h0_7 : lookE rcAC_h0 7 = (.var 7) := rfl
theorem rcAC_y0 : nextD rcAC rcAC_h0 [(1, 1)] (roundC Try.prog [] [(33, rpC)] [] 3000 40 12 [4, 1, 0, 1, 1, 1, 1, 1] (tellA rcAC_t0) rcAC) = some rcAC_d0 := by kernel_rfl
def rcAC_t1 : List (Q × Bool) := [asPs0, asPs11]
def rcAC_d1 : List Duty := []
theorem rcAC_y1 : endD rcAC [(1, 1)] 1000 (roundC Try.prog [] [(33, rpC)] [] 3000 40 12 [4, 1, 0, 1, 1, 1, 1, 1] (tellA rcAC_t1) rcAC) = some rcAC_d1 := by kernel_rfl
theorem rcAC_holds : LHolds Try.prog (loopAt Try.prog 12 [4, 1, 0, 1, 1, 1, 1, 1]) rcAC F := by
 refine loop_roundsC sound (tableNil _ _) (specsCons rpC_holds (specsNil _ _)) (oversNil _ _) (fuel := 3000) (depth := 40) (by kernel_rfl) (by kernel_rfl) (by kernel_rfl) (fun d => ((d 7).toInt - (d 0).toInt).toNat) fun d hp hR hA => ?_
 have hp := allTold'_iff.2 hp
 simp only [rcAC, tl] at hp hR hA
 simp only [F59, F61, D.toInt_int, one_if] at hp
 obtain ⟨p0, p1, p2, p3, p4, p5, p6, hz⟩ := hp
 have h6 : (d 6).ints.length = (d 6).toList.length := List.length_map ..
 by_cases e : (d 7).toInt ≤ (d 0).toInt
 ·have hs := chkD_end (l := (d 6).toList) (i := (d 0).toInt) (a := (d 1).toInt) (by omega)
  refine ⟨tellA rcAC_t1, tellA_ok (allTold'_iff.1 ?_), .inl ⟨_, _, _, rcAC_y1, dutiesTold_ok ?_⟩⟩
  ·simp only [rcAC_t1, F40, F43, F44, F59, F60, F61, one_if, tl]
   and_intros <;> first | omega | assumption | (rw [hs]; done) | (rw [hs]; assumption) | rfl
  ·simp only [rcAC_d1, F40, F43, F44, F59, F60, F61, one_if, hs, tl]
 have hs := chkD_step (l := (d 6).toList) (i := (d 0).toInt) (a := (d 1).toInt) (by omega) (by omega)
 obtain ⟨f1, f2⟩ := free_at (i := (d 0).toInt) p6 (by omega) (by omega)
 have hb := part_in ((d 6).toList[(d 0).toInt.toNat]?.getD (D.int 0)).ints
 by_cases n : 20 < (d 0).toInt + 1
 ·rw [if_pos n] at hs
  rw [hs] at hz
  exact absurd (show (3 : Int) = 0 from hz) (by decide)
 rw [if_neg n] at hs
 by_cases q : (partF ((d 6).toList[(d 0).toInt.toNat]?.getD (D.int 0)).ints).1 = 0
 ·rw [if_pos q] at hs
  rw [hs] at hz
  refine ⟨tellA rcAC_t0, tellA_ok (allTold'_iff.1 ?_), .inr ⟨rcAC_h0, _, _, rcAC_y0, dutiesTold_ok ?_, allTold'_iff.1 ?_, ?_⟩⟩
  ·simp only [rcAC_t0, F40, F43, F44, F59, F60, F61, one_if, tl]
   and_intros <;> first | omega | assumption | (rw [hs]; done) | (rw [hs]; assumption) | rfl
  ·simp only [rcAC_d0, F40, F43, F44, F59, F60, F61, one_if, hs, tl]
  ·simp only [rcAC, rcAC_h0_0, rcAC_h0_1, rcAC_h0_6, rcAC_h0_7, F40, F43, F44, F59, F60, F61, one_if, tl]
   and_intros <;> first | omega | assumption | (rw [hs]; done) | (rw [hs]; assumption) | exact hz | rfl
  ·simp only [rcAC_h0_0, rcAC_h0_1, rcAC_h0_6, rcAC_h0_7, tl]
   omega
 ·rw [if_neg q] at hs
  rw [hs] at hz
  exact absurd hz q

def rcBC : LSpec := { n := 51, next := 2, pat := [(2, .ptr 3 0), (3, .vslice 1 1 (.int 0) (.var 7) (.var 7) false), (4, .sint .i64 (.var 1)), (5, .sint .i64 (.var 0))], rows := [(3, .cells 29 0 false false [.int .i64 0, .int .i64 0]), (1, .vseq ⟨9, .str, .var 7, .var 6, false⟩)], pre := [(.le (.int 0) (.var 0), true), (.le (.var 0) (.var 7), true), (.le (.var 0) (.int 20), true), (.le (.int 0) (.var 1), true), (.le (.var 1) (.bi .mul (.var 0) (.int 1001)), true), (.le (.var 7) (.int 1001), true), (.eq (.fn 61 (.bi .pair (.var 6) (.int 0))) (.int 1), true), (.eq (.fn 59 (.bi .pair (.var 6) txPs1)) (.int 0), false)], x := 999999, fin := [(2, .ptr 3 0)], frows := [(3, .cells 29 0 false false [.sint .i64 (.fn 59 (.bi .pair (.var 6) txPs1)), .sint .i64 (.fn 60 (.bi .pair (.var 6) txPs1))])], same := [3], chg := [2, 3, 4, 5, 6, 7, 17, 18, 19, 20, 21, 22, 23, 24, 25, 26, 27, 28, 29, 30, 31, 32, 33, 34, 35, 36, 37, 38, 39, 40, 41, 42, 43, 44, 45, 46, 47, 48, 49] }
def rcBC_t0 : List (Q × Bool) := [asPs0, asPs1, asPs2, asPs3, asPs4, asPs5, asPs6, asPs7, asPs8, asPs9, asPs10]
def rcBC_d0 : List Duty := [(true, (.fn 59 (.bi .pair (.var 6) txPs6)), (.fn 59 (.bi .pair (.var 6) txPs1))), (true, (.fn 60 (.bi .pair (.var 6) txPs6)), (.fn 60 (.bi .pair (.var 6) txPs1)))]
def rcBC_h0 : List (Nat × E) := [(6, (.var 6)), (0, (.bi .add (.var 0) (.int 1))), (1, (.bi .add txPs3 (.int 1))), (7, (.var 7))]
theorem rcBC_h0_0 : lookE rcBC_h0 0 = (.bi .add (.var 0) (.int 1)) := rfl
theorem rcBC_h0_1 : lookE rcBC_h0 1 = (.bi .add txPs3 (.int 1)) := rfl
theorem rcBC_h0_6 : lookE rcBC_h0 6 = (.var 6) := rfl
theorem rcBC_h0_7 : lookE rcBC_h0 7 = (.var 7) := rfl
theorem rcBC_y0 : nextD rcBC rcBC_h0 [(1, 1), (3, 3)] (roundC Try.prog [] [(33, rpC)] [] 3000 40 12 [4, 1, 0, 1, 1, 1, 1, 1] (tellA rcBC_t0) rcBC) = some rcBC_d0 := by kernel_rfl
def rcBC_t1 : List (Q × Bool) := [asPs0, asPs1, asPs2, asPs3, asPs4, asPs5, asPs12, asPs13]
def rcBC_d1 : List Duty := [(true, (.fn 43 txPs0), (.fn 59 (.bi .pair (.var 6) txPs1))), (true, (.bi .add (.var 1) (.fn 44 txPs0)), (.fn 60 (.bi .pair (.var 6) txPs1)))]
theorem rcBC_y1 : endD rcBC [(1, 1), (3, 3)] 1000 (roundC Try.prog [] [(33, rpC)] [] 3000 40 12 [4, 1, 0, 1, 1, 1, 1, 1] (tellA rcBC_t1) rcBC) = some rcBC_d1 := by kernel_rfl
def rcBC_t2 : List (Q × Bool) := [asPs0, asPs1, asPs14]
def rcBC_d2 : List Duty := [(true, (.int 3), (.fn 59 (.bi .pair (.var 6) txPs1))), (true, (.var 1), (.fn 60 (.bi .pair (.var 6) txPs1)))]
theorem rcBC_y2 : endD rcBC [(1, 1), (3, 3)] 1000 (roundC Try.prog [] [(33, rpC)] [] 3000 40 12 [4, 1, 0, 1, 1, 1, 1, 1] (tellA rcBC_t2) rcBC) = some rcBC_d2 := by kernel_rfl
theorem rcBC_holds : LHolds Try.prog (loopAt Try.prog 12 [4, 1, 0, 1, 1, 1, 1, 1]) rcBC F := by
 refine loop_roundsC sound (tableNil _ _) (specsCons rpC_holds (specsNil _ _)) (oversNil _ _) (fuel := 3000) (depth := 40) (by kernel_rfl) (by kernel_rfl) (by kernel_rfl) (fun d => ((d 7).toInt - (d 0).toInt).toNat) fun d hp hR hA => ?_
 have hp := allTold'_iff.2 hp
 simp only [rcBC, tl] at hp hR hA
 simp only [F59, F61, D.toInt_int, one_if] at hp
 obtain ⟨p0, p1, p2, p3, p4, p5, p6, hz⟩ := hp
 have h6 : (d 6).ints.length = (d 6).toList.length := List.length_map ..
 by_cases e : (d 7).toInt ≤ (d 0).toInt
 ·have hs := chkD_end (l := (d 6).toList) (i := (d 0).toInt) (a := (d 1).toInt) (by omega)
  rw [hs] at hz
  exact absurd rfl hz
 have hs := chkD_step (l := (d 6).toList) (i := (d 0).toInt) (a := (d 1).toInt) (by omega) (by omega)
 obtain ⟨f1, f2⟩ := free_at (i := (d 0).toInt) p6 (by omega) (by omega)
 have hb := part_in ((d 6).toList[(d 0).toInt.toNat]?.getD (D.int 0)).ints
 by_cases n : 20 < (d 0).toInt + 1
 ·rw [if_pos n] at hs
  refine ⟨tellA rcBC_t2, tellA_ok (allTold'_iff.1 ?_), .inl ⟨_, _, _, rcBC_y2, dutiesTold_ok ?_⟩⟩
  ·simp only [rcBC_t2, F40, F43, F44, F59, F60, F61, one_if, tl]
   and_intros <;> first | omega | assumption | (rw [hs]; done) | (rw [hs]; assumption) | rfl
  ·simp only [rcBC_d2, F40, F43, F44, F59, F60, F61, one_if, hs, tl]
 rw [if_neg n] at hs
 by_cases q : (partF ((d 6).toList[(d 0).toInt.toNat]?.getD (D.int 0)).ints).1 = 0
 ·rw [if_pos q] at hs
  rw [hs] at hz
  refine ⟨tellA rcBC_t0, tellA_ok (allTold'_iff.1 ?_), .inr ⟨rcBC_h0, _, _, rcBC_y0, dutiesTold_ok ?_, allTold'_iff.1 ?_, ?_⟩⟩
  ·simp only [rcBC_t0, F40, F43, F44, F59, F60, F61, one_if, tl]
   and_intros <;> first | omega | assumption | (rw [hs]; done) | (rw [hs]; assumption) | rfl
  ·simp only [rcBC_d0, F40, F43, F44, F59, F60, F61, one_if, hs, tl]
  ·simp only [rcBC, rcBC_h0_0, rcBC_h0_1, rcBC_h0_6, rcBC_h0_7, F40, F43, F44, F59, F60, F61, one_if, tl]
   and_intros <;> first | omega | assumption | (rw [hs]; done) | (rw [hs]; assumption) | exact hz | rfl
  ·simp only [rcBC_h0_0, rcBC_h0_1, rcBC_h0_6, rcBC_h0_7, tl]
   omega
 ·rw [if_neg q] at hs
  refine ⟨tellA rcBC_t1, tellA_ok (allTold'_iff.1 ?_), .inl ⟨_, _, _, rcBC_y1, dutiesTold_ok ?_⟩⟩
  ·simp only [rcBC_t1, F40, F43, F44, F59, F60, F61, one_if, tl]
   and_intros <;> first | omega | assumption | (rw [hs]; done) | (rw [hs]; assumption) | rfl
  ·simp only [rcBC_d1, F40, F43, F44, F59, F60, F61, one_if, hs, tl]

def rcC : CSpec := { args := [.sstr (.var 0) (.var 1)], next := 0, rows := [], pre := [(.le (.var 0) (.int 100000000000000), true)], res := .agg [.sint .i64 (.fn 45 (argsE [.var 1])), .sint .i64 (.fn 46 (argsE [.var 1]))], frows := [], same := [] }
abbrev asPs15 : Q × Bool := ((.same (.var 1) (.lits [])), true)
def rcC_t0 : List (Q × Bool) := [asPs15]
def rcC_d0 : List Duty := [(true, (.int 2), (.fn 45 (.bi .pair (.var 1) (.int 0)))), (true, (.int 0), (.fn 46 (.bi .pair (.var 1) (.int 0))))]
theorem rcC_y0 : endC rcC [] 1000 (callC Try.prog (tellA rcC_t0) [⟨12, [4, 1, 0, 1, 1, 1, 1, 1], rcAO⟩, ⟨12, [4, 1, 0, 1, 1, 1, 1, 1], rcBO⟩, ⟨12, [4, 1, 0, 1, 1, 1, 1, 1], rcAC⟩, ⟨12, [4, 1, 0, 1, 1, 1, 1, 1], rcBC⟩] [(32, splitY), (32, splitN)] [] 3000 40 12 rcC) = some rcC_d0 := by kernel_rfl
abbrev asPs16 : Q × Bool := ((.same (.var 1) (.lits [])), false)
abbrev asPs17 : Q × Bool := ((.fit .i64 (.var 0)), true)
abbrev asPs18 : Q × Bool := ((.le (.var 0) (.int 200)), false)
def rcC_t1 : List (Q × Bool) := [asPs16, asPs17, asPs18]
def rcC_d1 : List Duty := [(true, (.int 3), (.fn 45 (.bi .pair (.var 1) (.int 0)))), (true, (.int 200), (.fn 46 (.bi .pair (.var 1) (.int 0))))]
theorem rcC_y1 : endC rcC [] 1000 (callC Try.prog (tellA rcC_t1) [⟨12, [4, 1, 0, 1, 1, 1, 1, 1], rcAO⟩, ⟨12, [4, 1, 0, 1, 1, 1, 1, 1], rcBO⟩, ⟨12, [4, 1, 0, 1, 1, 1, 1, 1], rcAC⟩, ⟨12, [4, 1, 0, 1, 1, 1, 1, 1], rcBC⟩] [(32, splitY), (32, splitN)] [] 3000 40 12 rcC) = some rcC_d1 := by kernel_rfl
abbrev asPs19 : Q × Bool := ((.le (.var 0) (.int 200)), true)
abbrev asPs20 : Q × Bool := ((.le (.var 0) (.int 1000)), true)
abbrev asPs21 : Q × Bool := ((.le (.int 0) (.fn 40 (.bi .pair (.var 1) (.int 0)))), true)
abbrev asPs22 : Q × Bool := ((.le (.int 0) (.un .len (.fn 57 (.bi .pair (.var 1) (.int 0))))), true)
abbrev asPs23 : Q × Bool := ((.le (.int 0) (.bi .mul (.int 0) (.int 1001))), true)
abbrev asPs24 : Q × Bool := ((.le (.un .len (.fn 57 (.bi .pair (.var 1) (.int 0)))) (.int 1001)), true)
abbrev asPs25 : Q × Bool := ((.eq (.fn 61 (.bi .pair (.fn 57 (.bi .pair (.var 1) (.int 0))) (.int 0))) (.int 1)), true)
abbrev asPs26 : Q × Bool := ((.eq (.fn 59 txPs5) (.int 0)), true)
def rcC_t2 : List (Q × Bool) := [asPs16, asPs17, asPs19, asPs20, asPs21, asPs22, asPs23, asPs24, asPs25, asPs26]
def rcC_d2 : List Duty := [(true, (.int 0), (.fn 45 (.bi .pair (.var 1) (.int 0)))), (true, (.int 0), (.fn 46 (.bi .pair (.var 1) (.int 0))))]
theorem rcC_y2 : endC rcC [] 1000 (callC Try.prog (tellA rcC_t2) [⟨12, [4, 1, 0, 1, 1, 1, 1, 1], rcAO⟩, ⟨12, [4, 1, 0, 1, 1, 1, 1, 1], rcBO⟩, ⟨12, [4, 1, 0, 1, 1, 1, 1, 1], rcAC⟩, ⟨12, [4, 1, 0, 1, 1, 1, 1, 1], rcBC⟩] [(32, splitY), (32, splitN)] [] 3000 40 12 rcC) = some rcC_d2 := by kernel_rfl
abbrev asPs27 : Q × Bool := ((.le (.int 0) (.fn 40 (.bi .pair (.var 1) (.int 0)))), false)
def rcC_t3 : List (Q × Bool) := [asPs16, asPs17, asPs19, asPs20, asPs27, asPs23, asPs25, asPs26]
def rcC_d3 : List Duty := [(true, (.int 0), (.fn 45 (.bi .pair (.var 1) (.int 0)))), (true, (.int 0), (.fn 46 (.bi .pair (.var 1) (.int 0))))]
theorem rcC_y3 : endC rcC [] 1000 (callC Try.prog (tellA rcC_t3) [⟨12, [4, 1, 0, 1, 1, 1, 1, 1], rcAO⟩, ⟨12, [4, 1, 0, 1, 1, 1, 1, 1], rcBO⟩, ⟨12, [4, 1, 0, 1, 1, 1, 1, 1], rcAC⟩, ⟨12, [4, 1, 0, 1, 1, 1, 1, 1], rcBC⟩] [(32, splitY), (32, splitN)] [] 3000 40 12 rcC) = some rcC_d3 := by kernel_rfl
abbrev asPs28 : Q × Bool := ((.eq (.fn 59 txPs5) (.int 0)), false)
def rcC_t4 : List (Q × Bool) := [asPs16, asPs17, asPs19, asPs20, asPs21, asPs22, asPs23, asPs24, asPs25, asPs28]
def rcC_d4 : List Duty := [(true, (.fn 59 txPs5), (.fn 45 (.bi .pair (.var 1) (.int 0)))), (true, (.fn 60 txPs5), (.fn 46 (.bi .pair (.var 1) (.int 0))))]
theorem rcC_y4 : endC rcC [] 1000 (callC Try.prog (tellA rcC_t4) [⟨12, [4, 1, 0, 1, 1, 1, 1, 1], rcAO⟩, ⟨12, [4, 1, 0, 1, 1, 1, 1, 1], rcBO⟩, ⟨12, [4, 1, 0, 1, 1, 1, 1, 1], rcAC⟩, ⟨12, [4, 1, 0, 1, 1, 1, 1, 1], rcBC⟩] [(32, splitY), (32, splitN)] [] 3000 40 12 rcC) = some rcC_d4 := by kernel_rfl
def rcC_t5 : List (Q × Bool) := [asPs16, asPs17, asPs19, asPs20, asPs27, asPs23, asPs25, asPs28]
def rcC_d5 : List Duty := [(true, (.fn 59 txPs5), (.fn 45 (.bi .pair (.var 1) (.int 0)))), (true, (.fn 60 txPs5), (.fn 46 (.bi .pair (.var 1) (.int 0))))]
theorem rcC_y5 : endC rcC [] 1000 (callC Try.prog (tellA rcC_t5) [⟨12, [4, 1, 0, 1, 1, 1, 1, 1], rcAO⟩, ⟨12, [4, 1, 0, 1, 1, 1, 1, 1], rcBO⟩, ⟨12, [4, 1, 0, 1, 1, 1, 1, 1], rcAC⟩, ⟨12, [4, 1, 0, 1, 1, 1, 1, 1], rcBC⟩] [(32, splitY), (32, splitN)] [] 3000 40 12 rcC) = some rcC_d5 := by kernel_rfl
theorem rcC_holds : CHolds Try.prog 12 rcC F := by
 refine cholds_of sound (tableCons rcAO_holds (tableCons rcBO_holds (tableCons rcAC_holds (tableCons rcBC_holds (tableNil _ _))))) (specsCons splitY_holds (specsCons splitN_holds (specsNil _ _))) (oversNil _ _) (fuel := 3000) (depth := 40) (by kernel_rfl) fun d hp hR hA => ?_
 have hp := allTold'_iff.2 hp
 simp only [rcC, tl] at hp hR hA
 have hq := check_as (d 1).ints
 have hc := chk_all (d 1)
 have hm := parts_many (d 1).ints
 have hl := congrArg List.length (parts_ints (d 1))
 rw [List.length_map, List.length_map] at hl
 by_cases e : (d 1).ints = []
 ·rw [if_pos e] at hq
  refine ⟨tellA rcC_t0, _, _, _, tellA_ok (allTold'_iff.1 ?_), rcC_y0, dutiesTold_ok ?_⟩
  ·simp only [rcC_t0, F40, F45, F46, F57, F59, F60, F61, one_if, hc, List.length_map, Int.zero_mul, tl]
   and_intros <;> first | omega | assumption | trivial | exact one_if.2 hf | exact if_pos hf
  ·simp only [rcC_d0, F40, F45, F46, F57, F59, F60, F61, one_if, hc, List.length_map, Int.zero_mul, hq, tl]
 rw [if_neg e] at hq
 by_cases l : 200 < ((d 1).ints.length : Int)
 ·rw [if_pos l] at hq
  refine ⟨tellA rcC_t1, _, _, _, tellA_ok (allTold'_iff.1 ?_), rcC_y1, dutiesTold_ok ?_⟩
  ·simp only [rcC_t1, F40, F45, F46, F57, F59, F60, F61, one_if, hc, List.length_map, Int.zero_mul, tl]
   and_intros <;> first | omega | assumption | trivial | exact one_if.2 hf | exact if_pos hf
  ·simp only [rcC_d1, F40, F45, F46, F57, F59, F60, F61, one_if, hc, List.length_map, Int.zero_mul, hq, tl]
 rw [if_neg l] at hq
 have hf := free_all (d 1) (by omega)
 by_cases z : (chkR (d 1).ints 0 0).1 = 0
 ·have z2 : (chkR (d 1).ints 0 0).2 = 0 := chk_zz _ _ _ z
  by_cases k : 0 ≤ idxI (d 1).ints
  ·refine ⟨tellA rcC_t2, _, _, _, tellA_ok (allTold'_iff.1 ?_), rcC_y2, dutiesTold_ok ?_⟩
   ·simp only [rcC_t2, F40, F45, F46, F57, F59, F60, F61, one_if, hc, List.length_map, Int.zero_mul, tl]
    and_intros <;> first | omega | assumption | trivial | exact one_if.2 hf | exact if_pos hf
   ·simp only [rcC_d2, F40, F45, F46, F57, F59, F60, F61, one_if, hc, List.length_map, Int.zero_mul, hq, z, z2, tl]
  ·refine ⟨tellA rcC_t3, _, _, _, tellA_ok (allTold'_iff.1 ?_), rcC_y3, dutiesTold_ok ?_⟩
   ·simp only [rcC_t3, F40, F45, F46, F57, F59, F60, F61, one_if, hc, List.length_map, Int.zero_mul, tl]
    and_intros <;> first | omega | assumption | trivial | exact one_if.2 hf | exact if_pos hf
   ·simp only [rcC_d3, F40, F45, F46, F57, F59, F60, F61, one_if, hc, List.length_map, Int.zero_mul, hq, z, z2, tl]
 by_cases k : 0 ≤ idxI (d 1).ints
 ·refine ⟨tellA rcC_t4, _, _, _, tellA_ok (allTold'_iff.1 ?_), rcC_y4, dutiesTold_ok ?_⟩
  ·simp only [rcC_t4, F40, F45, F46, F57, F59, F60, F61, one_if, hc, List.length_map, Int.zero_mul, tl]
   and_intros <;> first | omega | assumption | trivial | exact one_if.2 hf | exact if_pos hf
  ·simp only [rcC_d4, F40, F45, F46, F57, F59, F60, F61, one_if, hc, List.length_map, Int.zero_mul, hq, tl]
 ·refine ⟨tellA rcC_t5, _, _, _, tellA_ok (allTold'_iff.1 ?_), rcC_y5, dutiesTold_ok ?_⟩
  ·simp only [rcC_t5, F40, F45, F46, F57, F59, F60, F61, one_if, hc, List.length_map, Int.zero_mul, tl]
   and_intros <;> first | omega | assumption | trivial | exact one_if.2 hf | exact if_pos hf
  ·simp only [rcC_d5, F40, F45, F46, F57, F59, F60, F61, one_if, hc, List.length_map, Int.zero_mul, hq, tl]

end Go.Proofs.Ytkejfocfmndogaa.Ps
