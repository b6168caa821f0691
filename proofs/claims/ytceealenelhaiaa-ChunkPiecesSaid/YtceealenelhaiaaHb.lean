/-
 Contracts of this seat: what loops and calls leave, for all inputs. No condition.
-/
import Derived.Test.YtceealenelhaiaaSycp
import Derived.Test.YtceealenelhaiaaSyfm
import Derived.Test.YtceealenelhaiaaCo
import Derived.Test.YtceealenelhaiaaGa
import Derived.Test.YtceealenelhaiaaHa
set_option linter.unusedSimpArgs false
set_option linter.unusedVariables false
namespace Go.Proofs.Ytceealenelhaiaa.Hb
open Go.RowKit Go.Ev Go.Proofs.Ytceealenelhaiaa.Co

open Go.Proofs.Ytceealenelhaiaa.Ga
open Go.Proofs.Ytceealenelhaiaa.Ha
theorem last_prt {x : List Int} {o t m : Int} (ho : 0 ≤ o) (hm : 0 ≤ m) (h : m ≤ t) (hx : o + t ≤ x.length) : lastL m (prt x o (o + t)) = prt x (o + t - m) (o + t) := by
 have hl := prt_length (x := x) (o := o + t - m) (t := o + t) (by omega) (by omega) (by omega)
 rw [prt_app (m := o + t - m) ho (by omega) (by omega) hx, last_cut (by omega), last_all (by omega)]
theorem one_of {b : Prop} {h : Decidable b} (k : (@ite Int b h 1 0) = 1) : b := by
 by_cases g : b
 ·exact g
 ·rw [if_neg g] at k; omega
theorem one_to {b : Prop} {h : Decidable b} (k : b) : (@ite Int b h 1 0) = 1 := if_pos k
def restN (x : List Int) (y : List D) (o : Int) : Nat → Int → Int → List D → List D
 | 0, _, _, l => l
 | r + 1, i, n, l => if endB x o (i + 1) (n + 1) then restN x y o r (i + 1) 0 [] else restN x y o r (i + 1) (n + 1) (l ++ [y[(o + i).toNat]?.getD (.int 0)])
theorem cutsN_split (x : List Int) (o : Int) : ∀ (r q : Nat) (i n : Int), cutsN x o (r + q) i n = ((cutsN x o r i n).1 ++ (cutsN x o q (i + r) (cutsN x o r i n).2).1, (cutsN x o q (i + r) (cutsN x o r i n).2).2)
 | 0, q, i, n => by simp [cutsN]
 | r + 1, q, i, n => by
  have e : i + 1 + (r : Int) = i + ((r + 1 : Nat) : Int) := by omega
  rw [show r + 1 + q = (r + q) + 1 by omega, cutsN, cutsN]
  split
  ·rw [cutsN_split x o r q (i + 1) 0, e]; rfl
  ·rw [cutsN_split x o r q (i + 1) (n + 1), e]
theorem cuts_split {x : List Int} {o a t : Int} (h0 : 0 ≤ a) (h : a ≤ t) : cutsT x o t 0 0 = ((cutsT x o a 0 0).1 ++ (cutsT x o t a (cutsT x o a 0 0).2).1, (cutsT x o t a (cutsT x o a 0 0).2).2) := by
 unfold cutsT
 have := cutsN_split x o (a - 0).toNat (t - a).toNat 0 0
 rw [show (a - 0).toNat + (t - a).toNat = (t - 0).toNat by omega, show (0 : Int) + ((a - 0).toNat : Int) = a by omega] at this
 exact this
theorem chN_split (x : List Int) (y : List D) (o : Int) : ∀ (r q : Nat) (i n : Int) (l : List D), chN x y o (r + q) i n l = chN x y o r i n l ++ chN x y o q (i + r) (cutsN x o r i n).2 (restN x y o r i n l)
 | 0, q, i, n, l => by simp [chN, cutsN, restN]
 | r + 1, q, i, n, l => by
  have e : i + 1 + (r : Int) = i + ((r + 1 : Nat) : Int) := by omega
  rw [show r + 1 + q = (r + q) + 1 by omega, chN, chN, cutsN, restN]
  split
  ·rw [chN_split x y o r q (i + 1) 0 [], e]; rfl
  ·rw [chN_split x y o r q (i + 1) (n + 1), e]
theorem getM (x : List Int) (k : Nat) : (x.map D.int)[k]?.getD (.int 0) = D.int (x[k]?.getD 0) := by
 rw [List.getElem?_map]
 cases x[k]? <;> rfl
theorem restN_last (x : List Int) {o : Int} (ho : 0 ≤ o) : ∀ (r : Nat) (i n : Int) (L : List Int), 0 ≤ i → (L.length : Int) = n → o + i + r ≤ x.length → restN x (x.map D.int) o r i n (L.map D.int) = (lastL (cutsN x o r i n).2 (L ++ prt x (o + i) (o + i + r))).map D.int
 | 0, i, n, L, h0, hn, hx => by
  simp only [restN, cutsN]
  rw [prt_nil (by omega) (by omega), List.append_nil, last_all hn.symm]
 | r + 1, i, n, L, h0, hn, hx => by
  have hs := prt_step (x := x) (o := o + i) (t := o + i + ((r + 1 : Nat) : Int)) (by omega) (by omega) (by omega)
  have e : o + i + ((r + 1 : Nat) : Int) = o + (i + 1) + r := by omega
  have e1 : o + i + 1 = o + (i + 1) := by omega
  have hl := prt_length (x := x) (o := o + (i + 1)) (t := o + (i + 1) + r) (by omega) (by omega) (by omega)
  rw [restN, cutsN, hs, e, e1]
  by_cases c : endB x o (i + 1) (n + 1) = true
  ·rw [if_pos c, if_pos c]
   have ih := restN_last x ho r (i + 1) 0 [] (by omega) rfl (by omega)
   rw [List.map_nil, List.nil_append] at ih
   have hin := cutsN_in x o r (i + 1) 0 (by omega)
   rw [ih]
   congr 1
   exact last_cut3 (by omega)
  ·rw [if_neg c, if_neg c]
   have hm : L.map D.int ++ [(x.map D.int)[(o + i).toNat]?.getD (.int 0)] = (L ++ [x[(o + i).toNat]?.getD 0]).map D.int := by
    rw [getM, List.map_append]; rfl
   rw [hm, restN_last x ho r (i + 1) (n + 1) _ (by omega) (by rw [List.length_append, List.length_singleton]; omega) (by omega), List.append_assoc]
   rfl
theorem last_at {x : List Int} {a : Int} (ha : 0 ≤ a) (hx : a ≤ x.length) {m : Int} (h0 : 0 ≤ m) (h : m ≤ a) : lastL m (prt x 0 a) = prt x (a - m) a := by
 have := last_prt (x := x) (o := 0) (t := a) (Int.le_refl 0) h0 h (by omega)
 rw [Int.zero_add] at this
 exact this
def leftI (x : List Int) (a : Int) : List Int := lastL (cutsT x 0 a 0 0).2 (prt x 0 a)
theorem left_of (X : D) (a : Int) : F 22 (.list [X, .list [(.int 0), .list [(.int a), .list [(.int 0), .list [(.int 0), .list [(D.ofInts []), .int 0]]]]]]) = D.ofInts (leftI X.ints a) := by
 show D.ofInts (lastL _ ((D.ofInts []).ints ++ prt X.ints (0 + 0) (0 + a))) = _
 rw [D.ints_ofInts, List.nil_append, Int.add_zero, Int.zero_add]
 rfl
theorem ch_split {X : D} (hX : X.toList = X.ints.map D.int) {a t : Int} (h0 : 0 ≤ a) (h : a ≤ t) (hx : t ≤ X.ints.length) : chT X 0 t 0 0 (D.ofInts []) = chT X 0 a 0 0 (D.ofInts []) ++ chT X 0 t a (cutsT X.ints 0 a 0 0).2 (D.ofInts (leftI X.ints a)) := by
 have hr := restN_last X.ints (Int.le_refl 0) (a - 0).toNat 0 0 [] (Int.le_refl 0) rfl (by omega)
 rw [← hX, show (0 : Int) + 0 = 0 from rfl, show (0 : Int) + ((a - 0).toNat : Int) = a by omega, List.nil_append, List.map_nil] at hr
 have hs := chN_split X.ints X.toList 0 (a - 0).toNat (t - a).toNat 0 0 []
 rw [show (a - 0).toNat + (t - a).toNat = (t - 0).toNat by omega, show (0 : Int) + ((a - 0).toNat : Int) = a by omega, hr] at hs
 exact hs
theorem left_step {x : List Int} {a t : Int} (h0 : 0 ≤ a) (h : a ≤ t) (hx : t ≤ x.length) : lastL (cutsT x 0 t a (cutsT x 0 a 0 0).2).2 (leftI x a ++ prt x a t) = leftI x t := by
 have hi := cuts_in (x := x) (o := 0) (t := a) (i := 0) (n := 0) (Int.le_refl 0) h0
 have hj := cuts_in (x := x) (o := 0) (t := t) (i := a) (n := (cutsT x 0 a 0 0).2) hi.1 h
 have hs := cuts_split (x := x) (o := 0) h0 h
 unfold leftI
 rw [hs]
 simp only
 rw [last_at h0 (by omega) hi.1 (by omega), last_at (by omega) hx hj.1 (by omega), ← prt_app (by omega) (by omega) h (by omega)]
 have := last_prt (x := x) (o := a - (cutsT x 0 a 0 0).2) (t := (cutsT x 0 a 0 0).2 + (t - a)) (by omega) hj.1 (by omega) (by omega)
 rw [show a - (cutsT x 0 a 0 0).2 + ((cutsT x 0 a 0 0).2 + (t - a)) = t by omega] at this
 exact this
theorem left_len {x : List Int} {a : Int} (h0 : 0 ≤ a) (hx : a ≤ x.length) : ((leftI x a).length : Int) = (cutsT x 0 a 0 0).2 := by
 have hi := cuts_in (x := x) (o := 0) (t := a) (i := 0) (n := 0) (Int.le_refl 0) h0
 unfold leftI
 rw [last_at h0 hx hi.1 (by omega), prt_length (by omega) (by omega) hx]
 omega
theorem cutsN_sum (x : List Int) (o : Int) : ∀ (r : Nat) (i n : Int), sumL (cutsN x o r i n).1 + (cutsN x o r i n).2 = n + r
 | 0, i, n => by simp [cutsN, sumL]
 | r + 1, i, n => by
  rw [cutsN]
  split
  ·have := cutsN_sum x o r (i + 1) 0
   simp only [sumL]; omega
  ·have := cutsN_sum x o r (i + 1) (n + 1)
   omega
theorem cuts_none {x : List Int} {o t i n : Int} (h : i ≤ t) (h1 : ¬ 0 < (cutsT x o t i n).1.length) (h2 : ¬ 1 ≤ (cutsT x o t i n).2) (hn : 0 ≤ n) : t = i ∧ n = 0 := by
 have hs := cutsN_sum x o (t - i).toNat i n
 have hi := cuts_in (x := x) (o := o) (t := t) (i := i) (n := n) hn h
 unfold cutsT at h1 h2 hi
 have hz : (cutsN x o (t - i).toNat i n).1 = [] := List.eq_nil_of_length_eq_zero (by omega)
 rw [hz] at hs
 simp only [sumL] at hs
 omega
theorem canon {x : D} (h : x.code = (D.ofInts x.ints).code) : x.toList = x.ints.map D.int := by
 have := (D.code_inj x (D.ofInts x.ints) [] [] (by rw [h])).1
 rw [this]
 show _ = (D.ofInts x.ints).ints.map D.int
 rw [D.ints_ofInts]
 rfl
theorem cutsN_small (x : List Int) (o : Int) : ∀ (r : Nat) (i n : Int), n ≤ 1023 → (cutsN x o r i n).2 ≤ 1023
 | 0, i, n, h => h
 | r + 1, i, n, h => by
  rw [cutsN]
  split
  ·exact cutsN_small x o r (i + 1) 0 (by omega)
  ·rename_i c
   refine cutsN_small x o r (i + 1) (n + 1) ?_
   have : ¬ n + 1 = 1024 := fun e => c (by simp only [endB, decide_eq_true_eq]; exact .inl e)
   omega
theorem cuts_small {x : List Int} {o t i n : Int} (h : n ≤ 1023) : (cutsT x o t i n).2 ≤ 1023 := cutsN_small x o _ _ _ h
theorem left_fold (x : List Int) (a : Int) : lastL (cutsT x 0 a 0 0).2 (prt x 0 a) = leftI x a := rfl
theorem len_cuts {x : List Int} {o t i n : Int} (h : i ≤ t) : ((cutsT x o t i n).1.length : Int) ≤ t - i := by
 have key : ∀ (r : Nat) (i n : Int), (cutsN x o r i n).1.length ≤ r := by
  intro r
  induction r with
  | zero => intro i n; simp [cutsN]
  | succ r ih =>
   intro i n
   rw [cutsN]
   split
   ·have := ih (i + 1) 0
    simp only [List.length_cons]; omega
   ·have := ih (i + 1) (n + 1)
    omega
 have := key (t - i).toNat i n
 unfold cutsT
 omega
theorem fq : type_of% ((And.intro @F7 (And.intro @F9 (And.intro @F11 (And.intro @F20 (And.intro @F21 (And.intro @F22 (And.intro @F30 (And.intro @F40 (And.intro @F41 (And.intro @Int.add_zero (And.intro @Int.zero_add (And.intro @List.nil_append.{0} (And.intro @List.append_nil.{0} (And.intro @List.length_append.{0} (And.intro @D.ints_ofInts @left_fold)))))))))))))))) := (And.intro @F7 (And.intro @F9 (And.intro @F11 (And.intro @F20 (And.intro @F21 (And.intro @F22 (And.intro @F30 (And.intro @F40 (And.intro @F41 (And.intro @Int.add_zero (And.intro @Int.zero_add (And.intro @List.nil_append.{0} (And.intro @List.append_nil.{0} (And.intro @List.length_append.{0} (And.intro @D.ints_ofInts @left_fold)))))))))))))))
theorem left_nil {x : List Int} {a : Int} (h0 : 0 ≤ a) (hx : a ≤ x.length) (h : (cutsT x 0 a 0 0).2 = 0) : leftI x a = [] := List.eq_nil_of_length_eq_zero (by have := left_len (x := x) h0 hx; omega)
theorem leafs {X : D} {a t T M : Int} {K : List Int} (hX : X.toList = X.ints.map D.int) (h0 : 0 ≤ a) (h : a ≤ t) (hT : t ≤ T) (hx : (X.ints.length : Int) = T) (hM : (cutsT X.ints 0 a 0 0).2 = M) (hK : leftI X.ints a = K) :
  cutsT X.ints 0 t 0 0 = ((cutsT X.ints 0 a 0 0).1 ++ (cutsT X.ints 0 t a M).1, (cutsT X.ints 0 t a M).2) ∧ chT X 0 t 0 0 (D.ofInts []) = chT X 0 a 0 0 (D.ofInts []) ++ chT X 0 t a M (D.ofInts K) ∧ lastL (cutsT X.ints 0 t a M).2 (K ++ prt X.ints a t) = leftI X.ints t ∧ (K.length : Int) = M ∧
  cutsT X.ints 0 T 0 0 = ((cutsT X.ints 0 t 0 0).1 ++ (cutsT X.ints 0 T t (cutsT X.ints 0 t 0 0).2).1, (cutsT X.ints 0 T t (cutsT X.ints 0 t 0 0).2).2) ∧ (cutsT X.ints 0 t a M).2 ≤ 1023 ∧ ((cutsT X.ints 0 a 0 0).1.length : Int) ≤ a - 0 ∧ ((cutsT X.ints 0 t a M).1.length : Int) ≤ t - a ∧
  (cutsT X.ints 0 t 0 0).1.length = (cutsT X.ints 0 a 0 0).1.length + (cutsT X.ints 0 t a M).1.length ∧ (cutsT X.ints 0 t 0 0).2 = (cutsT X.ints 0 t a M).2 ∧ (cutsT X.ints 0 T 0 0).1.length = (cutsT X.ints 0 t 0 0).1.length + (cutsT X.ints 0 T t (cutsT X.ints 0 t 0 0).2).1.length ∧ (cutsT X.ints 0 T 0 0).2 = (cutsT X.ints 0 T t (cutsT X.ints 0 t 0 0).2).2 := by
 subst hM hK
 have hs := cuts_split (x := X.ints) (o := 0) h0 h
 have he := cuts_split (x := X.ints) (o := 0) (a := t) (by omega) hT
 have h1 := congrArg (fun p => p.1.length) hs
 have h2 := congrArg Prod.snd hs
 have h3 := congrArg (fun p => p.1.length) he
 have h4 := congrArg Prod.snd he
 simp only [List.length_append] at h1 h2 h3 h4
 exact ⟨hs, ch_split hX h0 h (by omega), left_step h0 h (by omega), left_len h0 (by omega), he, cuts_small (cuts_small (by omega)), len_cuts h0, len_cuts h, h1, h2, h3, h4⟩

abbrev dqHb (a b : E) (j : Int) : Duty := (true, .bi .sel a (.int j), .bi .sel b (.int j))
abbrev vu8Hb (a : E) (j : Int) : AV := .sint .u8 (.bi .sel a (.int j))
abbrev zHb11 : E := (.bi .add (.var 3) (.var 4))
abbrev txHb0 : E := (.bi .add zHb11 (.int 1))
abbrev txHb1 : E := (.bi .pair (.bi .add (.var 3) (.int 1)) (.int 0))
abbrev txHb2 : E := (.bi .pair (.bi .add (.var 6) (.int 1)) (.int 0))
abbrev zHb52 : E := (.bi .add (.var 4) (.int 1))
abbrev txHb3 : E := (.bi .pair zHb52 (.int 0))
abbrev txHb4 : E := (.un .code (.fn 41 (.bi .pair (.var 2) (.int 0))))
abbrev txHb5 : E := (.bi .pair (.int 0) (.bi .pair (.int 0) (.int 0)))
abbrev txHb6 : E := (.bi .pair (.var 15) (.bi .pair (.var 4) (.int 0)))
abbrev txHb7 : E := (.bi .pair (.int 0) (.bi .pair (.lits []) (.int 0)))
abbrev zHb40 : E := (.bi .add (.var 3) (.int 0))
abbrev txHb8 : E := (.bi .pair zHb40 (.bi .pair (.int 0) (.int 0)))
abbrev txHb9 : E := (.bi .pair (.int 0) (.bi .pair (.bi .add zHb40 (.int 1)) (.int 0)))
abbrev txHb10 : E := (.bi .pair (.int 0) (.bi .pair txHb0 (.int 0)))
abbrev txHb11 : E := (.bi .pair (.var 2) (.bi .pair (.int 0) txHb1))
abbrev txHb12 : E := (.bi .pair (.var 2) (.bi .pair (.int 0) txHb2))
abbrev txHb13 : E := (.bi .pair (.bi .sel (.var 17) (.var 0)) txHb3)
abbrev txHb14 : E := (.bi .pair zHb11 txHb5)
abbrev txHb15 : E := (.bi .pair (.int 0) (.bi .pair (.var 3) txHb5))
abbrev txHb16 : E := (.bi .pair (.int 0) (.bi .pair (.var 6) txHb5))
abbrev txHb17 : E := (.bi .pair zHb40 txHb7)
abbrev zHb49 : E := (.bi .pair (.int 0) txHb7)
abbrev txHb18 : E := (.bi .pair (.var 6) zHb49)
abbrev txHb19 : E := (.bi .pair (.var 3) zHb49)
abbrev txHb20 : E := (.bi .pair zHb11 txHb8)
abbrev txHb21 : E := (.bi .pair zHb11 zHb49)
abbrev zHb53 : E := (.bi .pair (.var 2) txHb15)
abbrev txHb22 : E := (.un .len (.fn 20 zHb53))
abbrev zHb54 : E := (.bi .pair (.var 2) txHb16)
abbrev txHb23 : E := (.un .len (.fn 20 zHb54))
abbrev txHb24 : E := (.bi .pair (.var 2) (.bi .pair (.int 0) txHb14))
abbrev txHb25 : E := (.bi .pair zHb11 txHb17)
abbrev txHb26 : E := (.bi .pair (.var 2) (.bi .pair (.int 0) txHb18))
abbrev txHb27 : E := (.bi .pair (.var 2) (.bi .pair (.int 0) txHb19))
abbrev zHb3 : E := (.bi .add (.var 3) (.fn 7 txHb13))
abbrev txHb28 : E := (.bi .add zHb3 (.int 1))
abbrev zHb15 : E := (.fn 21 zHb53)
abbrev txHb29 : E := (.bi .pair zHb15 (.int 0))
abbrev txHb30 : E := (.bi .pair (.var 2) (.bi .pair (.int 0) txHb20))
abbrev txHb31 : E := (.bi .pair (.var 2) (.bi .pair (.int 0) txHb21))
abbrev txHb32 : E := (.bi .pair (.var 2) (.bi .pair (.int 0) txHb25))
abbrev txHb33 : E := (.bi .pair (.int 0) (.bi .pair txHb28 (.int 0)))
abbrev txHb34 : E := (.bi .pair zHb3 txHb5)
abbrev txHb35 : E := (.bi .pair zHb40 txHb29)
abbrev txHb36 : E := (.bi .pair zHb3 txHb8)
abbrev txHb37 : E := (.bi .pair zHb3 zHb49)
abbrev txHb38 : E := (.bi .pair (.var 2) (.bi .pair (.int 0) txHb34))
abbrev txHb39 : E := (.bi .pair zHb3 txHb17)
abbrev txHb40 : E := (.bi .pair zHb11 txHb35)
abbrev txHb41 : E := (.bi .pair (.var 2) (.bi .pair (.int 0) txHb36))
abbrev txHb42 : E := (.bi .pair (.var 2) (.bi .pair (.int 0) txHb37))
abbrev txHb43 : E := (.bi .pair (.var 2) (.bi .pair (.int 0) txHb39))
abbrev txHb44 : E := (.bi .pair (.var 2) (.bi .pair (.int 0) txHb40))
abbrev txHb45 : E := (.bi .pair zHb15 (.bi .pair (.fn 22 txHb27) (.int 0)))
abbrev txHb46 : E := (.bi .pair zHb3 txHb35)
abbrev txHb47 : E := (.bi .pair zHb40 txHb45)
abbrev txHb48 : E := (.un .code (.bi .app (.fn 30 txHb27) (.fn 30 txHb32)))
abbrev txHb49 : E := (.bi .pair (.var 2) (.bi .pair (.int 0) txHb46))
abbrev zHb14 : E := (.un .len (.fn 30 txHb27))
abbrev zHb46 : E := (.un .len (.fn 30 txHb32))
abbrev txHb50 : E := (.bi .add zHb14 zHb46)
abbrev txHb51 : E := (.bi .pair zHb11 txHb47)
abbrev txHb52 : E := (.bi .pair (.var 2) (.bi .pair (.int 0) txHb51))
abbrev txHb53 : E := (.un .code (.bi .app (.fn 30 txHb27) (.fn 30 txHb43)))
abbrev zHb45 : E := (.un .len (.fn 30 txHb43))
abbrev txHb54 : E := (.bi .add zHb14 zHb45)
abbrev txHb55 : E := (.bi .pair zHb3 txHb47)
abbrev txHb56 : E := (.bi .pair (.var 2) (.bi .pair (.int 0) txHb55))
abbrev txHb57 : E := (.un .code (.bi .app (.fn 30 txHb27) (.fn 30 txHb52)))
abbrev zHb48 : E := (.un .len (.fn 30 txHb52))
abbrev txHb58 : E := (.bi .add zHb14 zHb48)
abbrev txHb59 : E := (.un .code (.bi .app (.fn 30 txHb27) (.fn 30 txHb56)))
abbrev zHb47 : E := (.un .len (.fn 30 txHb56))
abbrev txHb60 : E := (.bi .add zHb14 zHb47)
abbrev zHb19 : E := (.fn 21 zHb54)
abbrev zHb0 : Nat × RW := (1, .cells 52 0 false false [.ptr 1 0, .bool true, vu8Hb (.fn 9 txHb12) 0, vu8Hb (.fn 9 txHb12) 1, vu8Hb (.fn 9 txHb12) 2, vu8Hb (.fn 9 txHb12) 3, vu8Hb (.fn 9 txHb12) 4, vu8Hb (.fn 9 txHb12) 5, vu8Hb (.fn 9 txHb12) 6, vu8Hb (.fn 9 txHb12) 7, vu8Hb (.fn 9 txHb12) 8, vu8Hb (.fn 9 txHb12) 9, vu8Hb (.fn 9 txHb12) 10, vu8Hb (.fn 9 txHb12) 11, vu8Hb (.fn 9 txHb12) 12, vu8Hb (.fn 9 txHb12) 13, vu8Hb (.fn 9 txHb12) 14, vu8Hb (.fn 9 txHb12) 15, .sint .i64 (.var 6), .sint .u32 (.fn 11 txHb12), .sslice 3 (.int 0) zHb19 zHb19 true, .bool false])
abbrev zHb1 : E := (.bi .pair (.var 2) txHb33)
abbrev zHb2 : Nat × RW := (1, .cells 52 0 false false [.ptr 1 0, .bool true, vu8Hb (.var 7) 0, vu8Hb (.var 7) 1, vu8Hb (.var 7) 2, vu8Hb (.var 7) 3, vu8Hb (.var 7) 4, vu8Hb (.var 7) 5, vu8Hb (.var 7) 6, vu8Hb (.var 7) 7, vu8Hb (.var 7) 8, vu8Hb (.var 7) 9, vu8Hb (.var 7) 10, vu8Hb (.var 7) 11, vu8Hb (.var 7) 12, vu8Hb (.var 7) 13, vu8Hb (.var 7) 14, vu8Hb (.var 7) 15, .sint .i64 (.var 3), .sint .u32 (.var 9), .sslice 3 (.int 0) zHb15 zHb15 true, .bool false])
abbrev zHb4 : E := (.bi .add (.var 0) (.int 1))
abbrev zHb5 : E := (.bi .sub (.var 14) (.fn 7 txHb13))
abbrev zHb6 : E := (.bi .sub (.var 4) (.fn 7 txHb13))
abbrev zHb7 : Nat × RW := (1, .cells 52 0 false false [.ptr 1 0, .bool true, vu8Hb (.var 7) 0, vu8Hb (.var 7) 1, vu8Hb (.var 7) 2, vu8Hb (.var 7) 3, vu8Hb (.var 7) 4, vu8Hb (.var 7) 5, vu8Hb (.var 7) 6, vu8Hb (.var 7) 7, vu8Hb (.var 7) 8, vu8Hb (.var 7) 9, vu8Hb (.var 7) 10, vu8Hb (.var 7) 11, vu8Hb (.var 7) 12, vu8Hb (.var 7) 13, vu8Hb (.var 7) 14, vu8Hb (.var 7) 15, .sint .i64 (.var 3), .sint .u32 (.var 9), .nilslice, .bool false])
abbrev zHb8 : Nat × RW := (1, .cells 52 0 false false [.ptr 1 0, .bool true, vu8Hb (.fn 9 txHb12) 0, vu8Hb (.fn 9 txHb12) 1, vu8Hb (.fn 9 txHb12) 2, vu8Hb (.fn 9 txHb12) 3, vu8Hb (.fn 9 txHb12) 4, vu8Hb (.fn 9 txHb12) 5, vu8Hb (.fn 9 txHb12) 6, vu8Hb (.fn 9 txHb12) 7, vu8Hb (.fn 9 txHb12) 8, vu8Hb (.fn 9 txHb12) 9, vu8Hb (.fn 9 txHb12) 10, vu8Hb (.fn 9 txHb12) 11, vu8Hb (.fn 9 txHb12) 12, vu8Hb (.fn 9 txHb12) 13, vu8Hb (.fn 9 txHb12) 14, vu8Hb (.fn 9 txHb12) 15, .sint .i64 (.var 6), .sint .u32 (.fn 11 txHb12), .nilslice, .bool false])
abbrev zHb9 : E := (.un .len (.fn 30 txHb42))
abbrev zHb10 : E := (.bi .pair (.var 2) txHb10)
abbrev zHb12 : Duty := (true, (.fn 21 txHb41), (.fn 21 txHb38))
abbrev zHb13 : Duty := (true, (.fn 21 txHb49), (.fn 21 txHb38))
abbrev zHb16 : E := (.un .len (.fn 30 txHb31))
abbrev zHb17 : E := (.bi .sub (.var 14) (.var 4))
abbrev zHb18 : Nat × RW := (11, .vseq ⟨22, (.sl (.int .u8)), .un .len (.fn 30 txHb26), .fn 30 txHb26, true⟩)
abbrev zHb20 : E := (.un .code (.fn 30 txHb42))
abbrev zHb21 : E := (.un .len (.fn 30 txHb26))
abbrev zHb22 : Nat × RW := (3, .seq ⟨5, .u8, .fn 21 zHb54, .fn 22 txHb26, true, false⟩)
abbrev zHb23 : Duty := (true, (.fn 21 txHb30), (.fn 21 txHb24))
abbrev zHb24 : Duty := (true, (.fn 21 txHb44), (.fn 21 txHb24))
abbrev zHb25 : Duty := (true, zHb45, zHb9)
abbrev zHb26 : Duty := (true, zHb47, zHb9)
abbrev zHb27 : Nat × RW := (3, .seq ⟨5, .u8, .fn 21 zHb53, .fn 22 txHb27, true, false⟩)
abbrev zHb28 : Duty := (false, (.fn 22 txHb43), (.fn 22 txHb42))
abbrev zHb29 : Duty := (false, (.fn 22 txHb56), (.fn 22 txHb42))
abbrev zHb30 : Nat × RW := (19, .eseq ⟨.i64, .var 15, .var 17⟩)
abbrev zHb31 : E := (.fn 40 (.bi .pair (.var 0) txHb6))
abbrev zHb32 : Nat × RW := (17, .eseq ⟨.u8, .var 6, .var 2⟩)
abbrev zHb33 : Nat × RW := (11, .vseq ⟨22, (.sl (.int .u8)), .un .len (.fn 30 txHb27), .fn 30 txHb27, true⟩)
abbrev zHb34 : E := (.un .code (.fn 30 txHb31))
abbrev zHb35 : E := (.un .code (.fn 30 txHb27))
abbrev zHb36 : E := (.bi .add (.var 15) (.int 1))
abbrev zHb37 : Duty := (true, zHb46, zHb16)
abbrev zHb38 : Duty := (true, zHb48, zHb16)
abbrev zHb39 : E := (.bi (.iop .rem .i64) (.var 0) (.var 1))
abbrev zHb41 : Duty := (false, (.un .code (.fn 30 txHb43)), zHb20)
abbrev zHb42 : Duty := (false, (.un .code (.fn 30 txHb56)), zHb20)
abbrev zHb43 : Duty := (false, (.fn 22 txHb32), (.fn 22 txHb31))
abbrev zHb44 : Duty := (false, (.fn 22 txHb52), (.fn 22 txHb31))
abbrev zHb50 : E := (.fn 7 (.bi .pair (.var 0) (.bi .pair (.var 1) (.int 0))))
abbrev zHb51 : Duty := (true, (.var 9), (.fn 11 txHb12))
abbrev zHb55 : Duty := (true, (.var 3), (.var 6))
def pickC : CSpec := { args := [.sint .i64 (.var 0), .sint .i64 (.var 1)], next := 0, rows := [], pre := [(.le (.int 1) (.var 1), true)], res := .sint .i64 (.fn 7 (argsE [.var 0, .var 1])), frows := [], same := [] }
abbrev asHb0 : Q × Bool := ((.le (.int 1) (.var 1)), true)
abbrev asHb1 : Q × Bool := ((.eq (.var 1) (.int 0)), false)
abbrev asHb2 : Q × Bool := ((.le (.int 0) zHb39), true)
def pickC_t0 : List (Q × Bool) := [asHb0, asHb1, asHb2]
def pickC_d0 : List Duty := [(true, zHb39, zHb50)]
theorem pickC_y0 : endC pickC [] 1000 (callC Try.prog (tellA pickC_t0) [] [] [] 3000 40 7 pickC) = some pickC_d0 := by kernel_rfl
abbrev asHb3 : Q × Bool := ((.le (.int 0) zHb39), false)
abbrev asHb4 : Q × Bool := ((.fit .i64 (.bi .add zHb39 (.var 1))), true)
def pickC_t1 : List (Q × Bool) := [asHb0, asHb1, asHb3, asHb4]
def pickC_d1 : List Duty := [(true, (.bi .add zHb39 (.var 1)), zHb50)]
theorem pickC_y1 : endC pickC [] 1000 (callC Try.prog (tellA pickC_t1) [] [] [] 3000 40 7 pickC) = some pickC_d1 := by kernel_rfl
theorem pickC_holds : CHolds Try.prog 7 pickC F := by
 refine cholds_of sound (tableNil _ _) (specsNil _ _) (oversNil _ _) (fuel := 3000) (depth := 40) (by kernel_rfl) fun d hp hR hA => ?_
 have hp := allTold'_iff.2 hp
 simp only [pickC, tl] at hp hR hA
 have e1 := emod_in (x := (d 0).toInt) hp
 have e2 := tmod_or .i64 (x := (d 0).toInt) hp
 by_cases h : 0 ≤ iopI .rem .i64 (d 0).toInt (d 1).toInt
 ·refine ⟨tellA pickC_t0, _, _, _, tellA_ok (allTold'_iff.1 ?_), pickC_y0, dutiesTold_ok ?_⟩
  ·simp only [pickC_t0, tl]
   omega
  ·simp only [pickC_d0, F7, tl]
   omega
 ·refine ⟨tellA pickC_t1, _, _, _, tellA_ok (allTold'_iff.1 ?_), pickC_y1, dutiesTold_ok ?_⟩
  ·simp only [pickC_t1, tl]
   omega
  ·simp only [pickC_d1, F7, tl]
   omega

def qA00 : LSpec := { n := 93, next := 10, pat := [(0, .sslice 17 (.int 0) (.var 6) (.var 13) false), (1, .sslice 19 (.int 0) (.var 15) (.var 16) false), (6, .ptr 1 0), (7, .nilslice), (8, .sslice 17 (.var 3) (.var 4) (.var 14) false), (9, .sint .i64 (.var 0))], rows := [zHb7, zHb32, zHb30], pre := [(.le (.int 0) (.var 0), true), (.le (.var 0) zHb36, true), (.eq zHb31 (.int 1), true), (.le (.var 15) (.int 100), true), (.le (.var 6) (.int 8000), true), (.le (.int 1) (.var 6), true), (.le (.int 0) (.var 3), true), (.le (.int 0) (.var 4), true), (.eq zHb11 (.var 6), true), (.le (.var 4) (.var 14), true), (.same (.un .code (.var 2)) txHb4, true), (.same (.var 7) (.fn 9 txHb11), true), (.eq (.var 9) (.fn 11 txHb11), true), (.le (.int 1) zHb15, false), (.le (.int 1) txHb22, false), (.le (.int 1) zHb19, true), (.le (.int 1) txHb23, false)], x := 0, fin := [(0, .sslice 17 (.int 0) (.var 6) (.var 13) false), (6, .ptr 1 0), (7, .nilslice)], frows := [zHb0, zHb22], same := [1, 17], chg := [0, 1, 6, 7, 8, 9, 10, 11, 12, 29, 30, 31, 32, 33, 34, 35, 36, 37, 38, 39, 40, 41, 42, 43, 44, 45, 46, 47, 48, 49, 50, 51, 52, 53, 54, 55, 56, 57, 58, 59, 60, 61, 62, 63, 64, 65, 66, 67, 68, 69] }
def qA10 : LSpec := { n := 93, next := 10, pat := [(0, .sslice 17 (.int 0) (.var 6) (.var 13) false), (1, .sslice 19 (.int 0) (.var 15) (.var 16) false), (6, .ptr 1 0), (7, .nilslice), (8, .sslice 17 (.var 3) (.var 4) (.var 14) false), (9, .sint .i64 (.var 0))], rows := [zHb2, zHb32, zHb30, zHb27], pre := [(.le (.int 0) (.var 0), true), (.le (.var 0) zHb36, true), (.eq zHb31 (.int 1), true), (.le (.var 15) (.int 100), true), (.le (.var 6) (.int 8000), true), (.le (.int 1) (.var 6), true), (.le (.int 0) (.var 3), true), (.le (.int 0) (.var 4), true), (.eq zHb11 (.var 6), true), (.le (.var 4) (.var 14), true), (.same (.un .code (.var 2)) txHb4, true), (.same (.var 7) (.fn 9 txHb11), true), (.eq (.var 9) (.fn 11 txHb11), true), (.le (.int 1) zHb15, true), (.le (.int 1) txHb22, false), (.le (.int 1) zHb19, true), (.le (.int 1) txHb23, false)], x := 0, fin := [(0, .sslice 17 (.int 0) (.var 6) (.var 13) false), (6, .ptr 1 0), (7, .nilslice)], frows := [zHb0, zHb22], same := [1, 17], chg := [0, 1, 6, 7, 8, 9, 10, 11, 12, 29, 30, 31, 32, 33, 34, 35, 36, 37, 38, 39, 40, 41, 42, 43, 44, 45, 46, 47, 48, 49, 50, 51, 52, 53, 54, 55, 56, 57, 58, 59, 60, 61, 62, 63, 64, 65, 66, 67, 68, 69] }
def qA : Nat → LSpec
 | 0 => qA00
 | _ => qA10
abbrev asHb5 : Q × Bool := ((.fit .i64 (.var 15)), true)
abbrev asHb6 : Q × Bool := ((.le (.var 0) (.var 15)), true)
abbrev asHb7 : Q × Bool := ((.fit .i64 (.var 4)), true)
abbrev asHb8 : Q × Bool := ((.le (.var 15) (.var 0)), false)
abbrev asHb9 : Q × Bool := ((.le (.int 0) (.var 0)), true)
abbrev asHb10 : Q × Bool := ((.fit .i64 zHb52), true)
abbrev asHb11 : Q × Bool := ((.le (.int 1) zHb52), true)
abbrev asHb12 : Q × Bool := ((.le (.int 0) (.fn 7 txHb13)), true)
abbrev asHb13 : Q × Bool := ((.le (.fn 7 txHb13) (.var 14)), true)
abbrev asHb14 : Q × Bool := ((.fit .i64 (.fn 7 txHb13)), true)
abbrev asHb15 : Q × Bool := ((.le (.int 0) (.var 3)), true)
abbrev asHb16 : Q × Bool := ((.le zHb3 (.var 6)), true)
abbrev asHb17 : Q × Bool := ((.le zHb3 (.int 20000)), true)
abbrev asHb18 : Q × Bool := ((.same (.var 7) (.fn 9 (.bi .pair (.var 2) txHb9))), true)
abbrev asHb19 : Q × Bool := ((.eq (.var 3) zHb40), true)
abbrev asHb20 : Q × Bool := ((.eq (.var 9) (.fn 11 (.bi .pair (.var 2) txHb9))), true)
abbrev asHb21 : Q × Bool := ((.le (.int 1) (.fn 21 txHb41)), false)
abbrev asHb22 : Q × Bool := ((.le (.int 1) (.un .len (.fn 20 txHb41))), false)
abbrev asHb23 : Q × Bool := ((.le (.fn 7 txHb13) (.int 0)), true)
abbrev asHb24 : Q × Bool := ((.le (.fn 7 txHb13) (.var 4)), true)
abbrev asHb25 : Q × Bool := ((.le (.var 4) (.var 14)), true)
abbrev asHb26 : Q × Bool := ((.fit .i64 zHb4), true)
def qA00_t0 : List (Q × Bool) := [asHb5, asHb6, asHb7, asHb8, asHb9, asHb10, asHb11, asHb12, asHb13, asHb14, asHb15, asHb16, asHb17, asHb18, asHb19, asHb20, asHb21, asHb22, asHb23, asHb24, asHb25, asHb26]
def qA00_d0 : List Duty := []
def qA00_h0 : List (Nat × E) := [(17, (.var 17)), (2, (.var 2)), (9, (.fn 11 zHb1)), (7, (.fn 9 zHb1)), (0, zHb4), (3, zHb3), (4, zHb6), (14, zHb5), (15, (.var 15)), (16, (.var 16)), (6, (.var 6)), (13, (.var 13))]
theorem qA00_h0_a : lookE qA00_h0 0 = zHb4 ∧ lookE qA00_h0 2 = (.var 2) ∧ lookE qA00_h0 3 = zHb3 ∧ lookE qA00_h0 4 = zHb6 ∧ lookE qA00_h0 6 = (.var 6) ∧ lookE qA00_h0 7 = (.fn 9 zHb1) ∧ lookE qA00_h0 9 = (.fn 11 zHb1) ∧ lookE qA00_h0 13 = (.var 13) ∧ lookE qA00_h0 14 = zHb5 ∧ lookE qA00_h0 15 = (.var 15) ∧ lookE qA00_h0 16 = (.var 16) ∧ lookE qA00_h0 17 = (.var 17) := ⟨rfl, rfl, rfl, rfl, rfl, rfl, rfl, rfl, rfl, rfl, rfl, rfl⟩
noncomputable abbrev ltHb0 : List LEntry := [⟨26, [4, 1], jA00⟩, ⟨26, [4, 1], jA10⟩, ⟨26, [4, 1], jB00⟩, ⟨26, [4, 1], jB10⟩, ⟨26, [4, 1], jC00⟩, ⟨26, [4, 1], jC10⟩, ⟨26, [4, 1], jD00⟩]
theorem qA00_y0 : nextJ (qA 0) (qA 0) qA00_h0 [(1, 1), (19, 19), (17, 17)] (roundC Try.prog ltHb0 [(7, pickC)] [] 3000 40 3 [4, 1, 0, 1, 1, 1, 1, 1, 1, 1] (tellA qA00_t0) (qA 0)) = some qA00_d0 := by kernel_rfl
abbrev asHb27 : Q × Bool := ((.le (.int 1) (.fn 21 txHb41)), true)
abbrev asHb28 : Q × Bool := ((.fit .i64 (.fn 21 txHb41)), true)
abbrev asHb29 : Q × Bool := ((.le (.fn 21 txHb41) (.int 1024)), true)
def qA00_t1 : List (Q × Bool) := [asHb5, asHb6, asHb7, asHb8, asHb9, asHb10, asHb11, asHb12, asHb13, asHb14, asHb15, asHb16, asHb17, asHb18, asHb19, asHb20, asHb27, asHb22, asHb28, asHb29, asHb24, asHb25, asHb26]
def qA00_d1 : List Duty := [zHb12, zHb12, zHb12, zHb28]
def qA00_h1 : List (Nat × E) := [(17, (.var 17)), (2, (.var 2)), (9, (.fn 11 zHb1)), (7, (.fn 9 zHb1)), (0, zHb4), (3, zHb3), (4, zHb6), (14, zHb5), (15, (.var 15)), (16, (.var 16)), (6, (.var 6)), (13, (.var 13))]
theorem qA00_h1_a : lookE qA00_h1 0 = zHb4 ∧ lookE qA00_h1 2 = (.var 2) ∧ lookE qA00_h1 3 = zHb3 ∧ lookE qA00_h1 4 = zHb6 ∧ lookE qA00_h1 6 = (.var 6) ∧ lookE qA00_h1 7 = (.fn 9 zHb1) ∧ lookE qA00_h1 9 = (.fn 11 zHb1) ∧ lookE qA00_h1 13 = (.var 13) ∧ lookE qA00_h1 14 = zHb5 ∧ lookE qA00_h1 15 = (.var 15) ∧ lookE qA00_h1 16 = (.var 16) ∧ lookE qA00_h1 17 = (.var 17) := ⟨rfl, rfl, rfl, rfl, rfl, rfl, rfl, rfl, rfl, rfl, rfl, rfl⟩
theorem qA00_y1 : nextJ (qA 0) (qA 1) qA00_h1 [(3, 31), (1, 1), (19, 19), (17, 17)] (roundC Try.prog ltHb0 [(7, pickC)] [] 3000 40 3 [4, 1, 0, 1, 1, 1, 1, 1, 1, 1] (tellA qA00_t1) (qA 0)) = some qA00_d1 := by kernel_rfl
abbrev asHb30 : Q × Bool := ((.le (.var 15) (.var 0)), true)
abbrev asHb31 : Q × Bool := ((.le (.int 0) (.var 4)), true)
abbrev asHb32 : Q × Bool := ((.le zHb11 (.var 6)), true)
abbrev asHb33 : Q × Bool := ((.le zHb11 (.int 20000)), true)
abbrev asHb34 : Q × Bool := ((.le (.int 1) (.fn 21 txHb30)), true)
abbrev asHb35 : Q × Bool := ((.le (.int 1) (.un .len (.fn 20 txHb30))), false)
abbrev asHb36 : Q × Bool := ((.fit .i64 (.fn 21 txHb30)), true)
abbrev asHb37 : Q × Bool := ((.le (.fn 21 txHb30) (.int 1024)), true)
def qA00_t2 : List (Q × Bool) := [asHb5, asHb6, asHb7, asHb30, asHb31, asHb25, asHb15, asHb32, asHb33, asHb18, asHb19, asHb20, asHb34, asHb35, asHb36, asHb37, asHb26]
def qA00_d2 : List Duty := [zHb23, zHb23, zHb23, zHb43]
def qA00_h2 : List (Nat × E) := [(17, (.var 17)), (2, (.var 2)), (9, (.fn 11 zHb10)), (7, (.fn 9 zHb10)), (0, zHb4), (3, zHb11), (4, (.int 0)), (14, zHb17), (15, (.var 15)), (16, (.var 16)), (6, (.var 6)), (13, (.var 13))]
theorem qA00_h2_a : lookE qA00_h2 0 = zHb4 ∧ lookE qA00_h2 2 = (.var 2) ∧ lookE qA00_h2 3 = zHb11 ∧ lookE qA00_h2 4 = (.int 0) ∧ lookE qA00_h2 6 = (.var 6) ∧ lookE qA00_h2 7 = (.fn 9 zHb10) ∧ lookE qA00_h2 9 = (.fn 11 zHb10) ∧ lookE qA00_h2 13 = (.var 13) ∧ lookE qA00_h2 14 = zHb17 ∧ lookE qA00_h2 15 = (.var 15) ∧ lookE qA00_h2 16 = (.var 16) ∧ lookE qA00_h2 17 = (.var 17) := ⟨rfl, rfl, rfl, rfl, rfl, rfl, rfl, rfl, rfl, rfl, rfl, rfl⟩
theorem qA00_y2 : nextJ (qA 0) (qA 1) qA00_h2 [(3, 31), (1, 1), (19, 19), (17, 17)] (roundC Try.prog ltHb0 [(7, pickC)] [] 3000 40 3 [4, 1, 0, 1, 1, 1, 1, 1, 1, 1] (tellA qA00_t2) (qA 0)) = some qA00_d2 := by kernel_rfl
abbrev asHb38 : Q × Bool := ((.le (.int 1) zHb15), true)
abbrev asHb39 : Q × Bool := ((.le zHb15 (.int 1023)), true)
abbrev asHb40 : Q × Bool := ((.le zHb15 zHb40), true)
abbrev asHb41 : Q × Bool := ((.le (.int 1) (.fn 21 txHb49)), true)
abbrev asHb42 : Q × Bool := ((.le (.int 1) (.un .len (.fn 20 txHb49))), false)
abbrev asHb43 : Q × Bool := ((.fit .i64 (.fn 21 txHb49)), true)
abbrev asHb44 : Q × Bool := ((.le (.fn 21 txHb49) (.int 1024)), true)
def qA10_t0 : List (Q × Bool) := [asHb5, asHb6, asHb7, asHb8, asHb9, asHb10, asHb11, asHb12, asHb13, asHb14, asHb15, asHb16, asHb17, asHb18, asHb19, asHb20, asHb38, asHb39, asHb40, asHb41, asHb42, asHb43, asHb44, asHb24, asHb25, asHb26]
def qA10_d0 : List Duty := [zHb13, zHb13, zHb13, zHb29]
def qA10_h0 : List (Nat × E) := [(17, (.var 17)), (2, (.var 2)), (9, (.fn 11 zHb1)), (7, (.fn 9 zHb1)), (0, zHb4), (3, zHb3), (4, zHb6), (14, zHb5), (15, (.var 15)), (16, (.var 16)), (6, (.var 6)), (13, (.var 13))]
theorem qA10_h0_a : lookE qA10_h0 0 = zHb4 ∧ lookE qA10_h0 2 = (.var 2) ∧ lookE qA10_h0 3 = zHb3 ∧ lookE qA10_h0 4 = zHb6 ∧ lookE qA10_h0 6 = (.var 6) ∧ lookE qA10_h0 7 = (.fn 9 zHb1) ∧ lookE qA10_h0 9 = (.fn 11 zHb1) ∧ lookE qA10_h0 13 = (.var 13) ∧ lookE qA10_h0 14 = zHb5 ∧ lookE qA10_h0 15 = (.var 15) ∧ lookE qA10_h0 16 = (.var 16) ∧ lookE qA10_h0 17 = (.var 17) := ⟨rfl, rfl, rfl, rfl, rfl, rfl, rfl, rfl, rfl, rfl, rfl, rfl⟩
theorem qA10_y0 : nextJ (qA 1) (qA 1) qA10_h0 [(3, 31), (1, 1), (19, 19), (17, 17)] (roundC Try.prog ltHb0 [(7, pickC)] [] 3000 40 3 [4, 1, 0, 1, 1, 1, 1, 1, 1, 1] (tellA qA10_t0) (qA 1)) = some qA10_d0 := by kernel_rfl
abbrev asHb45 : Q × Bool := ((.le (.int 1) (.fn 21 txHb44)), true)
abbrev asHb46 : Q × Bool := ((.le (.int 1) (.un .len (.fn 20 txHb44))), false)
abbrev asHb47 : Q × Bool := ((.fit .i64 (.fn 21 txHb44)), true)
abbrev asHb48 : Q × Bool := ((.le (.fn 21 txHb44) (.int 1024)), true)
def qA10_t1 : List (Q × Bool) := [asHb5, asHb6, asHb7, asHb30, asHb31, asHb25, asHb15, asHb32, asHb33, asHb18, asHb19, asHb20, asHb38, asHb39, asHb40, asHb45, asHb46, asHb47, asHb48, asHb26]
def qA10_d1 : List Duty := [zHb24, zHb24, zHb24, zHb44]
def qA10_h1 : List (Nat × E) := [(17, (.var 17)), (2, (.var 2)), (9, (.fn 11 zHb10)), (7, (.fn 9 zHb10)), (0, zHb4), (3, zHb11), (4, (.int 0)), (14, zHb17), (15, (.var 15)), (16, (.var 16)), (6, (.var 6)), (13, (.var 13))]
theorem qA10_h1_a : lookE qA10_h1 0 = zHb4 ∧ lookE qA10_h1 2 = (.var 2) ∧ lookE qA10_h1 3 = zHb11 ∧ lookE qA10_h1 4 = (.int 0) ∧ lookE qA10_h1 6 = (.var 6) ∧ lookE qA10_h1 7 = (.fn 9 zHb10) ∧ lookE qA10_h1 9 = (.fn 11 zHb10) ∧ lookE qA10_h1 13 = (.var 13) ∧ lookE qA10_h1 14 = zHb17 ∧ lookE qA10_h1 15 = (.var 15) ∧ lookE qA10_h1 16 = (.var 16) ∧ lookE qA10_h1 17 = (.var 17) := ⟨rfl, rfl, rfl, rfl, rfl, rfl, rfl, rfl, rfl, rfl, rfl, rfl⟩
theorem qA10_y1 : nextJ (qA 1) (qA 1) qA10_h1 [(3, 31), (1, 1), (19, 19), (17, 17)] (roundC Try.prog ltHb0 [(7, pickC)] [] 3000 40 3 [4, 1, 0, 1, 1, 1, 1, 1, 1, 1] (tellA qA10_t1) (qA 1)) = some qA10_d1 := by kernel_rfl
abbrev asHb49 : Q × Bool := ((.le (.var 0) (.var 15)), false)
def qA10_t2 : List (Q × Bool) := [asHb5, asHb49]
def qA10_d2 : List Duty := [dqHb (.var 7) (.fn 9 txHb12) 0, dqHb (.var 7) (.fn 9 txHb12) 1, dqHb (.var 7) (.fn 9 txHb12) 2, dqHb (.var 7) (.fn 9 txHb12) 3, dqHb (.var 7) (.fn 9 txHb12) 4, dqHb (.var 7) (.fn 9 txHb12) 5, dqHb (.var 7) (.fn 9 txHb12) 6, dqHb (.var 7) (.fn 9 txHb12) 7, dqHb (.var 7) (.fn 9 txHb12) 8, dqHb (.var 7) (.fn 9 txHb12) 9, dqHb (.var 7) (.fn 9 txHb12) 10, dqHb (.var 7) (.fn 9 txHb12) 11, dqHb (.var 7) (.fn 9 txHb12) 12, dqHb (.var 7) (.fn 9 txHb12) 13, dqHb (.var 7) (.fn 9 txHb12) 14, dqHb (.var 7) (.fn 9 txHb12) 15, zHb55, zHb51, (true, zHb15, zHb19), (true, zHb15, zHb19), (true, zHb15, zHb19), (false, (.fn 22 txHb27), (.fn 22 txHb26))]
theorem qA10_y2 : endD (qA 1) [(3, 3), (1, 1), (17, 17)] 1000 (roundC Try.prog ltHb0 [(7, pickC)] [] 3000 40 3 [4, 1, 0, 1, 1, 1, 1, 1, 1, 1] (tellA qA10_t2) (qA 1)) = some qA10_d2 := by kernel_rfl
set_option maxHeartbeats 16000000 in
theorem qA_holds : ∀ i, i < 2 → LHolds Try.prog (loopAt Try.prog 3 [4, 1, 0, 1, 1, 1, 1, 1, 1, 1]) (qA i) F := by
 refine loop_famC sound (tableCons jA00_holds (tableCons jA10_holds (tableCons jB00_holds (tableCons jB10_holds (tableCons jC00_holds (tableCons jC10_holds (tableCons jD00_holds (tableNil _ _)))))))) (specsCons pickC_holds (specsNil _ _)) (oversNil _ _) (fuel := 3000) (depth := 40) (by kernel_rfl) (fun i d => match i with | 0 => ((d 15).toInt + 1 - (d 0).toInt).toNat | _ => ((d 15).toInt + 1 - (d 0).toInt).toNat) ?_
 intro i hi d hp hR hA
 match i, hi with
 | 0, _ =>
   have hp := allTold'_iff.2 hp
   simp only [qA, qA00, tl] at hp hR hA
   simp only [F9, F11, F20, F21, F40, F41, D.toInt_int, D.ints_ofInts, UO.den] at hp
   obtain ⟨p0, p1, p2, p3, p4, p5, p6, p7, p8, p9, p10, p11, p12, p13, p14, p15, p16⟩ := hp
   have p2 := one_of p2
   have hX := canon p10
   have hxl : (d 2).ints.length = (d 6).toInt := by omega
   have hm := cuts_in (x := (d 2).ints) (o := 0) (t := (d 3).toInt) (i := 0) (n := 0) (Int.le_refl 0) p6
   have hm9 := cuts_small (x := (d 2).ints) (o := 0) (t := (d 3).toInt) (i := 0) (n := 0) (by omega)
   have m0 : (cutsT (d 2).ints 0 (d 3).toInt 0 0).2 = 0 := by omega
   by_cases hx : (d 0).toInt ≤ (d 15).toInt
   ·by_cases hi : (d 15).toInt ≤ (d 0).toInt
    ·have ht0 : 0 ≤ (d 4).toInt := by omega
     have ht1 : (d 3).toInt + (d 4).toInt ≤ (d 6).toInt := by omega
     obtain ⟨hs, hc, hl, hk, he, hm8, hn1, hn2, h1, h2, h3, h4⟩ := leafs (t := (d 3).toInt + (d 4).toInt) hX p6 (by omega) ht1 hxl m0 (left_nil p6 (by omega) m0)
     rw [List.nil_append] at hl
     have q15 := p15
     have q16 := p16
     rw [← p8] at q15 q16
     have hg0 : chT (d 2) 0 (d 3).toInt 0 0 (D.ofInts []) = [] := List.eq_nil_of_length_eq_zero (by rw [ch_len]; omega)
     by_cases ha : 1 ≤ (cutsT (d 2).ints 0 ((d 3).toInt + (d 4).toInt) (d 3).toInt 0).2
     ·by_cases hb : 0 < (cutsT (d 2).ints 0 ((d 3).toInt + (d 4).toInt) (d 3).toInt 0).1.length
      ·exfalso
       omega
      have hC0 : chT (d 2) 0 ((d 3).toInt + (d 4).toInt) (d 3).toInt 0 (D.ofInts []) = [] := List.eq_nil_of_length_eq_zero (by rw [ch_len]; omega)
      refine ⟨tellA qA00_t2, tellA_ok (allTold'_iff.1 ?_), .inr ⟨1, qA00_h2, _, _, by decide, qA00_y2, dutiesTold_ok ?_, allTold'_iff.1 ?_, ?_⟩⟩
      all_goals try simp only [qA00_t2, qA00_d2, qA, qA00, qA10, qA00_h2_a, fq, hc, hg0, hC0, ch_len, tl]
      all_goals first | done | omega | (and_intros <;> first | omega | assumption | rfl | exact one_to (.inl (by omega)) | exact one_to (.inr (by omega)) | exact one_to (.inr trivial) | exact trivial)
     by_cases hb : 0 < (cutsT (d 2).ints 0 ((d 3).toInt + (d 4).toInt) (d 3).toInt 0).1.length
     ·exfalso
      omega
     exfalso
     have hz := cuts_none (x := (d 2).ints) (o := 0) (t := (d 3).toInt + (d 4).toInt) (i := (d 3).toInt) (n := 0) (by omega) (by omega) (by omega) (by omega)
     omega
    have hN := emod_in (x := (d 17).ints[(d 0).toInt.toNat]?.getD 0) (n := (d 4).toInt + 1) (by omega)
    generalize hNq : ((d 17).ints[(d 0).toInt.toNat]?.getD 0 % ((d 4).toInt + 1)) = N at *
    have ht0 : 0 ≤ N := by omega
    have ht1 : (d 3).toInt + N ≤ (d 6).toInt := by omega
    obtain ⟨hs, hc, hl, hk, he, hm8, hn1, hn2, h1, h2, h3, h4⟩ := leafs (t := (d 3).toInt + N) hX p6 (by omega) ht1 hxl m0 (left_nil p6 (by omega) m0)
    rw [List.nil_append] at hl
    have hg0 : chT (d 2) 0 (d 3).toInt 0 0 (D.ofInts []) = [] := List.eq_nil_of_length_eq_zero (by rw [ch_len]; omega)
    by_cases ha : 1 ≤ (cutsT (d 2).ints 0 ((d 3).toInt + N) (d 3).toInt 0).2
    ·by_cases hb : 0 < (cutsT (d 2).ints 0 ((d 3).toInt + N) (d 3).toInt 0).1.length
     ·exfalso
      omega
     have hC0 : chT (d 2) 0 ((d 3).toInt + N) (d 3).toInt 0 (D.ofInts []) = [] := List.eq_nil_of_length_eq_zero (by rw [ch_len]; omega)
     refine ⟨tellA qA00_t1, tellA_ok (allTold'_iff.1 ?_), .inr ⟨1, qA00_h1, _, _, by decide, qA00_y1, dutiesTold_ok ?_, allTold'_iff.1 ?_, ?_⟩⟩
     all_goals try simp only [qA00_t1, qA00_d1, qA, qA00, qA10, qA00_h1_a, fq, hc, hg0, hC0, ch_len, hNq, tl]
     all_goals first | done | omega | (and_intros <;> first | omega | assumption | rfl | exact one_to (.inl (by omega)) | exact one_to (.inr (by omega)) | exact one_to (.inr trivial) | exact trivial)
    by_cases hb : 0 < (cutsT (d 2).ints 0 ((d 3).toInt + N) (d 3).toInt 0).1.length
    ·exfalso
     omega
    have hC0 : chT (d 2) 0 ((d 3).toInt + N) (d 3).toInt 0 (D.ofInts []) = [] := List.eq_nil_of_length_eq_zero (by rw [ch_len]; omega)
    have hz := cuts_none (x := (d 2).ints) (o := 0) (t := (d 3).toInt + N) (i := (d 3).toInt) (n := 0) (by omega) (by omega) (by omega) (by omega)
    refine ⟨tellA qA00_t0, tellA_ok (allTold'_iff.1 ?_), .inr ⟨0, qA00_h0, _, _, by decide, qA00_y0, dutiesTold_ok ?_, allTold'_iff.1 ?_, ?_⟩⟩
    all_goals try simp only [qA00_t0, qA00_d0, qA, qA00, qA10, qA00_h0_a, fq, hc, hg0, hC0, ch_len, hNq, tl]
    all_goals first | done | omega | (and_intros <;> first | omega | assumption | rfl | exact one_to (.inl (by omega)) | exact one_to (.inr (by omega)) | exact one_to (.inr trivial) | exact trivial)
   exfalso
   have ex : (d 3).toInt = (d 6).toInt := by omega
   rw [ex] at p13 p14
   omega
 | 1, _ =>
   have hp := allTold'_iff.2 hp
   simp only [qA, qA10, tl] at hp hR hA
   simp only [F9, F11, F20, F21, F40, F41, D.toInt_int, D.ints_ofInts, UO.den] at hp
   obtain ⟨p0, p1, p2, p3, p4, p5, p6, p7, p8, p9, p10, p11, p12, p13, p14, p15, p16⟩ := hp
   have p2 := one_of p2
   have hX := canon p10
   have hxl : (d 2).ints.length = (d 6).toInt := by omega
   have hm := cuts_in (x := (d 2).ints) (o := 0) (t := (d 3).toInt) (i := 0) (n := 0) (Int.le_refl 0) p6
   have hm9 := cuts_small (x := (d 2).ints) (o := 0) (t := (d 3).toInt) (i := 0) (n := 0) (by omega)
   by_cases hx : (d 0).toInt ≤ (d 15).toInt
   ·by_cases hi : (d 15).toInt ≤ (d 0).toInt
    ·have ht0 : 0 ≤ (d 4).toInt := by omega
     have ht1 : (d 3).toInt + (d 4).toInt ≤ (d 6).toInt := by omega
     obtain ⟨hs, hc, hl, hk, he, hm8, hn1, hn2, h1, h2, h3, h4⟩ := leafs (t := (d 3).toInt + (d 4).toInt) hX p6 (by omega) ht1 hxl rfl rfl
     have q15 := p15
     have q16 := p16
     rw [← p8] at q15 q16
     have hg0 : chT (d 2) 0 (d 3).toInt 0 0 (D.ofInts []) = [] := List.eq_nil_of_length_eq_zero (by rw [ch_len]; omega)
     by_cases ha : 1 ≤ (cutsT (d 2).ints 0 ((d 3).toInt + (d 4).toInt) (d 3).toInt (cutsT (d 2).ints 0 (d 3).toInt 0 0).2).2
     ·by_cases hb : 0 < (cutsT (d 2).ints 0 ((d 3).toInt + (d 4).toInt) (d 3).toInt (cutsT (d 2).ints 0 (d 3).toInt 0 0).2).1.length
      ·exfalso
       omega
      have hC0 : chT (d 2) 0 ((d 3).toInt + (d 4).toInt) (d 3).toInt (cutsT (d 2).ints 0 (d 3).toInt 0 0).2 (D.ofInts (leftI (d 2).ints (d 3).toInt)) = [] := List.eq_nil_of_length_eq_zero (by rw [ch_len]; omega)
      refine ⟨tellA qA10_t1, tellA_ok (allTold'_iff.1 ?_), .inr ⟨1, qA10_h1, _, _, by decide, qA10_y1, dutiesTold_ok ?_, allTold'_iff.1 ?_, ?_⟩⟩
      all_goals try simp only [qA10_t1, qA10_d1, qA, qA00, qA10, qA10_h1_a, fq, hc, hg0, hC0, ch_len, tl]
      all_goals first | done | omega | (and_intros <;> first | omega | assumption | rfl | exact one_to (.inl (by omega)) | exact one_to (.inr (by omega)) | exact one_to (.inr trivial) | exact trivial)
     by_cases hb : 0 < (cutsT (d 2).ints 0 ((d 3).toInt + (d 4).toInt) (d 3).toInt (cutsT (d 2).ints 0 (d 3).toInt 0 0).2).1.length
     ·exfalso
      omega
     exfalso
     have hz := cuts_none (x := (d 2).ints) (o := 0) (t := (d 3).toInt + (d 4).toInt) (i := (d 3).toInt) (n := (cutsT (d 2).ints 0 (d 3).toInt 0 0).2) (by omega) (by omega) (by omega) (by omega)
     omega
    have hN := emod_in (x := (d 17).ints[(d 0).toInt.toNat]?.getD 0) (n := (d 4).toInt + 1) (by omega)
    generalize hNq : ((d 17).ints[(d 0).toInt.toNat]?.getD 0 % ((d 4).toInt + 1)) = N at *
    have ht0 : 0 ≤ N := by omega
    have ht1 : (d 3).toInt + N ≤ (d 6).toInt := by omega
    obtain ⟨hs, hc, hl, hk, he, hm8, hn1, hn2, h1, h2, h3, h4⟩ := leafs (t := (d 3).toInt + N) hX p6 (by omega) ht1 hxl rfl rfl
    have hg0 : chT (d 2) 0 (d 3).toInt 0 0 (D.ofInts []) = [] := List.eq_nil_of_length_eq_zero (by rw [ch_len]; omega)
    by_cases ha : 1 ≤ (cutsT (d 2).ints 0 ((d 3).toInt + N) (d 3).toInt (cutsT (d 2).ints 0 (d 3).toInt 0 0).2).2
    ·by_cases hb : 0 < (cutsT (d 2).ints 0 ((d 3).toInt + N) (d 3).toInt (cutsT (d 2).ints 0 (d 3).toInt 0 0).2).1.length
     ·exfalso
      omega
     have hC0 : chT (d 2) 0 ((d 3).toInt + N) (d 3).toInt (cutsT (d 2).ints 0 (d 3).toInt 0 0).2 (D.ofInts (leftI (d 2).ints (d 3).toInt)) = [] := List.eq_nil_of_length_eq_zero (by rw [ch_len]; omega)
     refine ⟨tellA qA10_t0, tellA_ok (allTold'_iff.1 ?_), .inr ⟨1, qA10_h0, _, _, by decide, qA10_y0, dutiesTold_ok ?_, allTold'_iff.1 ?_, ?_⟩⟩
     all_goals try simp only [qA10_t0, qA10_d0, qA, qA00, qA10, qA10_h0_a, fq, hc, hg0, hC0, ch_len, hNq, tl]
     all_goals first | done | omega | (and_intros <;> first | omega | assumption | rfl | exact one_to (.inl (by omega)) | exact one_to (.inr (by omega)) | exact one_to (.inr trivial) | exact trivial)
    by_cases hb : 0 < (cutsT (d 2).ints 0 ((d 3).toInt + N) (d 3).toInt (cutsT (d 2).ints 0 (d 3).toInt 0 0).2).1.length
    ·exfalso
     omega
    exfalso
    have hz := cuts_none (x := (d 2).ints) (o := 0) (t := (d 3).toInt + N) (i := (d 3).toInt) (n := (cutsT (d 2).ints 0 (d 3).toInt 0 0).2) (by omega) (by omega) (by omega) (by omega)
    omega
   have ex : (d 3).toInt = (d 6).toInt := by omega
   rw [ex] at p11 p12
   refine ⟨tellA qA10_t2, tellA_ok (allTold'_iff.1 ?_), .inl ⟨_, _, _, qA10_y2, dutiesTold_ok ?_⟩⟩
   ·simp only [qA10_t2, fq, tl]
    first | done | (and_intros <;> first | omega | assumption | rfl | exact one_to (.inl (by omega)) | exact one_to (.inr (by omega)) | exact one_to (.inr trivial) | exact trivial)
   ·simp only [qA10_d2, fq, ex, p11, tl]
    first | done | (and_intros <;> first | omega | assumption | rfl | exact one_to (.inl (by omega)) | exact one_to (.inr (by omega)) | exact one_to (.inr trivial) | exact trivial)
theorem qA00_holds : LHolds Try.prog (loopAt Try.prog 3 [4, 1, 0, 1, 1, 1, 1, 1, 1, 1]) qA00 F := qA_holds 0 (by decide)
theorem qA10_holds : LHolds Try.prog (loopAt Try.prog 3 [4, 1, 0, 1, 1, 1, 1, 1, 1, 1]) qA10 F := qA_holds 1 (by decide)

def qB00 : LSpec := { n := 93, next := 10, pat := [(0, .sslice 17 (.int 0) (.var 6) (.var 13) false), (1, .sslice 19 (.int 0) (.var 15) (.var 16) false), (6, .ptr 1 0), (7, .nilslice), (8, .sslice 17 (.var 3) (.var 4) (.var 14) false), (9, .sint .i64 (.var 0))], rows := [zHb7, zHb32, zHb30], pre := [(.le (.int 0) (.var 0), true), (.le (.var 0) zHb36, true), (.eq zHb31 (.int 1), true), (.le (.var 15) (.int 100), true), (.le (.var 6) (.int 8000), true), (.le (.int 1) (.var 6), true), (.le (.int 0) (.var 3), true), (.le (.int 0) (.var 4), true), (.eq zHb11 (.var 6), true), (.le (.var 4) (.var 14), true), (.same (.un .code (.var 2)) txHb4, true), (.same (.var 7) (.fn 9 txHb11), true), (.eq (.var 9) (.fn 11 txHb11), true), (.le (.int 1) zHb15, false), (.le (.int 1) txHb22, false), (.le (.int 1) zHb19, false), (.le (.int 1) txHb23, true)], x := 0, fin := [(0, .sslice 17 (.int 0) (.var 6) (.var 13) false), (6, .ptr 1 0), (7, .vslice 11 1 (.int 0) zHb21 zHb21 true)], frows := [zHb8, zHb18], same := [1, 17], chg := [0, 1, 6, 7, 8, 9, 10, 11, 12, 29, 30, 31, 32, 33, 34, 35, 36, 37, 38, 39, 40, 41, 42, 43, 44, 45, 46, 47, 48, 49, 50, 51, 52, 53, 54, 55, 56, 57, 58, 59, 60, 61, 62, 63, 64, 65, 66, 67, 68, 69] }
def qB10 : LSpec := { n := 93, next := 10, pat := [(0, .sslice 17 (.int 0) (.var 6) (.var 13) false), (1, .sslice 19 (.int 0) (.var 15) (.var 16) false), (6, .ptr 1 0), (7, .nilslice), (8, .sslice 17 (.var 3) (.var 4) (.var 14) false), (9, .sint .i64 (.var 0))], rows := [zHb2, zHb32, zHb30, zHb27], pre := [(.le (.int 0) (.var 0), true), (.le (.var 0) zHb36, true), (.eq zHb31 (.int 1), true), (.le (.var 15) (.int 100), true), (.le (.var 6) (.int 8000), true), (.le (.int 1) (.var 6), true), (.le (.int 0) (.var 3), true), (.le (.int 0) (.var 4), true), (.eq zHb11 (.var 6), true), (.le (.var 4) (.var 14), true), (.same (.un .code (.var 2)) txHb4, true), (.same (.var 7) (.fn 9 txHb11), true), (.eq (.var 9) (.fn 11 txHb11), true), (.le (.int 1) zHb15, true), (.le (.int 1) txHb22, false), (.le (.int 1) zHb19, false), (.le (.int 1) txHb23, true)], x := 0, fin := [(0, .sslice 17 (.int 0) (.var 6) (.var 13) false), (6, .ptr 1 0), (7, .vslice 11 1 (.int 0) zHb21 zHb21 true)], frows := [zHb8, zHb18], same := [1, 17], chg := [0, 1, 6, 7, 8, 9, 10, 11, 12, 29, 30, 31, 32, 33, 34, 35, 36, 37, 38, 39, 40, 41, 42, 43, 44, 45, 46, 47, 48, 49, 50, 51, 52, 53, 54, 55, 56, 57, 58, 59, 60, 61, 62, 63, 64, 65, 66, 67, 68, 69] }
def qB01 : LSpec := { n := 93, next := 10, pat := [(0, .sslice 17 (.int 0) (.var 6) (.var 13) false), (1, .sslice 19 (.int 0) (.var 15) (.var 16) false), (6, .ptr 1 0), (7, .vslice 11 1 (.int 0) zHb14 zHb14 true), (8, .sslice 17 (.var 3) (.var 4) (.var 14) false), (9, .sint .i64 (.var 0))], rows := [zHb7, zHb32, zHb30, zHb33], pre := [(.le (.int 0) (.var 0), true), (.le (.var 0) zHb36, true), (.eq zHb31 (.int 1), true), (.le (.var 15) (.int 100), true), (.le (.var 6) (.int 8000), true), (.le (.int 1) (.var 6), true), (.le (.int 0) (.var 3), true), (.le (.int 0) (.var 4), true), (.eq zHb11 (.var 6), true), (.le (.var 4) (.var 14), true), (.same (.un .code (.var 2)) txHb4, true), (.same (.var 7) (.fn 9 txHb11), true), (.eq (.var 9) (.fn 11 txHb11), true), (.le (.int 1) zHb15, false), (.le (.int 1) txHb22, true), (.le (.int 1) zHb19, false), (.le (.int 1) txHb23, true)], x := 0, fin := [(0, .sslice 17 (.int 0) (.var 6) (.var 13) false), (6, .ptr 1 0), (7, .vslice 11 1 (.int 0) zHb21 zHb21 true)], frows := [zHb8, zHb18], same := [1, 17], chg := [0, 1, 6, 7, 8, 9, 10, 11, 12, 29, 30, 31, 32, 33, 34, 35, 36, 37, 38, 39, 40, 41, 42, 43, 44, 45, 46, 47, 48, 49, 50, 51, 52, 53, 54, 55, 56, 57, 58, 59, 60, 61, 62, 63, 64, 65, 66, 67, 68, 69] }
def qB11 : LSpec := { n := 93, next := 10, pat := [(0, .sslice 17 (.int 0) (.var 6) (.var 13) false), (1, .sslice 19 (.int 0) (.var 15) (.var 16) false), (6, .ptr 1 0), (7, .vslice 11 1 (.int 0) zHb14 zHb14 true), (8, .sslice 17 (.var 3) (.var 4) (.var 14) false), (9, .sint .i64 (.var 0))], rows := [zHb2, zHb32, zHb30, zHb27, zHb33], pre := [(.le (.int 0) (.var 0), true), (.le (.var 0) zHb36, true), (.eq zHb31 (.int 1), true), (.le (.var 15) (.int 100), true), (.le (.var 6) (.int 8000), true), (.le (.int 1) (.var 6), true), (.le (.int 0) (.var 3), true), (.le (.int 0) (.var 4), true), (.eq zHb11 (.var 6), true), (.le (.var 4) (.var 14), true), (.same (.un .code (.var 2)) txHb4, true), (.same (.var 7) (.fn 9 txHb11), true), (.eq (.var 9) (.fn 11 txHb11), true), (.le (.int 1) zHb15, true), (.le (.int 1) txHb22, true), (.le (.int 1) zHb19, false), (.le (.int 1) txHb23, true)], x := 0, fin := [(0, .sslice 17 (.int 0) (.var 6) (.var 13) false), (6, .ptr 1 0), (7, .vslice 11 1 (.int 0) zHb21 zHb21 true)], frows := [zHb8, zHb18], same := [1, 17], chg := [0, 1, 6, 7, 8, 9, 10, 11, 12, 29, 30, 31, 32, 33, 34, 35, 36, 37, 38, 39, 40, 41, 42, 43, 44, 45, 46, 47, 48, 49, 50, 51, 52, 53, 54, 55, 56, 57, 58, 59, 60, 61, 62, 63, 64, 65, 66, 67, 68, 69] }
def qB : Nat → LSpec
 | 0 => qB00
 | 1 => qB10
 | 2 => qB01
 | _ => qB11
def qB00_t0 : List (Q × Bool) := [asHb5, asHb6, asHb7, asHb8, asHb9, asHb10, asHb11, asHb12, asHb13, asHb14, asHb15, asHb16, asHb17, asHb18, asHb19, asHb20, asHb21, asHb22, asHb23, asHb24, asHb25, asHb26]
def qB00_d0 : List Duty := []
def qB00_h0 : List (Nat × E) := [(17, (.var 17)), (2, (.var 2)), (9, (.fn 11 zHb1)), (7, (.fn 9 zHb1)), (0, zHb4), (3, zHb3), (4, zHb6), (14, zHb5), (15, (.var 15)), (16, (.var 16)), (6, (.var 6)), (13, (.var 13))]
theorem qB00_h0_a : lookE qB00_h0 0 = zHb4 ∧ lookE qB00_h0 2 = (.var 2) ∧ lookE qB00_h0 3 = zHb3 ∧ lookE qB00_h0 4 = zHb6 ∧ lookE qB00_h0 6 = (.var 6) ∧ lookE qB00_h0 7 = (.fn 9 zHb1) ∧ lookE qB00_h0 9 = (.fn 11 zHb1) ∧ lookE qB00_h0 13 = (.var 13) ∧ lookE qB00_h0 14 = zHb5 ∧ lookE qB00_h0 15 = (.var 15) ∧ lookE qB00_h0 16 = (.var 16) ∧ lookE qB00_h0 17 = (.var 17) := ⟨rfl, rfl, rfl, rfl, rfl, rfl, rfl, rfl, rfl, rfl, rfl, rfl⟩
theorem qB00_y0 : nextJ (qB 0) (qB 0) qB00_h0 [(1, 1), (19, 19), (17, 17)] (roundC Try.prog ltHb0 [(7, pickC)] [] 3000 40 3 [4, 1, 0, 1, 1, 1, 1, 1, 1, 1] (tellA qB00_t0) (qB 0)) = some qB00_d0 := by kernel_rfl
def qB00_t1 : List (Q × Bool) := [asHb5, asHb6, asHb7, asHb8, asHb9, asHb10, asHb11, asHb12, asHb13, asHb14, asHb15, asHb16, asHb17, asHb18, asHb19, asHb20, asHb27, asHb22, asHb28, asHb29, asHb24, asHb25, asHb26]
def qB00_d1 : List Duty := [zHb12, zHb12, zHb12, zHb28]
def qB00_h1 : List (Nat × E) := [(17, (.var 17)), (2, (.var 2)), (9, (.fn 11 zHb1)), (7, (.fn 9 zHb1)), (0, zHb4), (3, zHb3), (4, zHb6), (14, zHb5), (15, (.var 15)), (16, (.var 16)), (6, (.var 6)), (13, (.var 13))]
theorem qB00_h1_a : lookE qB00_h1 0 = zHb4 ∧ lookE qB00_h1 2 = (.var 2) ∧ lookE qB00_h1 3 = zHb3 ∧ lookE qB00_h1 4 = zHb6 ∧ lookE qB00_h1 6 = (.var 6) ∧ lookE qB00_h1 7 = (.fn 9 zHb1) ∧ lookE qB00_h1 9 = (.fn 11 zHb1) ∧ lookE qB00_h1 13 = (.var 13) ∧ lookE qB00_h1 14 = zHb5 ∧ lookE qB00_h1 15 = (.var 15) ∧ lookE qB00_h1 16 = (.var 16) ∧ lookE qB00_h1 17 = (.var 17) := ⟨rfl, rfl, rfl, rfl, rfl, rfl, rfl, rfl, rfl, rfl, rfl, rfl⟩
theorem qB00_y1 : nextJ (qB 0) (qB 1) qB00_h1 [(3, 31), (1, 1), (19, 19), (17, 17)] (roundC Try.prog ltHb0 [(7, pickC)] [] 3000 40 3 [4, 1, 0, 1, 1, 1, 1, 1, 1, 1] (tellA qB00_t1) (qB 0)) = some qB00_d1 := by kernel_rfl
abbrev asHb50 : Q × Bool := ((.le (.int 1) (.un .len (.fn 20 txHb41))), true)
abbrev asHb51 : Q × Bool := ((.eq zHb45 (.int 0)), false)
abbrev asHb52 : Q × Bool := ((.le (.bi .mul zHb45 (.int 48)) (.int 281474976710656)), true)
def qB00_t2 : List (Q × Bool) := [asHb5, asHb6, asHb7, asHb8, asHb9, asHb10, asHb11, asHb12, asHb13, asHb14, asHb15, asHb16, asHb17, asHb18, asHb19, asHb20, asHb21, asHb50, asHb51, asHb52, asHb24, asHb25, asHb26]
def qB00_d2 : List Duty := [zHb25, zHb25, zHb25, zHb41]
def qB00_h2 : List (Nat × E) := [(17, (.var 17)), (2, (.var 2)), (9, (.fn 11 zHb1)), (7, (.fn 9 zHb1)), (0, zHb4), (3, zHb3), (4, zHb6), (14, zHb5), (15, (.var 15)), (16, (.var 16)), (6, (.var 6)), (13, (.var 13))]
theorem qB00_h2_a : lookE qB00_h2 0 = zHb4 ∧ lookE qB00_h2 2 = (.var 2) ∧ lookE qB00_h2 3 = zHb3 ∧ lookE qB00_h2 4 = zHb6 ∧ lookE qB00_h2 6 = (.var 6) ∧ lookE qB00_h2 7 = (.fn 9 zHb1) ∧ lookE qB00_h2 9 = (.fn 11 zHb1) ∧ lookE qB00_h2 13 = (.var 13) ∧ lookE qB00_h2 14 = zHb5 ∧ lookE qB00_h2 15 = (.var 15) ∧ lookE qB00_h2 16 = (.var 16) ∧ lookE qB00_h2 17 = (.var 17) := ⟨rfl, rfl, rfl, rfl, rfl, rfl, rfl, rfl, rfl, rfl, rfl, rfl⟩
theorem qB00_y2 : nextJ (qB 0) (qB 2) qB00_h2 [(11, 41), (1, 1), (19, 19), (17, 17)] (roundC Try.prog ltHb0 [(7, pickC)] [] 3000 40 3 [4, 1, 0, 1, 1, 1, 1, 1, 1, 1] (tellA qB00_t2) (qB 0)) = some qB00_d2 := by kernel_rfl
def qB00_t3 : List (Q × Bool) := [asHb5, asHb6, asHb7, asHb8, asHb9, asHb10, asHb11, asHb12, asHb13, asHb14, asHb15, asHb16, asHb17, asHb18, asHb19, asHb20, asHb27, asHb50, asHb28, asHb29, asHb51, asHb52, asHb24, asHb25, asHb26]
def qB00_d3 : List Duty := [zHb25, zHb25, zHb12, zHb12, zHb12, zHb28, zHb25, zHb41]
def qB00_h3 : List (Nat × E) := [(17, (.var 17)), (2, (.var 2)), (9, (.fn 11 zHb1)), (7, (.fn 9 zHb1)), (0, zHb4), (3, zHb3), (4, zHb6), (14, zHb5), (15, (.var 15)), (16, (.var 16)), (6, (.var 6)), (13, (.var 13))]
theorem qB00_h3_a : lookE qB00_h3 0 = zHb4 ∧ lookE qB00_h3 2 = (.var 2) ∧ lookE qB00_h3 3 = zHb3 ∧ lookE qB00_h3 4 = zHb6 ∧ lookE qB00_h3 6 = (.var 6) ∧ lookE qB00_h3 7 = (.fn 9 zHb1) ∧ lookE qB00_h3 9 = (.fn 11 zHb1) ∧ lookE qB00_h3 13 = (.var 13) ∧ lookE qB00_h3 14 = zHb5 ∧ lookE qB00_h3 15 = (.var 15) ∧ lookE qB00_h3 16 = (.var 16) ∧ lookE qB00_h3 17 = (.var 17) := ⟨rfl, rfl, rfl, rfl, rfl, rfl, rfl, rfl, rfl, rfl, rfl, rfl⟩
theorem qB00_y3 : nextJ (qB 0) (qB 3) qB00_h3 [(3, 31), (11, 43), (1, 1), (19, 19), (17, 17)] (roundC Try.prog ltHb0 [(7, pickC)] [] 3000 40 3 [4, 1, 0, 1, 1, 1, 1, 1, 1, 1] (tellA qB00_t3) (qB 0)) = some qB00_d3 := by kernel_rfl
abbrev asHb53 : Q × Bool := ((.le (.int 1) (.fn 21 txHb30)), false)
abbrev asHb54 : Q × Bool := ((.le (.int 1) (.un .len (.fn 20 txHb30))), true)
abbrev asHb55 : Q × Bool := ((.eq zHb46 (.int 0)), false)
abbrev asHb56 : Q × Bool := ((.le (.bi .mul zHb46 (.int 48)) (.int 281474976710656)), true)
def qB00_t4 : List (Q × Bool) := [asHb5, asHb6, asHb7, asHb30, asHb31, asHb25, asHb15, asHb32, asHb33, asHb18, asHb19, asHb20, asHb53, asHb54, asHb55, asHb56, asHb26]
def qB00_d4 : List Duty := [zHb37, zHb37, zHb37, (false, (.un .code (.fn 30 txHb32)), zHb34)]
def qB00_h4 : List (Nat × E) := [(17, (.var 17)), (2, (.var 2)), (9, (.fn 11 zHb10)), (7, (.fn 9 zHb10)), (0, zHb4), (3, zHb11), (4, (.int 0)), (14, zHb17), (15, (.var 15)), (16, (.var 16)), (6, (.var 6)), (13, (.var 13))]
theorem qB00_h4_a : lookE qB00_h4 0 = zHb4 ∧ lookE qB00_h4 2 = (.var 2) ∧ lookE qB00_h4 3 = zHb11 ∧ lookE qB00_h4 4 = (.int 0) ∧ lookE qB00_h4 6 = (.var 6) ∧ lookE qB00_h4 7 = (.fn 9 zHb10) ∧ lookE qB00_h4 9 = (.fn 11 zHb10) ∧ lookE qB00_h4 13 = (.var 13) ∧ lookE qB00_h4 14 = zHb17 ∧ lookE qB00_h4 15 = (.var 15) ∧ lookE qB00_h4 16 = (.var 16) ∧ lookE qB00_h4 17 = (.var 17) := ⟨rfl, rfl, rfl, rfl, rfl, rfl, rfl, rfl, rfl, rfl, rfl, rfl⟩
theorem qB00_y4 : nextJ (qB 0) (qB 2) qB00_h4 [(11, 41), (1, 1), (19, 19), (17, 17)] (roundC Try.prog ltHb0 [(7, pickC)] [] 3000 40 3 [4, 1, 0, 1, 1, 1, 1, 1, 1, 1] (tellA qB00_t4) (qB 0)) = some qB00_d4 := by kernel_rfl
def qB10_t0 : List (Q × Bool) := [asHb5, asHb6, asHb7, asHb8, asHb9, asHb10, asHb11, asHb12, asHb13, asHb14, asHb15, asHb16, asHb17, asHb18, asHb19, asHb20, asHb38, asHb39, asHb40, asHb41, asHb42, asHb43, asHb44, asHb24, asHb25, asHb26]
def qB10_d0 : List Duty := [zHb13, zHb13, zHb13, zHb29]
def qB10_h0 : List (Nat × E) := [(17, (.var 17)), (2, (.var 2)), (9, (.fn 11 zHb1)), (7, (.fn 9 zHb1)), (0, zHb4), (3, zHb3), (4, zHb6), (14, zHb5), (15, (.var 15)), (16, (.var 16)), (6, (.var 6)), (13, (.var 13))]
theorem qB10_h0_a : lookE qB10_h0 0 = zHb4 ∧ lookE qB10_h0 2 = (.var 2) ∧ lookE qB10_h0 3 = zHb3 ∧ lookE qB10_h0 4 = zHb6 ∧ lookE qB10_h0 6 = (.var 6) ∧ lookE qB10_h0 7 = (.fn 9 zHb1) ∧ lookE qB10_h0 9 = (.fn 11 zHb1) ∧ lookE qB10_h0 13 = (.var 13) ∧ lookE qB10_h0 14 = zHb5 ∧ lookE qB10_h0 15 = (.var 15) ∧ lookE qB10_h0 16 = (.var 16) ∧ lookE qB10_h0 17 = (.var 17) := ⟨rfl, rfl, rfl, rfl, rfl, rfl, rfl, rfl, rfl, rfl, rfl, rfl⟩
theorem qB10_y0 : nextJ (qB 1) (qB 1) qB10_h0 [(3, 31), (1, 1), (19, 19), (17, 17)] (roundC Try.prog ltHb0 [(7, pickC)] [] 3000 40 3 [4, 1, 0, 1, 1, 1, 1, 1, 1, 1] (tellA qB10_t0) (qB 1)) = some qB10_d0 := by kernel_rfl
abbrev asHb57 : Q × Bool := ((.le (.int 1) (.fn 21 txHb49)), false)
abbrev asHb58 : Q × Bool := ((.le (.int 1) (.un .len (.fn 20 txHb49))), true)
abbrev asHb59 : Q × Bool := ((.eq zHb47 (.int 0)), false)
abbrev asHb60 : Q × Bool := ((.le (.bi .mul zHb47 (.int 48)) (.int 281474976710656)), true)
def qB10_t1 : List (Q × Bool) := [asHb5, asHb6, asHb7, asHb8, asHb9, asHb10, asHb11, asHb12, asHb13, asHb14, asHb15, asHb16, asHb17, asHb18, asHb19, asHb20, asHb38, asHb39, asHb40, asHb57, asHb58, asHb59, asHb60, asHb24, asHb25, asHb26]
def qB10_d1 : List Duty := [zHb26, zHb26, zHb26, zHb42]
def qB10_h1 : List (Nat × E) := [(17, (.var 17)), (2, (.var 2)), (9, (.fn 11 zHb1)), (7, (.fn 9 zHb1)), (0, zHb4), (3, zHb3), (4, zHb6), (14, zHb5), (15, (.var 15)), (16, (.var 16)), (6, (.var 6)), (13, (.var 13))]
theorem qB10_h1_a : lookE qB10_h1 0 = zHb4 ∧ lookE qB10_h1 2 = (.var 2) ∧ lookE qB10_h1 3 = zHb3 ∧ lookE qB10_h1 4 = zHb6 ∧ lookE qB10_h1 6 = (.var 6) ∧ lookE qB10_h1 7 = (.fn 9 zHb1) ∧ lookE qB10_h1 9 = (.fn 11 zHb1) ∧ lookE qB10_h1 13 = (.var 13) ∧ lookE qB10_h1 14 = zHb5 ∧ lookE qB10_h1 15 = (.var 15) ∧ lookE qB10_h1 16 = (.var 16) ∧ lookE qB10_h1 17 = (.var 17) := ⟨rfl, rfl, rfl, rfl, rfl, rfl, rfl, rfl, rfl, rfl, rfl, rfl⟩
theorem qB10_y1 : nextJ (qB 1) (qB 2) qB10_h1 [(11, 41), (1, 1), (19, 19), (17, 17)] (roundC Try.prog ltHb0 [(7, pickC)] [] 3000 40 3 [4, 1, 0, 1, 1, 1, 1, 1, 1, 1] (tellA qB10_t1) (qB 1)) = some qB10_d1 := by kernel_rfl
def qB10_t2 : List (Q × Bool) := [asHb5, asHb6, asHb7, asHb8, asHb9, asHb10, asHb11, asHb12, asHb13, asHb14, asHb15, asHb16, asHb17, asHb18, asHb19, asHb20, asHb38, asHb39, asHb40, asHb41, asHb58, asHb43, asHb44, asHb59, asHb60, asHb24, asHb25, asHb26]
def qB10_d2 : List Duty := [zHb26, zHb26, zHb13, zHb13, zHb13, zHb29, zHb26, zHb42]
def qB10_h2 : List (Nat × E) := [(17, (.var 17)), (2, (.var 2)), (9, (.fn 11 zHb1)), (7, (.fn 9 zHb1)), (0, zHb4), (3, zHb3), (4, zHb6), (14, zHb5), (15, (.var 15)), (16, (.var 16)), (6, (.var 6)), (13, (.var 13))]
theorem qB10_h2_a : lookE qB10_h2 0 = zHb4 ∧ lookE qB10_h2 2 = (.var 2) ∧ lookE qB10_h2 3 = zHb3 ∧ lookE qB10_h2 4 = zHb6 ∧ lookE qB10_h2 6 = (.var 6) ∧ lookE qB10_h2 7 = (.fn 9 zHb1) ∧ lookE qB10_h2 9 = (.fn 11 zHb1) ∧ lookE qB10_h2 13 = (.var 13) ∧ lookE qB10_h2 14 = zHb5 ∧ lookE qB10_h2 15 = (.var 15) ∧ lookE qB10_h2 16 = (.var 16) ∧ lookE qB10_h2 17 = (.var 17) := ⟨rfl, rfl, rfl, rfl, rfl, rfl, rfl, rfl, rfl, rfl, rfl, rfl⟩
theorem qB10_y2 : nextJ (qB 1) (qB 3) qB10_h2 [(3, 31), (11, 43), (1, 1), (19, 19), (17, 17)] (roundC Try.prog ltHb0 [(7, pickC)] [] 3000 40 3 [4, 1, 0, 1, 1, 1, 1, 1, 1, 1] (tellA qB10_t2) (qB 1)) = some qB10_d2 := by kernel_rfl
abbrev asHb61 : Q × Bool := ((.le (.int 1) (.fn 21 txHb44)), false)
abbrev asHb62 : Q × Bool := ((.le (.int 1) (.un .len (.fn 20 txHb44))), true)
abbrev asHb63 : Q × Bool := ((.eq zHb48 (.int 0)), false)
abbrev asHb64 : Q × Bool := ((.le (.bi .mul zHb48 (.int 48)) (.int 281474976710656)), true)
def qB10_t3 : List (Q × Bool) := [asHb5, asHb6, asHb7, asHb30, asHb31, asHb25, asHb15, asHb32, asHb33, asHb18, asHb19, asHb20, asHb38, asHb39, asHb40, asHb61, asHb62, asHb63, asHb64, asHb26]
def qB10_d3 : List Duty := [zHb38, zHb38, zHb38, (false, (.un .code (.fn 30 txHb52)), zHb34)]
def qB10_h3 : List (Nat × E) := [(17, (.var 17)), (2, (.var 2)), (9, (.fn 11 zHb10)), (7, (.fn 9 zHb10)), (0, zHb4), (3, zHb11), (4, (.int 0)), (14, zHb17), (15, (.var 15)), (16, (.var 16)), (6, (.var 6)), (13, (.var 13))]
theorem qB10_h3_a : lookE qB10_h3 0 = zHb4 ∧ lookE qB10_h3 2 = (.var 2) ∧ lookE qB10_h3 3 = zHb11 ∧ lookE qB10_h3 4 = (.int 0) ∧ lookE qB10_h3 6 = (.var 6) ∧ lookE qB10_h3 7 = (.fn 9 zHb10) ∧ lookE qB10_h3 9 = (.fn 11 zHb10) ∧ lookE qB10_h3 13 = (.var 13) ∧ lookE qB10_h3 14 = zHb17 ∧ lookE qB10_h3 15 = (.var 15) ∧ lookE qB10_h3 16 = (.var 16) ∧ lookE qB10_h3 17 = (.var 17) := ⟨rfl, rfl, rfl, rfl, rfl, rfl, rfl, rfl, rfl, rfl, rfl, rfl⟩
theorem qB10_y3 : nextJ (qB 1) (qB 2) qB10_h3 [(11, 41), (1, 1), (19, 19), (17, 17)] (roundC Try.prog ltHb0 [(7, pickC)] [] 3000 40 3 [4, 1, 0, 1, 1, 1, 1, 1, 1, 1] (tellA qB10_t3) (qB 1)) = some qB10_d3 := by kernel_rfl
def qB01_t0 : List (Q × Bool) := [asHb5, asHb6, asHb7, asHb8, asHb9, asHb10, asHb11, asHb12, asHb13, asHb14, asHb15, asHb16, asHb17, asHb18, asHb19, asHb20, asHb21, asHb22, asHb23, asHb24, asHb25, asHb26]
def qB01_d0 : List Duty := [(true, zHb14, zHb9), (true, zHb14, zHb9), (true, zHb14, zHb9), (false, zHb35, zHb20)]
def qB01_h0 : List (Nat × E) := [(17, (.var 17)), (2, (.var 2)), (9, (.fn 11 zHb1)), (7, (.fn 9 zHb1)), (0, zHb4), (3, zHb3), (4, zHb6), (14, zHb5), (15, (.var 15)), (16, (.var 16)), (6, (.var 6)), (13, (.var 13))]
theorem qB01_h0_a : lookE qB01_h0 0 = zHb4 ∧ lookE qB01_h0 2 = (.var 2) ∧ lookE qB01_h0 3 = zHb3 ∧ lookE qB01_h0 4 = zHb6 ∧ lookE qB01_h0 6 = (.var 6) ∧ lookE qB01_h0 7 = (.fn 9 zHb1) ∧ lookE qB01_h0 9 = (.fn 11 zHb1) ∧ lookE qB01_h0 13 = (.var 13) ∧ lookE qB01_h0 14 = zHb5 ∧ lookE qB01_h0 15 = (.var 15) ∧ lookE qB01_h0 16 = (.var 16) ∧ lookE qB01_h0 17 = (.var 17) := ⟨rfl, rfl, rfl, rfl, rfl, rfl, rfl, rfl, rfl, rfl, rfl, rfl⟩
theorem qB01_y0 : nextJ (qB 2) (qB 2) qB01_h0 [(11, 11), (1, 1), (19, 19), (17, 17)] (roundC Try.prog ltHb0 [(7, pickC)] [] 3000 40 3 [4, 1, 0, 1, 1, 1, 1, 1, 1, 1] (tellA qB01_t0) (qB 2)) = some qB01_d0 := by kernel_rfl
def qB01_t1 : List (Q × Bool) := [asHb5, asHb6, asHb7, asHb8, asHb9, asHb10, asHb11, asHb12, asHb13, asHb14, asHb15, asHb16, asHb17, asHb18, asHb19, asHb20, asHb27, asHb22, asHb28, asHb29, asHb24, asHb25, asHb26]
def qB01_d1 : List Duty := [(true, zHb14, zHb9), (true, zHb14, zHb9), zHb12, zHb12, zHb12, zHb28, (true, zHb14, zHb9), (false, zHb35, zHb20)]
def qB01_h1 : List (Nat × E) := [(17, (.var 17)), (2, (.var 2)), (9, (.fn 11 zHb1)), (7, (.fn 9 zHb1)), (0, zHb4), (3, zHb3), (4, zHb6), (14, zHb5), (15, (.var 15)), (16, (.var 16)), (6, (.var 6)), (13, (.var 13))]
theorem qB01_h1_a : lookE qB01_h1 0 = zHb4 ∧ lookE qB01_h1 2 = (.var 2) ∧ lookE qB01_h1 3 = zHb3 ∧ lookE qB01_h1 4 = zHb6 ∧ lookE qB01_h1 6 = (.var 6) ∧ lookE qB01_h1 7 = (.fn 9 zHb1) ∧ lookE qB01_h1 9 = (.fn 11 zHb1) ∧ lookE qB01_h1 13 = (.var 13) ∧ lookE qB01_h1 14 = zHb5 ∧ lookE qB01_h1 15 = (.var 15) ∧ lookE qB01_h1 16 = (.var 16) ∧ lookE qB01_h1 17 = (.var 17) := ⟨rfl, rfl, rfl, rfl, rfl, rfl, rfl, rfl, rfl, rfl, rfl, rfl⟩
theorem qB01_y1 : nextJ (qB 2) (qB 3) qB01_h1 [(3, 31), (11, 11), (1, 1), (19, 19), (17, 17)] (roundC Try.prog ltHb0 [(7, pickC)] [] 3000 40 3 [4, 1, 0, 1, 1, 1, 1, 1, 1, 1] (tellA qB01_t1) (qB 2)) = some qB01_d1 := by kernel_rfl
abbrev asHb65 : Q × Bool := ((.le (.bi .mul txHb54 (.int 48)) (.int 281474976710656)), true)
def qB01_t2 : List (Q × Bool) := [asHb5, asHb6, asHb7, asHb8, asHb9, asHb10, asHb11, asHb12, asHb13, asHb14, asHb15, asHb16, asHb17, asHb18, asHb19, asHb20, asHb21, asHb50, asHb51, asHb65, asHb24, asHb25, asHb26]
def qB01_d2 : List Duty := [(true, txHb54, zHb9), (true, txHb54, zHb9), (true, txHb54, zHb9), (false, txHb53, zHb20)]
def qB01_h2 : List (Nat × E) := [(17, (.var 17)), (2, (.var 2)), (9, (.fn 11 zHb1)), (7, (.fn 9 zHb1)), (0, zHb4), (3, zHb3), (4, zHb6), (14, zHb5), (15, (.var 15)), (16, (.var 16)), (6, (.var 6)), (13, (.var 13))]
theorem qB01_h2_a : lookE qB01_h2 0 = zHb4 ∧ lookE qB01_h2 2 = (.var 2) ∧ lookE qB01_h2 3 = zHb3 ∧ lookE qB01_h2 4 = zHb6 ∧ lookE qB01_h2 6 = (.var 6) ∧ lookE qB01_h2 7 = (.fn 9 zHb1) ∧ lookE qB01_h2 9 = (.fn 11 zHb1) ∧ lookE qB01_h2 13 = (.var 13) ∧ lookE qB01_h2 14 = zHb5 ∧ lookE qB01_h2 15 = (.var 15) ∧ lookE qB01_h2 16 = (.var 16) ∧ lookE qB01_h2 17 = (.var 17) := ⟨rfl, rfl, rfl, rfl, rfl, rfl, rfl, rfl, rfl, rfl, rfl, rfl⟩
theorem qB01_y2 : nextJ (qB 2) (qB 2) qB01_h2 [(11, 41), (1, 1), (19, 19), (17, 17)] (roundC Try.prog ltHb0 [(7, pickC)] [] 3000 40 3 [4, 1, 0, 1, 1, 1, 1, 1, 1, 1] (tellA qB01_t2) (qB 2)) = some qB01_d2 := by kernel_rfl
def qB01_t3 : List (Q × Bool) := [asHb5, asHb6, asHb7, asHb8, asHb9, asHb10, asHb11, asHb12, asHb13, asHb14, asHb15, asHb16, asHb17, asHb18, asHb19, asHb20, asHb27, asHb50, asHb28, asHb29, asHb51, asHb65, asHb24, asHb25, asHb26]
def qB01_d3 : List Duty := [(true, txHb54, zHb9), (true, txHb54, zHb9), zHb12, zHb12, zHb12, zHb28, (true, txHb54, zHb9), (false, txHb53, zHb20)]
def qB01_h3 : List (Nat × E) := [(17, (.var 17)), (2, (.var 2)), (9, (.fn 11 zHb1)), (7, (.fn 9 zHb1)), (0, zHb4), (3, zHb3), (4, zHb6), (14, zHb5), (15, (.var 15)), (16, (.var 16)), (6, (.var 6)), (13, (.var 13))]
theorem qB01_h3_a : lookE qB01_h3 0 = zHb4 ∧ lookE qB01_h3 2 = (.var 2) ∧ lookE qB01_h3 3 = zHb3 ∧ lookE qB01_h3 4 = zHb6 ∧ lookE qB01_h3 6 = (.var 6) ∧ lookE qB01_h3 7 = (.fn 9 zHb1) ∧ lookE qB01_h3 9 = (.fn 11 zHb1) ∧ lookE qB01_h3 13 = (.var 13) ∧ lookE qB01_h3 14 = zHb5 ∧ lookE qB01_h3 15 = (.var 15) ∧ lookE qB01_h3 16 = (.var 16) ∧ lookE qB01_h3 17 = (.var 17) := ⟨rfl, rfl, rfl, rfl, rfl, rfl, rfl, rfl, rfl, rfl, rfl, rfl⟩
theorem qB01_y3 : nextJ (qB 2) (qB 3) qB01_h3 [(3, 31), (11, 43), (1, 1), (19, 19), (17, 17)] (roundC Try.prog ltHb0 [(7, pickC)] [] 3000 40 3 [4, 1, 0, 1, 1, 1, 1, 1, 1, 1] (tellA qB01_t3) (qB 2)) = some qB01_d3 := by kernel_rfl
abbrev asHb66 : Q × Bool := ((.le (.bi .mul txHb50 (.int 48)) (.int 281474976710656)), true)
def qB01_t4 : List (Q × Bool) := [asHb5, asHb6, asHb7, asHb30, asHb31, asHb25, asHb15, asHb32, asHb33, asHb18, asHb19, asHb20, asHb53, asHb54, asHb55, asHb66, asHb26]
def qB01_d4 : List Duty := [(true, txHb50, zHb16), (true, txHb50, zHb16), (true, txHb50, zHb16), (false, txHb48, zHb34)]
def qB01_h4 : List (Nat × E) := [(17, (.var 17)), (2, (.var 2)), (9, (.fn 11 zHb10)), (7, (.fn 9 zHb10)), (0, zHb4), (3, zHb11), (4, (.int 0)), (14, zHb17), (15, (.var 15)), (16, (.var 16)), (6, (.var 6)), (13, (.var 13))]
theorem qB01_h4_a : lookE qB01_h4 0 = zHb4 ∧ lookE qB01_h4 2 = (.var 2) ∧ lookE qB01_h4 3 = zHb11 ∧ lookE qB01_h4 4 = (.int 0) ∧ lookE qB01_h4 6 = (.var 6) ∧ lookE qB01_h4 7 = (.fn 9 zHb10) ∧ lookE qB01_h4 9 = (.fn 11 zHb10) ∧ lookE qB01_h4 13 = (.var 13) ∧ lookE qB01_h4 14 = zHb17 ∧ lookE qB01_h4 15 = (.var 15) ∧ lookE qB01_h4 16 = (.var 16) ∧ lookE qB01_h4 17 = (.var 17) := ⟨rfl, rfl, rfl, rfl, rfl, rfl, rfl, rfl, rfl, rfl, rfl, rfl⟩
theorem qB01_y4 : nextJ (qB 2) (qB 2) qB01_h4 [(11, 41), (1, 1), (19, 19), (17, 17)] (roundC Try.prog ltHb0 [(7, pickC)] [] 3000 40 3 [4, 1, 0, 1, 1, 1, 1, 1, 1, 1] (tellA qB01_t4) (qB 2)) = some qB01_d4 := by kernel_rfl
abbrev asHb67 : Q × Bool := ((.le (.var 4) (.int 0)), true)
def qB01_t5 : List (Q × Bool) := [asHb5, asHb6, asHb7, asHb30, asHb31, asHb25, asHb15, asHb32, asHb33, asHb18, asHb19, asHb20, asHb53, asHb35, asHb67, asHb26]
def qB01_d5 : List Duty := [(true, zHb14, zHb16), (true, zHb14, zHb16), (true, zHb14, zHb16), (false, zHb35, zHb34)]
def qB01_h5 : List (Nat × E) := [(17, (.var 17)), (2, (.var 2)), (9, (.fn 11 zHb10)), (7, (.fn 9 zHb10)), (0, zHb4), (3, zHb11), (4, (.int 0)), (14, zHb17), (15, (.var 15)), (16, (.var 16)), (6, (.var 6)), (13, (.var 13))]
theorem qB01_h5_a : lookE qB01_h5 0 = zHb4 ∧ lookE qB01_h5 2 = (.var 2) ∧ lookE qB01_h5 3 = zHb11 ∧ lookE qB01_h5 4 = (.int 0) ∧ lookE qB01_h5 6 = (.var 6) ∧ lookE qB01_h5 7 = (.fn 9 zHb10) ∧ lookE qB01_h5 9 = (.fn 11 zHb10) ∧ lookE qB01_h5 13 = (.var 13) ∧ lookE qB01_h5 14 = zHb17 ∧ lookE qB01_h5 15 = (.var 15) ∧ lookE qB01_h5 16 = (.var 16) ∧ lookE qB01_h5 17 = (.var 17) := ⟨rfl, rfl, rfl, rfl, rfl, rfl, rfl, rfl, rfl, rfl, rfl, rfl⟩
theorem qB01_y5 : nextJ (qB 2) (qB 2) qB01_h5 [(11, 11), (1, 1), (19, 19), (17, 17)] (roundC Try.prog ltHb0 [(7, pickC)] [] 3000 40 3 [4, 1, 0, 1, 1, 1, 1, 1, 1, 1] (tellA qB01_t5) (qB 2)) = some qB01_d5 := by kernel_rfl
def qB01_t6 : List (Q × Bool) := [asHb5, asHb49]
def qB01_d6 : List Duty := [(true, zHb14, zHb21), (true, zHb14, zHb21), dqHb (.var 7) (.fn 9 txHb12) 0, dqHb (.var 7) (.fn 9 txHb12) 1, dqHb (.var 7) (.fn 9 txHb12) 2, dqHb (.var 7) (.fn 9 txHb12) 3, dqHb (.var 7) (.fn 9 txHb12) 4, dqHb (.var 7) (.fn 9 txHb12) 5, dqHb (.var 7) (.fn 9 txHb12) 6, dqHb (.var 7) (.fn 9 txHb12) 7, dqHb (.var 7) (.fn 9 txHb12) 8, dqHb (.var 7) (.fn 9 txHb12) 9, dqHb (.var 7) (.fn 9 txHb12) 10, dqHb (.var 7) (.fn 9 txHb12) 11, dqHb (.var 7) (.fn 9 txHb12) 12, dqHb (.var 7) (.fn 9 txHb12) 13, dqHb (.var 7) (.fn 9 txHb12) 14, dqHb (.var 7) (.fn 9 txHb12) 15, zHb55, zHb51, (true, zHb14, zHb21), (false, zHb35, (.un .code (.fn 30 txHb26)))]
theorem qB01_y6 : endD (qB 2) [(11, 11), (1, 1), (17, 17)] 1000 (roundC Try.prog ltHb0 [(7, pickC)] [] 3000 40 3 [4, 1, 0, 1, 1, 1, 1, 1, 1, 1] (tellA qB01_t6) (qB 2)) = some qB01_d6 := by kernel_rfl
def qB11_t0 : List (Q × Bool) := [asHb5, asHb6, asHb7, asHb8, asHb9, asHb10, asHb11, asHb12, asHb13, asHb14, asHb15, asHb16, asHb17, asHb18, asHb19, asHb20, asHb38, asHb39, asHb40, asHb41, asHb42, asHb43, asHb44, asHb24, asHb25, asHb26]
def qB11_d0 : List Duty := [(true, zHb14, zHb9), (true, zHb14, zHb9), zHb13, zHb13, zHb13, zHb29, (true, zHb14, zHb9), (false, zHb35, zHb20)]
def qB11_h0 : List (Nat × E) := [(17, (.var 17)), (2, (.var 2)), (9, (.fn 11 zHb1)), (7, (.fn 9 zHb1)), (0, zHb4), (3, zHb3), (4, zHb6), (14, zHb5), (15, (.var 15)), (16, (.var 16)), (6, (.var 6)), (13, (.var 13))]
theorem qB11_h0_a : lookE qB11_h0 0 = zHb4 ∧ lookE qB11_h0 2 = (.var 2) ∧ lookE qB11_h0 3 = zHb3 ∧ lookE qB11_h0 4 = zHb6 ∧ lookE qB11_h0 6 = (.var 6) ∧ lookE qB11_h0 7 = (.fn 9 zHb1) ∧ lookE qB11_h0 9 = (.fn 11 zHb1) ∧ lookE qB11_h0 13 = (.var 13) ∧ lookE qB11_h0 14 = zHb5 ∧ lookE qB11_h0 15 = (.var 15) ∧ lookE qB11_h0 16 = (.var 16) ∧ lookE qB11_h0 17 = (.var 17) := ⟨rfl, rfl, rfl, rfl, rfl, rfl, rfl, rfl, rfl, rfl, rfl, rfl⟩
theorem qB11_y0 : nextJ (qB 3) (qB 3) qB11_h0 [(3, 31), (11, 11), (1, 1), (19, 19), (17, 17)] (roundC Try.prog ltHb0 [(7, pickC)] [] 3000 40 3 [4, 1, 0, 1, 1, 1, 1, 1, 1, 1] (tellA qB11_t0) (qB 3)) = some qB11_d0 := by kernel_rfl
abbrev asHb68 : Q × Bool := ((.le (.bi .mul txHb60 (.int 48)) (.int 281474976710656)), true)
def qB11_t1 : List (Q × Bool) := [asHb5, asHb6, asHb7, asHb8, asHb9, asHb10, asHb11, asHb12, asHb13, asHb14, asHb15, asHb16, asHb17, asHb18, asHb19, asHb20, asHb38, asHb39, asHb40, asHb57, asHb58, asHb59, asHb68, asHb24, asHb25, asHb26]
def qB11_d1 : List Duty := [(true, txHb60, zHb9), (true, txHb60, zHb9), (true, txHb60, zHb9), (false, txHb59, zHb20)]
def qB11_h1 : List (Nat × E) := [(17, (.var 17)), (2, (.var 2)), (9, (.fn 11 zHb1)), (7, (.fn 9 zHb1)), (0, zHb4), (3, zHb3), (4, zHb6), (14, zHb5), (15, (.var 15)), (16, (.var 16)), (6, (.var 6)), (13, (.var 13))]
theorem qB11_h1_a : lookE qB11_h1 0 = zHb4 ∧ lookE qB11_h1 2 = (.var 2) ∧ lookE qB11_h1 3 = zHb3 ∧ lookE qB11_h1 4 = zHb6 ∧ lookE qB11_h1 6 = (.var 6) ∧ lookE qB11_h1 7 = (.fn 9 zHb1) ∧ lookE qB11_h1 9 = (.fn 11 zHb1) ∧ lookE qB11_h1 13 = (.var 13) ∧ lookE qB11_h1 14 = zHb5 ∧ lookE qB11_h1 15 = (.var 15) ∧ lookE qB11_h1 16 = (.var 16) ∧ lookE qB11_h1 17 = (.var 17) := ⟨rfl, rfl, rfl, rfl, rfl, rfl, rfl, rfl, rfl, rfl, rfl, rfl⟩
theorem qB11_y1 : nextJ (qB 3) (qB 2) qB11_h1 [(11, 41), (1, 1), (19, 19), (17, 17)] (roundC Try.prog ltHb0 [(7, pickC)] [] 3000 40 3 [4, 1, 0, 1, 1, 1, 1, 1, 1, 1] (tellA qB11_t1) (qB 3)) = some qB11_d1 := by kernel_rfl
def qB11_t2 : List (Q × Bool) := [asHb5, asHb6, asHb7, asHb8, asHb9, asHb10, asHb11, asHb12, asHb13, asHb14, asHb15, asHb16, asHb17, asHb18, asHb19, asHb20, asHb38, asHb39, asHb40, asHb41, asHb58, asHb43, asHb44, asHb59, asHb68, asHb24, asHb25, asHb26]
def qB11_d2 : List Duty := [(true, txHb60, zHb9), (true, txHb60, zHb9), zHb13, zHb13, zHb13, zHb29, (true, txHb60, zHb9), (false, txHb59, zHb20)]
def qB11_h2 : List (Nat × E) := [(17, (.var 17)), (2, (.var 2)), (9, (.fn 11 zHb1)), (7, (.fn 9 zHb1)), (0, zHb4), (3, zHb3), (4, zHb6), (14, zHb5), (15, (.var 15)), (16, (.var 16)), (6, (.var 6)), (13, (.var 13))]
theorem qB11_h2_a : lookE qB11_h2 0 = zHb4 ∧ lookE qB11_h2 2 = (.var 2) ∧ lookE qB11_h2 3 = zHb3 ∧ lookE qB11_h2 4 = zHb6 ∧ lookE qB11_h2 6 = (.var 6) ∧ lookE qB11_h2 7 = (.fn 9 zHb1) ∧ lookE qB11_h2 9 = (.fn 11 zHb1) ∧ lookE qB11_h2 13 = (.var 13) ∧ lookE qB11_h2 14 = zHb5 ∧ lookE qB11_h2 15 = (.var 15) ∧ lookE qB11_h2 16 = (.var 16) ∧ lookE qB11_h2 17 = (.var 17) := ⟨rfl, rfl, rfl, rfl, rfl, rfl, rfl, rfl, rfl, rfl, rfl, rfl⟩
theorem qB11_y2 : nextJ (qB 3) (qB 3) qB11_h2 [(3, 31), (11, 43), (1, 1), (19, 19), (17, 17)] (roundC Try.prog ltHb0 [(7, pickC)] [] 3000 40 3 [4, 1, 0, 1, 1, 1, 1, 1, 1, 1] (tellA qB11_t2) (qB 3)) = some qB11_d2 := by kernel_rfl
abbrev asHb69 : Q × Bool := ((.le (.bi .mul txHb58 (.int 48)) (.int 281474976710656)), true)
def qB11_t3 : List (Q × Bool) := [asHb5, asHb6, asHb7, asHb30, asHb31, asHb25, asHb15, asHb32, asHb33, asHb18, asHb19, asHb20, asHb38, asHb39, asHb40, asHb61, asHb62, asHb63, asHb69, asHb26]
def qB11_d3 : List Duty := [(true, txHb58, zHb16), (true, txHb58, zHb16), (true, txHb58, zHb16), (false, txHb57, zHb34)]
def qB11_h3 : List (Nat × E) := [(17, (.var 17)), (2, (.var 2)), (9, (.fn 11 zHb10)), (7, (.fn 9 zHb10)), (0, zHb4), (3, zHb11), (4, (.int 0)), (14, zHb17), (15, (.var 15)), (16, (.var 16)), (6, (.var 6)), (13, (.var 13))]
theorem qB11_h3_a : lookE qB11_h3 0 = zHb4 ∧ lookE qB11_h3 2 = (.var 2) ∧ lookE qB11_h3 3 = zHb11 ∧ lookE qB11_h3 4 = (.int 0) ∧ lookE qB11_h3 6 = (.var 6) ∧ lookE qB11_h3 7 = (.fn 9 zHb10) ∧ lookE qB11_h3 9 = (.fn 11 zHb10) ∧ lookE qB11_h3 13 = (.var 13) ∧ lookE qB11_h3 14 = zHb17 ∧ lookE qB11_h3 15 = (.var 15) ∧ lookE qB11_h3 16 = (.var 16) ∧ lookE qB11_h3 17 = (.var 17) := ⟨rfl, rfl, rfl, rfl, rfl, rfl, rfl, rfl, rfl, rfl, rfl, rfl⟩
theorem qB11_y3 : nextJ (qB 3) (qB 2) qB11_h3 [(11, 41), (1, 1), (19, 19), (17, 17)] (roundC Try.prog ltHb0 [(7, pickC)] [] 3000 40 3 [4, 1, 0, 1, 1, 1, 1, 1, 1, 1] (tellA qB11_t3) (qB 3)) = some qB11_d3 := by kernel_rfl
set_option maxHeartbeats 16000000 in
theorem qB_holds : ∀ i, i < 4 → LHolds Try.prog (loopAt Try.prog 3 [4, 1, 0, 1, 1, 1, 1, 1, 1, 1]) (qB i) F := by
 refine loop_famC sound (tableCons jA00_holds (tableCons jA10_holds (tableCons jB00_holds (tableCons jB10_holds (tableCons jC00_holds (tableCons jC10_holds (tableCons jD00_holds (tableNil _ _)))))))) (specsCons pickC_holds (specsNil _ _)) (oversNil _ _) (fuel := 3000) (depth := 40) (by kernel_rfl) (fun i d => match i with | 0 => ((d 15).toInt + 1 - (d 0).toInt).toNat | 1 => ((d 15).toInt + 1 - (d 0).toInt).toNat | 2 => ((d 15).toInt + 1 - (d 0).toInt).toNat | _ => ((d 15).toInt + 1 - (d 0).toInt).toNat) ?_
 intro i hi d hp hR hA
 match i, hi with
 | 0, _ =>
   have hp := allTold'_iff.2 hp
   simp only [qB, qB00, tl] at hp hR hA
   simp only [F9, F11, F20, F21, F40, F41, D.toInt_int, D.ints_ofInts, UO.den] at hp
   obtain ⟨p0, p1, p2, p3, p4, p5, p6, p7, p8, p9, p10, p11, p12, p13, p14, p15, p16⟩ := hp
   have p2 := one_of p2
   have hX := canon p10
   have hxl : (d 2).ints.length = (d 6).toInt := by omega
   have hm := cuts_in (x := (d 2).ints) (o := 0) (t := (d 3).toInt) (i := 0) (n := 0) (Int.le_refl 0) p6
   have hm9 := cuts_small (x := (d 2).ints) (o := 0) (t := (d 3).toInt) (i := 0) (n := 0) (by omega)
   have m0 : (cutsT (d 2).ints 0 (d 3).toInt 0 0).2 = 0 := by omega
   by_cases hx : (d 0).toInt ≤ (d 15).toInt
   ·by_cases hi : (d 15).toInt ≤ (d 0).toInt
    ·have ht0 : 0 ≤ (d 4).toInt := by omega
     have ht1 : (d 3).toInt + (d 4).toInt ≤ (d 6).toInt := by omega
     obtain ⟨hs, hc, hl, hk, he, hm8, hn1, hn2, h1, h2, h3, h4⟩ := leafs (t := (d 3).toInt + (d 4).toInt) hX p6 (by omega) ht1 hxl m0 (left_nil p6 (by omega) m0)
     rw [List.nil_append] at hl
     have q15 := p15
     have q16 := p16
     rw [← p8] at q15 q16
     have hg0 : chT (d 2) 0 (d 3).toInt 0 0 (D.ofInts []) = [] := List.eq_nil_of_length_eq_zero (by rw [ch_len]; omega)
     by_cases ha : 1 ≤ (cutsT (d 2).ints 0 ((d 3).toInt + (d 4).toInt) (d 3).toInt 0).2
     ·by_cases hb : 0 < (cutsT (d 2).ints 0 ((d 3).toInt + (d 4).toInt) (d 3).toInt 0).1.length
      ·exfalso
       omega
      exfalso
      omega
     by_cases hb : 0 < (cutsT (d 2).ints 0 ((d 3).toInt + (d 4).toInt) (d 3).toInt 0).1.length
     ·refine ⟨tellA qB00_t4, tellA_ok (allTold'_iff.1 ?_), .inr ⟨2, qB00_h4, _, _, by decide, qB00_y4, dutiesTold_ok ?_, allTold'_iff.1 ?_, ?_⟩⟩
      all_goals try simp only [qB00_t4, qB00_d4, qB, qB00, qB10, qB01, qB11, qB00_h4_a, fq, hc, hg0, ch_len, tl]
      all_goals first | done | omega | (and_intros <;> first | omega | assumption | rfl | exact one_to (.inl (by omega)) | exact one_to (.inr (by omega)) | exact one_to (.inr trivial) | exact trivial)
     exfalso
     have hz := cuts_none (x := (d 2).ints) (o := 0) (t := (d 3).toInt + (d 4).toInt) (i := (d 3).toInt) (n := 0) (by omega) (by omega) (by omega) (by omega)
     omega
    have hN := emod_in (x := (d 17).ints[(d 0).toInt.toNat]?.getD 0) (n := (d 4).toInt + 1) (by omega)
    generalize hNq : ((d 17).ints[(d 0).toInt.toNat]?.getD 0 % ((d 4).toInt + 1)) = N at *
    have ht0 : 0 ≤ N := by omega
    have ht1 : (d 3).toInt + N ≤ (d 6).toInt := by omega
    obtain ⟨hs, hc, hl, hk, he, hm8, hn1, hn2, h1, h2, h3, h4⟩ := leafs (t := (d 3).toInt + N) hX p6 (by omega) ht1 hxl m0 (left_nil p6 (by omega) m0)
    rw [List.nil_append] at hl
    have hg0 : chT (d 2) 0 (d 3).toInt 0 0 (D.ofInts []) = [] := List.eq_nil_of_length_eq_zero (by rw [ch_len]; omega)
    by_cases ha : 1 ≤ (cutsT (d 2).ints 0 ((d 3).toInt + N) (d 3).toInt 0).2
    ·by_cases hb : 0 < (cutsT (d 2).ints 0 ((d 3).toInt + N) (d 3).toInt 0).1.length
     ·refine ⟨tellA qB00_t3, tellA_ok (allTold'_iff.1 ?_), .inr ⟨3, qB00_h3, _, _, by decide, qB00_y3, dutiesTold_ok ?_, allTold'_iff.1 ?_, ?_⟩⟩
      all_goals try simp only [qB00_t3, qB00_d3, qB, qB00, qB10, qB01, qB11, qB00_h3_a, fq, hc, hg0, ch_len, hNq, tl]
      all_goals first | done | omega | (and_intros <;> first | omega | assumption | rfl | exact one_to (.inl (by omega)) | exact one_to (.inr (by omega)) | exact one_to (.inr trivial) | exact trivial)
     have hC0 : chT (d 2) 0 ((d 3).toInt + N) (d 3).toInt 0 (D.ofInts []) = [] := List.eq_nil_of_length_eq_zero (by rw [ch_len]; omega)
     refine ⟨tellA qB00_t1, tellA_ok (allTold'_iff.1 ?_), .inr ⟨1, qB00_h1, _, _, by decide, qB00_y1, dutiesTold_ok ?_, allTold'_iff.1 ?_, ?_⟩⟩
     all_goals try simp only [qB00_t1, qB00_d1, qB, qB00, qB10, qB01, qB11, qB00_h1_a, fq, hc, hg0, hC0, ch_len, hNq, tl]
     all_goals first | done | omega | (and_intros <;> first | omega | assumption | rfl | exact one_to (.inl (by omega)) | exact one_to (.inr (by omega)) | exact one_to (.inr trivial) | exact trivial)
    by_cases hb : 0 < (cutsT (d 2).ints 0 ((d 3).toInt + N) (d 3).toInt 0).1.length
    ·refine ⟨tellA qB00_t2, tellA_ok (allTold'_iff.1 ?_), .inr ⟨2, qB00_h2, _, _, by decide, qB00_y2, dutiesTold_ok ?_, allTold'_iff.1 ?_, ?_⟩⟩
     all_goals try simp only [qB00_t2, qB00_d2, qB, qB00, qB10, qB01, qB11, qB00_h2_a, fq, hc, hg0, ch_len, hNq, tl]
     all_goals first | done | omega | (and_intros <;> first | omega | assumption | rfl | exact one_to (.inl (by omega)) | exact one_to (.inr (by omega)) | exact one_to (.inr trivial) | exact trivial)
    have hC0 : chT (d 2) 0 ((d 3).toInt + N) (d 3).toInt 0 (D.ofInts []) = [] := List.eq_nil_of_length_eq_zero (by rw [ch_len]; omega)
    have hz := cuts_none (x := (d 2).ints) (o := 0) (t := (d 3).toInt + N) (i := (d 3).toInt) (n := 0) (by omega) (by omega) (by omega) (by omega)
    refine ⟨tellA qB00_t0, tellA_ok (allTold'_iff.1 ?_), .inr ⟨0, qB00_h0, _, _, by decide, qB00_y0, dutiesTold_ok ?_, allTold'_iff.1 ?_, ?_⟩⟩
    all_goals try simp only [qB00_t0, qB00_d0, qB, qB00, qB10, qB01, qB11, qB00_h0_a, fq, hc, hg0, hC0, ch_len, hNq, tl]
    all_goals first | done | omega | (and_intros <;> first | omega | assumption | rfl | exact one_to (.inl (by omega)) | exact one_to (.inr (by omega)) | exact one_to (.inr trivial) | exact trivial)
   exfalso
   have ex : (d 3).toInt = (d 6).toInt := by omega
   rw [ex] at p13 p14
   omega
 | 1, _ =>
   have hp := allTold'_iff.2 hp
   simp only [qB, qB10, tl] at hp hR hA
   simp only [F9, F11, F20, F21, F40, F41, D.toInt_int, D.ints_ofInts, UO.den] at hp
   obtain ⟨p0, p1, p2, p3, p4, p5, p6, p7, p8, p9, p10, p11, p12, p13, p14, p15, p16⟩ := hp
   have p2 := one_of p2
   have hX := canon p10
   have hxl : (d 2).ints.length = (d 6).toInt := by omega
   have hm := cuts_in (x := (d 2).ints) (o := 0) (t := (d 3).toInt) (i := 0) (n := 0) (Int.le_refl 0) p6
   have hm9 := cuts_small (x := (d 2).ints) (o := 0) (t := (d 3).toInt) (i := 0) (n := 0) (by omega)
   by_cases hx : (d 0).toInt ≤ (d 15).toInt
   ·by_cases hi : (d 15).toInt ≤ (d 0).toInt
    ·have ht0 : 0 ≤ (d 4).toInt := by omega
     have ht1 : (d 3).toInt + (d 4).toInt ≤ (d 6).toInt := by omega
     obtain ⟨hs, hc, hl, hk, he, hm8, hn1, hn2, h1, h2, h3, h4⟩ := leafs (t := (d 3).toInt + (d 4).toInt) hX p6 (by omega) ht1 hxl rfl rfl
     have q15 := p15
     have q16 := p16
     rw [← p8] at q15 q16
     have hg0 : chT (d 2) 0 (d 3).toInt 0 0 (D.ofInts []) = [] := List.eq_nil_of_length_eq_zero (by rw [ch_len]; omega)
     by_cases ha : 1 ≤ (cutsT (d 2).ints 0 ((d 3).toInt + (d 4).toInt) (d 3).toInt (cutsT (d 2).ints 0 (d 3).toInt 0 0).2).2
     ·by_cases hb : 0 < (cutsT (d 2).ints 0 ((d 3).toInt + (d 4).toInt) (d 3).toInt (cutsT (d 2).ints 0 (d 3).toInt 0 0).2).1.length
      ·exfalso
       omega
      exfalso
      omega
     by_cases hb : 0 < (cutsT (d 2).ints 0 ((d 3).toInt + (d 4).toInt) (d 3).toInt (cutsT (d 2).ints 0 (d 3).toInt 0 0).2).1.length
     ·refine ⟨tellA qB10_t3, tellA_ok (allTold'_iff.1 ?_), .inr ⟨2, qB10_h3, _, _, by decide, qB10_y3, dutiesTold_ok ?_, allTold'_iff.1 ?_, ?_⟩⟩
      all_goals try simp only [qB10_t3, qB10_d3, qB, qB00, qB10, qB01, qB11, qB10_h3_a, fq, hc, hg0, ch_len, tl]
      all_goals first | done | omega | (and_intros <;> first | omega | assumption | rfl | exact one_to (.inl (by omega)) | exact one_to (.inr (by omega)) | exact one_to (.inr trivial) | exact trivial)
     exfalso
     have hz := cuts_none (x := (d 2).ints) (o := 0) (t := (d 3).toInt + (d 4).toInt) (i := (d 3).toInt) (n := (cutsT (d 2).ints 0 (d 3).toInt 0 0).2) (by omega) (by omega) (by omega) (by omega)
     omega
    have hN := emod_in (x := (d 17).ints[(d 0).toInt.toNat]?.getD 0) (n := (d 4).toInt + 1) (by omega)
    generalize hNq : ((d 17).ints[(d 0).toInt.toNat]?.getD 0 % ((d 4).toInt + 1)) = N at *
    have ht0 : 0 ≤ N := by omega
    have ht1 : (d 3).toInt + N ≤ (d 6).toInt := by omega
    obtain ⟨hs, hc, hl, hk, he, hm8, hn1, hn2, h1, h2, h3, h4⟩ := leafs (t := (d 3).toInt + N) hX p6 (by omega) ht1 hxl rfl rfl
    have hg0 : chT (d 2) 0 (d 3).toInt 0 0 (D.ofInts []) = [] := List.eq_nil_of_length_eq_zero (by rw [ch_len]; omega)
    by_cases ha : 1 ≤ (cutsT (d 2).ints 0 ((d 3).toInt + N) (d 3).toInt (cutsT (d 2).ints 0 (d 3).toInt 0 0).2).2
    ·by_cases hb : 0 < (cutsT (d 2).ints 0 ((d 3).toInt + N) (d 3).toInt (cutsT (d 2).ints 0 (d 3).toInt 0 0).2).1.length
     ·refine ⟨tellA qB10_t2, tellA_ok (allTold'_iff.1 ?_), .inr ⟨3, qB10_h2, _, _, by decide, qB10_y2, dutiesTold_ok ?_, allTold'_iff.1 ?_, ?_⟩⟩
      all_goals try simp only [qB10_t2, qB10_d2, qB, qB00, qB10, qB01, qB11, qB10_h2_a, fq, hc, hg0, ch_len, hNq, tl]
      all_goals first | done | omega | (and_intros <;> first | omega | assumption | rfl | exact one_to (.inl (by omega)) | exact one_to (.inr (by omega)) | exact one_to (.inr trivial) | exact trivial)
     have hC0 : chT (d 2) 0 ((d 3).toInt + N) (d 3).toInt (cutsT (d 2).ints 0 (d 3).toInt 0 0).2 (D.ofInts (leftI (d 2).ints (d 3).toInt)) = [] := List.eq_nil_of_length_eq_zero (by rw [ch_len]; omega)
     refine ⟨tellA qB10_t0, tellA_ok (allTold'_iff.1 ?_), .inr ⟨1, qB10_h0, _, _, by decide, qB10_y0, dutiesTold_ok ?_, allTold'_iff.1 ?_, ?_⟩⟩
     all_goals try simp only [qB10_t0, qB10_d0, qB, qB00, qB10, qB01, qB11, qB10_h0_a, fq, hc, hg0, hC0, ch_len, hNq, tl]
     all_goals first | done | omega | (and_intros <;> first | omega | assumption | rfl | exact one_to (.inl (by omega)) | exact one_to (.inr (by omega)) | exact one_to (.inr trivial) | exact trivial)
    by_cases hb : 0 < (cutsT (d 2).ints 0 ((d 3).toInt + N) (d 3).toInt (cutsT (d 2).ints 0 (d 3).toInt 0 0).2).1.length
    ·refine ⟨tellA qB10_t1, tellA_ok (allTold'_iff.1 ?_), .inr ⟨2, qB10_h1, _, _, by decide, qB10_y1, dutiesTold_ok ?_, allTold'_iff.1 ?_, ?_⟩⟩
     all_goals try simp only [qB10_t1, qB10_d1, qB, qB00, qB10, qB01, qB11, qB10_h1_a, fq, hc, hg0, ch_len, hNq, tl]
     all_goals first | done | omega | (and_intros <;> first | omega | assumption | rfl | exact one_to (.inl (by omega)) | exact one_to (.inr (by omega)) | exact one_to (.inr trivial) | exact trivial)
    exfalso
    have hz := cuts_none (x := (d 2).ints) (o := 0) (t := (d 3).toInt + N) (i := (d 3).toInt) (n := (cutsT (d 2).ints 0 (d 3).toInt 0 0).2) (by omega) (by omega) (by omega) (by omega)
    omega
   exfalso
   have ex : (d 3).toInt = (d 6).toInt := by omega
   rw [ex] at p13 p14
   omega
 | 2, _ =>
   have hp := allTold'_iff.2 hp
   simp only [qB, qB01, tl] at hp hR hA
   simp only [F9, F11, F20, F21, F40, F41, D.toInt_int, D.ints_ofInts, UO.den] at hp
   obtain ⟨p0, p1, p2, p3, p4, p5, p6, p7, p8, p9, p10, p11, p12, p13, p14, p15, p16⟩ := hp
   have p2 := one_of p2
   have hX := canon p10
   have hxl : (d 2).ints.length = (d 6).toInt := by omega
   have hm := cuts_in (x := (d 2).ints) (o := 0) (t := (d 3).toInt) (i := 0) (n := 0) (Int.le_refl 0) p6
   have hm9 := cuts_small (x := (d 2).ints) (o := 0) (t := (d 3).toInt) (i := 0) (n := 0) (by omega)
   have m0 : (cutsT (d 2).ints 0 (d 3).toInt 0 0).2 = 0 := by omega
   by_cases hx : (d 0).toInt ≤ (d 15).toInt
   ·by_cases hi : (d 15).toInt ≤ (d 0).toInt
    ·have ht0 : 0 ≤ (d 4).toInt := by omega
     have ht1 : (d 3).toInt + (d 4).toInt ≤ (d 6).toInt := by omega
     obtain ⟨hs, hc, hl, hk, he, hm8, hn1, hn2, h1, h2, h3, h4⟩ := leafs (t := (d 3).toInt + (d 4).toInt) hX p6 (by omega) ht1 hxl m0 (left_nil p6 (by omega) m0)
     rw [List.nil_append] at hl
     have q15 := p15
     have q16 := p16
     rw [← p8] at q15 q16
     by_cases ha : 1 ≤ (cutsT (d 2).ints 0 ((d 3).toInt + (d 4).toInt) (d 3).toInt 0).2
     ·by_cases hb : 0 < (cutsT (d 2).ints 0 ((d 3).toInt + (d 4).toInt) (d 3).toInt 0).1.length
      ·exfalso
       omega
      exfalso
      omega
     by_cases hb : 0 < (cutsT (d 2).ints 0 ((d 3).toInt + (d 4).toInt) (d 3).toInt 0).1.length
     ·refine ⟨tellA qB01_t4, tellA_ok (allTold'_iff.1 ?_), .inr ⟨2, qB01_h4, _, _, by decide, qB01_y4, dutiesTold_ok ?_, allTold'_iff.1 ?_, ?_⟩⟩
      all_goals try simp only [qB01_t4, qB01_d4, qB, qB00, qB10, qB01, qB11, qB01_h4_a, fq, hc, ch_len, tl]
      all_goals first | done | omega | (and_intros <;> first | omega | assumption | rfl | exact one_to (.inl (by omega)) | exact one_to (.inr (by omega)) | exact one_to (.inr trivial) | exact trivial)
     have hC0 : chT (d 2) 0 ((d 3).toInt + (d 4).toInt) (d 3).toInt 0 (D.ofInts []) = [] := List.eq_nil_of_length_eq_zero (by rw [ch_len]; omega)
     have hz := cuts_none (x := (d 2).ints) (o := 0) (t := (d 3).toInt + (d 4).toInt) (i := (d 3).toInt) (n := 0) (by omega) (by omega) (by omega) (by omega)
     refine ⟨tellA qB01_t5, tellA_ok (allTold'_iff.1 ?_), .inr ⟨2, qB01_h5, _, _, by decide, qB01_y5, dutiesTold_ok ?_, allTold'_iff.1 ?_, ?_⟩⟩
     all_goals try simp only [qB01_t5, qB01_d5, qB, qB00, qB10, qB01, qB11, qB01_h5_a, fq, hc, hC0, ch_len, tl]
     all_goals first | done | omega | (and_intros <;> first | omega | assumption | rfl | exact one_to (.inl (by omega)) | exact one_to (.inr (by omega)) | exact one_to (.inr trivial) | exact trivial)
    have hN := emod_in (x := (d 17).ints[(d 0).toInt.toNat]?.getD 0) (n := (d 4).toInt + 1) (by omega)
    generalize hNq : ((d 17).ints[(d 0).toInt.toNat]?.getD 0 % ((d 4).toInt + 1)) = N at *
    have ht0 : 0 ≤ N := by omega
    have ht1 : (d 3).toInt + N ≤ (d 6).toInt := by omega
    obtain ⟨hs, hc, hl, hk, he, hm8, hn1, hn2, h1, h2, h3, h4⟩ := leafs (t := (d 3).toInt + N) hX p6 (by omega) ht1 hxl m0 (left_nil p6 (by omega) m0)
    rw [List.nil_append] at hl
    by_cases ha : 1 ≤ (cutsT (d 2).ints 0 ((d 3).toInt + N) (d 3).toInt 0).2
    ·by_cases hb : 0 < (cutsT (d 2).ints 0 ((d 3).toInt + N) (d 3).toInt 0).1.length
     ·refine ⟨tellA qB01_t3, tellA_ok (allTold'_iff.1 ?_), .inr ⟨3, qB01_h3, _, _, by decide, qB01_y3, dutiesTold_ok ?_, allTold'_iff.1 ?_, ?_⟩⟩
      all_goals try simp only [qB01_t3, qB01_d3, qB, qB00, qB10, qB01, qB11, qB01_h3_a, fq, hc, ch_len, hNq, tl]
      all_goals first | done | omega | (and_intros <;> first | omega | assumption | rfl | exact one_to (.inl (by omega)) | exact one_to (.inr (by omega)) | exact one_to (.inr trivial) | exact trivial)
     have hC0 : chT (d 2) 0 ((d 3).toInt + N) (d 3).toInt 0 (D.ofInts []) = [] := List.eq_nil_of_length_eq_zero (by rw [ch_len]; omega)
     refine ⟨tellA qB01_t1, tellA_ok (allTold'_iff.1 ?_), .inr ⟨3, qB01_h1, _, _, by decide, qB01_y1, dutiesTold_ok ?_, allTold'_iff.1 ?_, ?_⟩⟩
     all_goals try simp only [qB01_t1, qB01_d1, qB, qB00, qB10, qB01, qB11, qB01_h1_a, fq, hc, hC0, ch_len, hNq, tl]
     all_goals first | done | omega | (and_intros <;> first | omega | assumption | rfl | exact one_to (.inl (by omega)) | exact one_to (.inr (by omega)) | exact one_to (.inr trivial) | exact trivial)
    by_cases hb : 0 < (cutsT (d 2).ints 0 ((d 3).toInt + N) (d 3).toInt 0).1.length
    ·refine ⟨tellA qB01_t2, tellA_ok (allTold'_iff.1 ?_), .inr ⟨2, qB01_h2, _, _, by decide, qB01_y2, dutiesTold_ok ?_, allTold'_iff.1 ?_, ?_⟩⟩
     all_goals try simp only [qB01_t2, qB01_d2, qB, qB00, qB10, qB01, qB11, qB01_h2_a, fq, hc, ch_len, hNq, tl]
     all_goals first | done | omega | (and_intros <;> first | omega | assumption | rfl | exact one_to (.inl (by omega)) | exact one_to (.inr (by omega)) | exact one_to (.inr trivial) | exact trivial)
    have hC0 : chT (d 2) 0 ((d 3).toInt + N) (d 3).toInt 0 (D.ofInts []) = [] := List.eq_nil_of_length_eq_zero (by rw [ch_len]; omega)
    have hz := cuts_none (x := (d 2).ints) (o := 0) (t := (d 3).toInt + N) (i := (d 3).toInt) (n := 0) (by omega) (by omega) (by omega) (by omega)
    refine ⟨tellA qB01_t0, tellA_ok (allTold'_iff.1 ?_), .inr ⟨2, qB01_h0, _, _, by decide, qB01_y0, dutiesTold_ok ?_, allTold'_iff.1 ?_, ?_⟩⟩
    all_goals try simp only [qB01_t0, qB01_d0, qB, qB00, qB10, qB01, qB11, qB01_h0_a, fq, hc, hC0, ch_len, hNq, tl]
    all_goals first | done | omega | (and_intros <;> first | omega | assumption | rfl | exact one_to (.inl (by omega)) | exact one_to (.inr (by omega)) | exact one_to (.inr trivial) | exact trivial)
   have ex : (d 3).toInt = (d 6).toInt := by omega
   rw [ex] at p11 p12
   refine ⟨tellA qB01_t6, tellA_ok (allTold'_iff.1 ?_), .inl ⟨_, _, _, qB01_y6, dutiesTold_ok ?_⟩⟩
   ·simp only [qB01_t6, fq, tl]
    first | done | (and_intros <;> first | omega | assumption | rfl | exact one_to (.inl (by omega)) | exact one_to (.inr (by omega)) | exact one_to (.inr trivial) | exact trivial)
   ·simp only [qB01_d6, fq, ex, p11, tl]
    first | done | (and_intros <;> first | omega | assumption | rfl | exact one_to (.inl (by omega)) | exact one_to (.inr (by omega)) | exact one_to (.inr trivial) | exact trivial)
 | 3, _ =>
   have hp := allTold'_iff.2 hp
   simp only [qB, qB11, tl] at hp hR hA
   simp only [F9, F11, F20, F21, F40, F41, D.toInt_int, D.ints_ofInts, UO.den] at hp
   obtain ⟨p0, p1, p2, p3, p4, p5, p6, p7, p8, p9, p10, p11, p12, p13, p14, p15, p16⟩ := hp
   have p2 := one_of p2
   have hX := canon p10
   have hxl : (d 2).ints.length = (d 6).toInt := by omega
   have hm := cuts_in (x := (d 2).ints) (o := 0) (t := (d 3).toInt) (i := 0) (n := 0) (Int.le_refl 0) p6
   have hm9 := cuts_small (x := (d 2).ints) (o := 0) (t := (d 3).toInt) (i := 0) (n := 0) (by omega)
   by_cases hx : (d 0).toInt ≤ (d 15).toInt
   ·by_cases hi : (d 15).toInt ≤ (d 0).toInt
    ·have ht0 : 0 ≤ (d 4).toInt := by omega
     have ht1 : (d 3).toInt + (d 4).toInt ≤ (d 6).toInt := by omega
     obtain ⟨hs, hc, hl, hk, he, hm8, hn1, hn2, h1, h2, h3, h4⟩ := leafs (t := (d 3).toInt + (d 4).toInt) hX p6 (by omega) ht1 hxl rfl rfl
     have q15 := p15
     have q16 := p16
     rw [← p8] at q15 q16
     by_cases ha : 1 ≤ (cutsT (d 2).ints 0 ((d 3).toInt + (d 4).toInt) (d 3).toInt (cutsT (d 2).ints 0 (d 3).toInt 0 0).2).2
     ·by_cases hb : 0 < (cutsT (d 2).ints 0 ((d 3).toInt + (d 4).toInt) (d 3).toInt (cutsT (d 2).ints 0 (d 3).toInt 0 0).2).1.length
      ·exfalso
       omega
      exfalso
      omega
     by_cases hb : 0 < (cutsT (d 2).ints 0 ((d 3).toInt + (d 4).toInt) (d 3).toInt (cutsT (d 2).ints 0 (d 3).toInt 0 0).2).1.length
     ·refine ⟨tellA qB11_t3, tellA_ok (allTold'_iff.1 ?_), .inr ⟨2, qB11_h3, _, _, by decide, qB11_y3, dutiesTold_ok ?_, allTold'_iff.1 ?_, ?_⟩⟩
      all_goals try simp only [qB11_t3, qB11_d3, qB, qB00, qB10, qB01, qB11, qB11_h3_a, fq, hc, ch_len, tl]
      all_goals first | done | omega | (and_intros <;> first | omega | assumption | rfl | exact one_to (.inl (by omega)) | exact one_to (.inr (by omega)) | exact one_to (.inr trivial) | exact trivial)
     exfalso
     have hz := cuts_none (x := (d 2).ints) (o := 0) (t := (d 3).toInt + (d 4).toInt) (i := (d 3).toInt) (n := (cutsT (d 2).ints 0 (d 3).toInt 0 0).2) (by omega) (by omega) (by omega) (by omega)
     omega
    have hN := emod_in (x := (d 17).ints[(d 0).toInt.toNat]?.getD 0) (n := (d 4).toInt + 1) (by omega)
    generalize hNq : ((d 17).ints[(d 0).toInt.toNat]?.getD 0 % ((d 4).toInt + 1)) = N at *
    have ht0 : 0 ≤ N := by omega
    have ht1 : (d 3).toInt + N ≤ (d 6).toInt := by omega
    obtain ⟨hs, hc, hl, hk, he, hm8, hn1, hn2, h1, h2, h3, h4⟩ := leafs (t := (d 3).toInt + N) hX p6 (by omega) ht1 hxl rfl rfl
    by_cases ha : 1 ≤ (cutsT (d 2).ints 0 ((d 3).toInt + N) (d 3).toInt (cutsT (d 2).ints 0 (d 3).toInt 0 0).2).2
    ·by_cases hb : 0 < (cutsT (d 2).ints 0 ((d 3).toInt + N) (d 3).toInt (cutsT (d 2).ints 0 (d 3).toInt 0 0).2).1.length
     ·refine ⟨tellA qB11_t2, tellA_ok (allTold'_iff.1 ?_), .inr ⟨3, qB11_h2, _, _, by decide, qB11_y2, dutiesTold_ok ?_, allTold'_iff.1 ?_, ?_⟩⟩
      all_goals try simp only [qB11_t2, qB11_d2, qB, qB00, qB10, qB01, qB11, qB11_h2_a, fq, hc, ch_len, hNq, tl]
      all_goals first | done | omega | (and_intros <;> first | omega | assumption | rfl | exact one_to (.inl (by omega)) | exact one_to (.inr (by omega)) | exact one_to (.inr trivial) | exact trivial)
     have hC0 : chT (d 2) 0 ((d 3).toInt + N) (d 3).toInt (cutsT (d 2).ints 0 (d 3).toInt 0 0).2 (D.ofInts (leftI (d 2).ints (d 3).toInt)) = [] := List.eq_nil_of_length_eq_zero (by rw [ch_len]; omega)
     refine ⟨tellA qB11_t0, tellA_ok (allTold'_iff.1 ?_), .inr ⟨3, qB11_h0, _, _, by decide, qB11_y0, dutiesTold_ok ?_, allTold'_iff.1 ?_, ?_⟩⟩
     all_goals try simp only [qB11_t0, qB11_d0, qB, qB00, qB10, qB01, qB11, qB11_h0_a, fq, hc, hC0, ch_len, hNq, tl]
     all_goals first | done | omega | (and_intros <;> first | omega | assumption | rfl | exact one_to (.inl (by omega)) | exact one_to (.inr (by omega)) | exact one_to (.inr trivial) | exact trivial)
    by_cases hb : 0 < (cutsT (d 2).ints 0 ((d 3).toInt + N) (d 3).toInt (cutsT (d 2).ints 0 (d 3).toInt 0 0).2).1.length
    ·refine ⟨tellA qB11_t1, tellA_ok (allTold'_iff.1 ?_), .inr ⟨2, qB11_h1, _, _, by decide, qB11_y1, dutiesTold_ok ?_, allTold'_iff.1 ?_, ?_⟩⟩
     all_goals try simp only [qB11_t1, qB11_d1, qB, qB00, qB10, qB01, qB11, qB11_h1_a, fq, hc, ch_len, hNq, tl]
     all_goals first | done | omega | (and_intros <;> first | omega | assumption | rfl | exact one_to (.inl (by omega)) | exact one_to (.inr (by omega)) | exact one_to (.inr trivial) | exact trivial)
    exfalso
    have hz := cuts_none (x := (d 2).ints) (o := 0) (t := (d 3).toInt + N) (i := (d 3).toInt) (n := (cutsT (d 2).ints 0 (d 3).toInt 0 0).2) (by omega) (by omega) (by omega) (by omega)
    omega
   exfalso
   have ex : (d 3).toInt = (d 6).toInt := by omega
   rw [ex] at p13 p14
   omega
theorem qB00_holds : LHolds Try.prog (loopAt Try.prog 3 [4, 1, 0, 1, 1, 1, 1, 1, 1, 1]) qB00 F := qB_holds 0 (by decide)
theorem qB10_holds : LHolds Try.prog (loopAt Try.prog 3 [4, 1, 0, 1, 1, 1, 1, 1, 1, 1]) qB10 F := qB_holds 1 (by decide)
theorem qB01_holds : LHolds Try.prog (loopAt Try.prog 3 [4, 1, 0, 1, 1, 1, 1, 1, 1, 1]) qB01 F := qB_holds 2 (by decide)
theorem qB11_holds : LHolds Try.prog (loopAt Try.prog 3 [4, 1, 0, 1, 1, 1, 1, 1, 1, 1]) qB11 F := qB_holds 3 (by decide)

def qC00 : LSpec := { n := 93, next := 10, pat := [(0, .sslice 17 (.int 0) (.var 6) (.var 13) false), (1, .sslice 19 (.int 0) (.var 15) (.var 16) false), (6, .ptr 1 0), (7, .nilslice), (8, .sslice 17 (.var 3) (.var 4) (.var 14) false), (9, .sint .i64 (.var 0))], rows := [zHb7, zHb32, zHb30], pre := [(.le (.int 0) (.var 0), true), (.le (.var 0) zHb36, true), (.eq zHb31 (.int 1), true), (.le (.var 15) (.int 100), true), (.le (.var 6) (.int 8000), true), (.le (.int 1) (.var 6), true), (.le (.int 0) (.var 3), true), (.le (.int 0) (.var 4), true), (.eq zHb11 (.var 6), true), (.le (.var 4) (.var 14), true), (.same (.un .code (.var 2)) txHb4, true), (.same (.var 7) (.fn 9 txHb11), true), (.eq (.var 9) (.fn 11 txHb11), true), (.le (.int 1) zHb15, false), (.le (.int 1) txHb22, false), (.le (.int 1) zHb19, true), (.le (.int 1) txHb23, true)], x := 0, fin := [(0, .sslice 17 (.int 0) (.var 6) (.var 13) false), (6, .ptr 1 0), (7, .vslice 11 1 (.int 0) zHb21 zHb21 true)], frows := [zHb0, zHb22, zHb18], same := [1, 17], chg := [0, 1, 6, 7, 8, 9, 10, 11, 12, 29, 30, 31, 32, 33, 34, 35, 36, 37, 38, 39, 40, 41, 42, 43, 44, 45, 46, 47, 48, 49, 50, 51, 52, 53, 54, 55, 56, 57, 58, 59, 60, 61, 62, 63, 64, 65, 66, 67, 68, 69] }
def qC10 : LSpec := { n := 93, next := 10, pat := [(0, .sslice 17 (.int 0) (.var 6) (.var 13) false), (1, .sslice 19 (.int 0) (.var 15) (.var 16) false), (6, .ptr 1 0), (7, .nilslice), (8, .sslice 17 (.var 3) (.var 4) (.var 14) false), (9, .sint .i64 (.var 0))], rows := [zHb2, zHb32, zHb30, zHb27], pre := [(.le (.int 0) (.var 0), true), (.le (.var 0) zHb36, true), (.eq zHb31 (.int 1), true), (.le (.var 15) (.int 100), true), (.le (.var 6) (.int 8000), true), (.le (.int 1) (.var 6), true), (.le (.int 0) (.var 3), true), (.le (.int 0) (.var 4), true), (.eq zHb11 (.var 6), true), (.le (.var 4) (.var 14), true), (.same (.un .code (.var 2)) txHb4, true), (.same (.var 7) (.fn 9 txHb11), true), (.eq (.var 9) (.fn 11 txHb11), true), (.le (.int 1) zHb15, true), (.le (.int 1) txHb22, false), (.le (.int 1) zHb19, true), (.le (.int 1) txHb23, true)], x := 0, fin := [(0, .sslice 17 (.int 0) (.var 6) (.var 13) false), (6, .ptr 1 0), (7, .vslice 11 1 (.int 0) zHb21 zHb21 true)], frows := [zHb0, zHb22, zHb18], same := [1, 17], chg := [0, 1, 6, 7, 8, 9, 10, 11, 12, 29, 30, 31, 32, 33, 34, 35, 36, 37, 38, 39, 40, 41, 42, 43, 44, 45, 46, 47, 48, 49, 50, 51, 52, 53, 54, 55, 56, 57, 58, 59, 60, 61, 62, 63, 64, 65, 66, 67, 68, 69] }
def qC01 : LSpec := { n := 93, next := 10, pat := [(0, .sslice 17 (.int 0) (.var 6) (.var 13) false), (1, .sslice 19 (.int 0) (.var 15) (.var 16) false), (6, .ptr 1 0), (7, .vslice 11 1 (.int 0) zHb14 zHb14 true), (8, .sslice 17 (.var 3) (.var 4) (.var 14) false), (9, .sint .i64 (.var 0))], rows := [zHb7, zHb32, zHb30, zHb33], pre := [(.le (.int 0) (.var 0), true), (.le (.var 0) zHb36, true), (.eq zHb31 (.int 1), true), (.le (.var 15) (.int 100), true), (.le (.var 6) (.int 8000), true), (.le (.int 1) (.var 6), true), (.le (.int 0) (.var 3), true), (.le (.int 0) (.var 4), true), (.eq zHb11 (.var 6), true), (.le (.var 4) (.var 14), true), (.same (.un .code (.var 2)) txHb4, true), (.same (.var 7) (.fn 9 txHb11), true), (.eq (.var 9) (.fn 11 txHb11), true), (.le (.int 1) zHb15, false), (.le (.int 1) txHb22, true), (.le (.int 1) zHb19, true), (.le (.int 1) txHb23, true)], x := 0, fin := [(0, .sslice 17 (.int 0) (.var 6) (.var 13) false), (6, .ptr 1 0), (7, .vslice 11 1 (.int 0) zHb21 zHb21 true)], frows := [zHb0, zHb22, zHb18], same := [1, 17], chg := [0, 1, 6, 7, 8, 9, 10, 11, 12, 29, 30, 31, 32, 33, 34, 35, 36, 37, 38, 39, 40, 41, 42, 43, 44, 45, 46, 47, 48, 49, 50, 51, 52, 53, 54, 55, 56, 57, 58, 59, 60, 61, 62, 63, 64, 65, 66, 67, 68, 69] }
def qC11 : LSpec := { n := 93, next := 10, pat := [(0, .sslice 17 (.int 0) (.var 6) (.var 13) false), (1, .sslice 19 (.int 0) (.var 15) (.var 16) false), (6, .ptr 1 0), (7, .vslice 11 1 (.int 0) zHb14 zHb14 true), (8, .sslice 17 (.var 3) (.var 4) (.var 14) false), (9, .sint .i64 (.var 0))], rows := [zHb2, zHb32, zHb30, zHb27, zHb33], pre := [(.le (.int 0) (.var 0), true), (.le (.var 0) zHb36, true), (.eq zHb31 (.int 1), true), (.le (.var 15) (.int 100), true), (.le (.var 6) (.int 8000), true), (.le (.int 1) (.var 6), true), (.le (.int 0) (.var 3), true), (.le (.int 0) (.var 4), true), (.eq zHb11 (.var 6), true), (.le (.var 4) (.var 14), true), (.same (.un .code (.var 2)) txHb4, true), (.same (.var 7) (.fn 9 txHb11), true), (.eq (.var 9) (.fn 11 txHb11), true), (.le (.int 1) zHb15, true), (.le (.int 1) txHb22, true), (.le (.int 1) zHb19, true), (.le (.int 1) txHb23, true)], x := 0, fin := [(0, .sslice 17 (.int 0) (.var 6) (.var 13) false), (6, .ptr 1 0), (7, .vslice 11 1 (.int 0) zHb21 zHb21 true)], frows := [zHb0, zHb22, zHb18], same := [1, 17], chg := [0, 1, 6, 7, 8, 9, 10, 11, 12, 29, 30, 31, 32, 33, 34, 35, 36, 37, 38, 39, 40, 41, 42, 43, 44, 45, 46, 47, 48, 49, 50, 51, 52, 53, 54, 55, 56, 57, 58, 59, 60, 61, 62, 63, 64, 65, 66, 67, 68, 69] }
def qC : Nat → LSpec
 | 0 => qC00
 | 1 => qC10
 | 2 => qC01
 | _ => qC11
def qC00_t0 : List (Q × Bool) := [asHb5, asHb6, asHb7, asHb8, asHb9, asHb10, asHb11, asHb12, asHb13, asHb14, asHb15, asHb16, asHb17, asHb18, asHb19, asHb20, asHb21, asHb22, asHb23, asHb24, asHb25, asHb26]
def qC00_d0 : List Duty := []
def qC00_h0 : List (Nat × E) := [(17, (.var 17)), (2, (.var 2)), (9, (.fn 11 zHb1)), (7, (.fn 9 zHb1)), (0, zHb4), (3, zHb3), (4, zHb6), (14, zHb5), (15, (.var 15)), (16, (.var 16)), (6, (.var 6)), (13, (.var 13))]
theorem qC00_h0_a : lookE qC00_h0 0 = zHb4 ∧ lookE qC00_h0 2 = (.var 2) ∧ lookE qC00_h0 3 = zHb3 ∧ lookE qC00_h0 4 = zHb6 ∧ lookE qC00_h0 6 = (.var 6) ∧ lookE qC00_h0 7 = (.fn 9 zHb1) ∧ lookE qC00_h0 9 = (.fn 11 zHb1) ∧ lookE qC00_h0 13 = (.var 13) ∧ lookE qC00_h0 14 = zHb5 ∧ lookE qC00_h0 15 = (.var 15) ∧ lookE qC00_h0 16 = (.var 16) ∧ lookE qC00_h0 17 = (.var 17) := ⟨rfl, rfl, rfl, rfl, rfl, rfl, rfl, rfl, rfl, rfl, rfl, rfl⟩
theorem qC00_y0 : nextJ (qC 0) (qC 0) qC00_h0 [(1, 1), (19, 19), (17, 17)] (roundC Try.prog ltHb0 [(7, pickC)] [] 3000 40 3 [4, 1, 0, 1, 1, 1, 1, 1, 1, 1] (tellA qC00_t0) (qC 0)) = some qC00_d0 := by kernel_rfl
def qC00_t1 : List (Q × Bool) := [asHb5, asHb6, asHb7, asHb8, asHb9, asHb10, asHb11, asHb12, asHb13, asHb14, asHb15, asHb16, asHb17, asHb18, asHb19, asHb20, asHb27, asHb22, asHb28, asHb29, asHb24, asHb25, asHb26]
def qC00_d1 : List Duty := [zHb12, zHb12, zHb12, zHb28]
def qC00_h1 : List (Nat × E) := [(17, (.var 17)), (2, (.var 2)), (9, (.fn 11 zHb1)), (7, (.fn 9 zHb1)), (0, zHb4), (3, zHb3), (4, zHb6), (14, zHb5), (15, (.var 15)), (16, (.var 16)), (6, (.var 6)), (13, (.var 13))]
theorem qC00_h1_a : lookE qC00_h1 0 = zHb4 ∧ lookE qC00_h1 2 = (.var 2) ∧ lookE qC00_h1 3 = zHb3 ∧ lookE qC00_h1 4 = zHb6 ∧ lookE qC00_h1 6 = (.var 6) ∧ lookE qC00_h1 7 = (.fn 9 zHb1) ∧ lookE qC00_h1 9 = (.fn 11 zHb1) ∧ lookE qC00_h1 13 = (.var 13) ∧ lookE qC00_h1 14 = zHb5 ∧ lookE qC00_h1 15 = (.var 15) ∧ lookE qC00_h1 16 = (.var 16) ∧ lookE qC00_h1 17 = (.var 17) := ⟨rfl, rfl, rfl, rfl, rfl, rfl, rfl, rfl, rfl, rfl, rfl, rfl⟩
theorem qC00_y1 : nextJ (qC 0) (qC 1) qC00_h1 [(3, 31), (1, 1), (19, 19), (17, 17)] (roundC Try.prog ltHb0 [(7, pickC)] [] 3000 40 3 [4, 1, 0, 1, 1, 1, 1, 1, 1, 1] (tellA qC00_t1) (qC 0)) = some qC00_d1 := by kernel_rfl
def qC00_t2 : List (Q × Bool) := [asHb5, asHb6, asHb7, asHb8, asHb9, asHb10, asHb11, asHb12, asHb13, asHb14, asHb15, asHb16, asHb17, asHb18, asHb19, asHb20, asHb21, asHb50, asHb51, asHb52, asHb24, asHb25, asHb26]
def qC00_d2 : List Duty := [zHb25, zHb25, zHb25, zHb41]
def qC00_h2 : List (Nat × E) := [(17, (.var 17)), (2, (.var 2)), (9, (.fn 11 zHb1)), (7, (.fn 9 zHb1)), (0, zHb4), (3, zHb3), (4, zHb6), (14, zHb5), (15, (.var 15)), (16, (.var 16)), (6, (.var 6)), (13, (.var 13))]
theorem qC00_h2_a : lookE qC00_h2 0 = zHb4 ∧ lookE qC00_h2 2 = (.var 2) ∧ lookE qC00_h2 3 = zHb3 ∧ lookE qC00_h2 4 = zHb6 ∧ lookE qC00_h2 6 = (.var 6) ∧ lookE qC00_h2 7 = (.fn 9 zHb1) ∧ lookE qC00_h2 9 = (.fn 11 zHb1) ∧ lookE qC00_h2 13 = (.var 13) ∧ lookE qC00_h2 14 = zHb5 ∧ lookE qC00_h2 15 = (.var 15) ∧ lookE qC00_h2 16 = (.var 16) ∧ lookE qC00_h2 17 = (.var 17) := ⟨rfl, rfl, rfl, rfl, rfl, rfl, rfl, rfl, rfl, rfl, rfl, rfl⟩
theorem qC00_y2 : nextJ (qC 0) (qC 2) qC00_h2 [(11, 41), (1, 1), (19, 19), (17, 17)] (roundC Try.prog ltHb0 [(7, pickC)] [] 3000 40 3 [4, 1, 0, 1, 1, 1, 1, 1, 1, 1] (tellA qC00_t2) (qC 0)) = some qC00_d2 := by kernel_rfl
def qC00_t3 : List (Q × Bool) := [asHb5, asHb6, asHb7, asHb8, asHb9, asHb10, asHb11, asHb12, asHb13, asHb14, asHb15, asHb16, asHb17, asHb18, asHb19, asHb20, asHb27, asHb50, asHb28, asHb29, asHb51, asHb52, asHb24, asHb25, asHb26]
def qC00_d3 : List Duty := [zHb25, zHb25, zHb12, zHb12, zHb12, zHb28, zHb25, zHb41]
def qC00_h3 : List (Nat × E) := [(17, (.var 17)), (2, (.var 2)), (9, (.fn 11 zHb1)), (7, (.fn 9 zHb1)), (0, zHb4), (3, zHb3), (4, zHb6), (14, zHb5), (15, (.var 15)), (16, (.var 16)), (6, (.var 6)), (13, (.var 13))]
theorem qC00_h3_a : lookE qC00_h3 0 = zHb4 ∧ lookE qC00_h3 2 = (.var 2) ∧ lookE qC00_h3 3 = zHb3 ∧ lookE qC00_h3 4 = zHb6 ∧ lookE qC00_h3 6 = (.var 6) ∧ lookE qC00_h3 7 = (.fn 9 zHb1) ∧ lookE qC00_h3 9 = (.fn 11 zHb1) ∧ lookE qC00_h3 13 = (.var 13) ∧ lookE qC00_h3 14 = zHb5 ∧ lookE qC00_h3 15 = (.var 15) ∧ lookE qC00_h3 16 = (.var 16) ∧ lookE qC00_h3 17 = (.var 17) := ⟨rfl, rfl, rfl, rfl, rfl, rfl, rfl, rfl, rfl, rfl, rfl, rfl⟩
theorem qC00_y3 : nextJ (qC 0) (qC 3) qC00_h3 [(3, 31), (11, 43), (1, 1), (19, 19), (17, 17)] (roundC Try.prog ltHb0 [(7, pickC)] [] 3000 40 3 [4, 1, 0, 1, 1, 1, 1, 1, 1, 1] (tellA qC00_t3) (qC 0)) = some qC00_d3 := by kernel_rfl
def qC00_t4 : List (Q × Bool) := [asHb5, asHb6, asHb7, asHb30, asHb31, asHb25, asHb15, asHb32, asHb33, asHb18, asHb19, asHb20, asHb34, asHb54, asHb36, asHb37, asHb55, asHb56, asHb26]
def qC00_d4 : List Duty := [zHb37, zHb37, zHb23, zHb23, zHb23, zHb43, zHb37, (false, (.un .code (.fn 30 txHb32)), zHb34)]
def qC00_h4 : List (Nat × E) := [(17, (.var 17)), (2, (.var 2)), (9, (.fn 11 zHb10)), (7, (.fn 9 zHb10)), (0, zHb4), (3, zHb11), (4, (.int 0)), (14, zHb17), (15, (.var 15)), (16, (.var 16)), (6, (.var 6)), (13, (.var 13))]
theorem qC00_h4_a : lookE qC00_h4 0 = zHb4 ∧ lookE qC00_h4 2 = (.var 2) ∧ lookE qC00_h4 3 = zHb11 ∧ lookE qC00_h4 4 = (.int 0) ∧ lookE qC00_h4 6 = (.var 6) ∧ lookE qC00_h4 7 = (.fn 9 zHb10) ∧ lookE qC00_h4 9 = (.fn 11 zHb10) ∧ lookE qC00_h4 13 = (.var 13) ∧ lookE qC00_h4 14 = zHb17 ∧ lookE qC00_h4 15 = (.var 15) ∧ lookE qC00_h4 16 = (.var 16) ∧ lookE qC00_h4 17 = (.var 17) := ⟨rfl, rfl, rfl, rfl, rfl, rfl, rfl, rfl, rfl, rfl, rfl, rfl⟩
theorem qC00_y4 : nextJ (qC 0) (qC 3) qC00_h4 [(3, 31), (11, 43), (1, 1), (19, 19), (17, 17)] (roundC Try.prog ltHb0 [(7, pickC)] [] 3000 40 3 [4, 1, 0, 1, 1, 1, 1, 1, 1, 1] (tellA qC00_t4) (qC 0)) = some qC00_d4 := by kernel_rfl
def qC10_t0 : List (Q × Bool) := [asHb5, asHb6, asHb7, asHb8, asHb9, asHb10, asHb11, asHb12, asHb13, asHb14, asHb15, asHb16, asHb17, asHb18, asHb19, asHb20, asHb38, asHb39, asHb40, asHb41, asHb42, asHb43, asHb44, asHb24, asHb25, asHb26]
def qC10_d0 : List Duty := [zHb13, zHb13, zHb13, zHb29]
def qC10_h0 : List (Nat × E) := [(17, (.var 17)), (2, (.var 2)), (9, (.fn 11 zHb1)), (7, (.fn 9 zHb1)), (0, zHb4), (3, zHb3), (4, zHb6), (14, zHb5), (15, (.var 15)), (16, (.var 16)), (6, (.var 6)), (13, (.var 13))]
theorem qC10_h0_a : lookE qC10_h0 0 = zHb4 ∧ lookE qC10_h0 2 = (.var 2) ∧ lookE qC10_h0 3 = zHb3 ∧ lookE qC10_h0 4 = zHb6 ∧ lookE qC10_h0 6 = (.var 6) ∧ lookE qC10_h0 7 = (.fn 9 zHb1) ∧ lookE qC10_h0 9 = (.fn 11 zHb1) ∧ lookE qC10_h0 13 = (.var 13) ∧ lookE qC10_h0 14 = zHb5 ∧ lookE qC10_h0 15 = (.var 15) ∧ lookE qC10_h0 16 = (.var 16) ∧ lookE qC10_h0 17 = (.var 17) := ⟨rfl, rfl, rfl, rfl, rfl, rfl, rfl, rfl, rfl, rfl, rfl, rfl⟩
theorem qC10_y0 : nextJ (qC 1) (qC 1) qC10_h0 [(3, 31), (1, 1), (19, 19), (17, 17)] (roundC Try.prog ltHb0 [(7, pickC)] [] 3000 40 3 [4, 1, 0, 1, 1, 1, 1, 1, 1, 1] (tellA qC10_t0) (qC 1)) = some qC10_d0 := by kernel_rfl
def qC10_t1 : List (Q × Bool) := [asHb5, asHb6, asHb7, asHb8, asHb9, asHb10, asHb11, asHb12, asHb13, asHb14, asHb15, asHb16, asHb17, asHb18, asHb19, asHb20, asHb38, asHb39, asHb40, asHb57, asHb58, asHb59, asHb60, asHb24, asHb25, asHb26]
def qC10_d1 : List Duty := [zHb26, zHb26, zHb26, zHb42]
def qC10_h1 : List (Nat × E) := [(17, (.var 17)), (2, (.var 2)), (9, (.fn 11 zHb1)), (7, (.fn 9 zHb1)), (0, zHb4), (3, zHb3), (4, zHb6), (14, zHb5), (15, (.var 15)), (16, (.var 16)), (6, (.var 6)), (13, (.var 13))]
theorem qC10_h1_a : lookE qC10_h1 0 = zHb4 ∧ lookE qC10_h1 2 = (.var 2) ∧ lookE qC10_h1 3 = zHb3 ∧ lookE qC10_h1 4 = zHb6 ∧ lookE qC10_h1 6 = (.var 6) ∧ lookE qC10_h1 7 = (.fn 9 zHb1) ∧ lookE qC10_h1 9 = (.fn 11 zHb1) ∧ lookE qC10_h1 13 = (.var 13) ∧ lookE qC10_h1 14 = zHb5 ∧ lookE qC10_h1 15 = (.var 15) ∧ lookE qC10_h1 16 = (.var 16) ∧ lookE qC10_h1 17 = (.var 17) := ⟨rfl, rfl, rfl, rfl, rfl, rfl, rfl, rfl, rfl, rfl, rfl, rfl⟩
theorem qC10_y1 : nextJ (qC 1) (qC 2) qC10_h1 [(11, 41), (1, 1), (19, 19), (17, 17)] (roundC Try.prog ltHb0 [(7, pickC)] [] 3000 40 3 [4, 1, 0, 1, 1, 1, 1, 1, 1, 1] (tellA qC10_t1) (qC 1)) = some qC10_d1 := by kernel_rfl
def qC10_t2 : List (Q × Bool) := [asHb5, asHb6, asHb7, asHb8, asHb9, asHb10, asHb11, asHb12, asHb13, asHb14, asHb15, asHb16, asHb17, asHb18, asHb19, asHb20, asHb38, asHb39, asHb40, asHb41, asHb58, asHb43, asHb44, asHb59, asHb60, asHb24, asHb25, asHb26]
def qC10_d2 : List Duty := [zHb26, zHb26, zHb13, zHb13, zHb13, zHb29, zHb26, zHb42]
def qC10_h2 : List (Nat × E) := [(17, (.var 17)), (2, (.var 2)), (9, (.fn 11 zHb1)), (7, (.fn 9 zHb1)), (0, zHb4), (3, zHb3), (4, zHb6), (14, zHb5), (15, (.var 15)), (16, (.var 16)), (6, (.var 6)), (13, (.var 13))]
theorem qC10_h2_a : lookE qC10_h2 0 = zHb4 ∧ lookE qC10_h2 2 = (.var 2) ∧ lookE qC10_h2 3 = zHb3 ∧ lookE qC10_h2 4 = zHb6 ∧ lookE qC10_h2 6 = (.var 6) ∧ lookE qC10_h2 7 = (.fn 9 zHb1) ∧ lookE qC10_h2 9 = (.fn 11 zHb1) ∧ lookE qC10_h2 13 = (.var 13) ∧ lookE qC10_h2 14 = zHb5 ∧ lookE qC10_h2 15 = (.var 15) ∧ lookE qC10_h2 16 = (.var 16) ∧ lookE qC10_h2 17 = (.var 17) := ⟨rfl, rfl, rfl, rfl, rfl, rfl, rfl, rfl, rfl, rfl, rfl, rfl⟩
theorem qC10_y2 : nextJ (qC 1) (qC 3) qC10_h2 [(3, 31), (11, 43), (1, 1), (19, 19), (17, 17)] (roundC Try.prog ltHb0 [(7, pickC)] [] 3000 40 3 [4, 1, 0, 1, 1, 1, 1, 1, 1, 1] (tellA qC10_t2) (qC 1)) = some qC10_d2 := by kernel_rfl
def qC10_t3 : List (Q × Bool) := [asHb5, asHb6, asHb7, asHb30, asHb31, asHb25, asHb15, asHb32, asHb33, asHb18, asHb19, asHb20, asHb38, asHb39, asHb40, asHb45, asHb62, asHb47, asHb48, asHb63, asHb64, asHb26]
def qC10_d3 : List Duty := [zHb38, zHb38, zHb24, zHb24, zHb24, zHb44, zHb38, (false, (.un .code (.fn 30 txHb52)), zHb34)]
def qC10_h3 : List (Nat × E) := [(17, (.var 17)), (2, (.var 2)), (9, (.fn 11 zHb10)), (7, (.fn 9 zHb10)), (0, zHb4), (3, zHb11), (4, (.int 0)), (14, zHb17), (15, (.var 15)), (16, (.var 16)), (6, (.var 6)), (13, (.var 13))]
theorem qC10_h3_a : lookE qC10_h3 0 = zHb4 ∧ lookE qC10_h3 2 = (.var 2) ∧ lookE qC10_h3 3 = zHb11 ∧ lookE qC10_h3 4 = (.int 0) ∧ lookE qC10_h3 6 = (.var 6) ∧ lookE qC10_h3 7 = (.fn 9 zHb10) ∧ lookE qC10_h3 9 = (.fn 11 zHb10) ∧ lookE qC10_h3 13 = (.var 13) ∧ lookE qC10_h3 14 = zHb17 ∧ lookE qC10_h3 15 = (.var 15) ∧ lookE qC10_h3 16 = (.var 16) ∧ lookE qC10_h3 17 = (.var 17) := ⟨rfl, rfl, rfl, rfl, rfl, rfl, rfl, rfl, rfl, rfl, rfl, rfl⟩
theorem qC10_y3 : nextJ (qC 1) (qC 3) qC10_h3 [(3, 31), (11, 43), (1, 1), (19, 19), (17, 17)] (roundC Try.prog ltHb0 [(7, pickC)] [] 3000 40 3 [4, 1, 0, 1, 1, 1, 1, 1, 1, 1] (tellA qC10_t3) (qC 1)) = some qC10_d3 := by kernel_rfl
def qC01_t0 : List (Q × Bool) := [asHb5, asHb6, asHb7, asHb8, asHb9, asHb10, asHb11, asHb12, asHb13, asHb14, asHb15, asHb16, asHb17, asHb18, asHb19, asHb20, asHb21, asHb22, asHb23, asHb24, asHb25, asHb26]
def qC01_d0 : List Duty := [(true, zHb14, zHb9), (true, zHb14, zHb9), (true, zHb14, zHb9), (false, zHb35, zHb20)]
def qC01_h0 : List (Nat × E) := [(17, (.var 17)), (2, (.var 2)), (9, (.fn 11 zHb1)), (7, (.fn 9 zHb1)), (0, zHb4), (3, zHb3), (4, zHb6), (14, zHb5), (15, (.var 15)), (16, (.var 16)), (6, (.var 6)), (13, (.var 13))]
theorem qC01_h0_a : lookE qC01_h0 0 = zHb4 ∧ lookE qC01_h0 2 = (.var 2) ∧ lookE qC01_h0 3 = zHb3 ∧ lookE qC01_h0 4 = zHb6 ∧ lookE qC01_h0 6 = (.var 6) ∧ lookE qC01_h0 7 = (.fn 9 zHb1) ∧ lookE qC01_h0 9 = (.fn 11 zHb1) ∧ lookE qC01_h0 13 = (.var 13) ∧ lookE qC01_h0 14 = zHb5 ∧ lookE qC01_h0 15 = (.var 15) ∧ lookE qC01_h0 16 = (.var 16) ∧ lookE qC01_h0 17 = (.var 17) := ⟨rfl, rfl, rfl, rfl, rfl, rfl, rfl, rfl, rfl, rfl, rfl, rfl⟩
theorem qC01_y0 : nextJ (qC 2) (qC 2) qC01_h0 [(11, 11), (1, 1), (19, 19), (17, 17)] (roundC Try.prog ltHb0 [(7, pickC)] [] 3000 40 3 [4, 1, 0, 1, 1, 1, 1, 1, 1, 1] (tellA qC01_t0) (qC 2)) = some qC01_d0 := by kernel_rfl
def qC01_t1 : List (Q × Bool) := [asHb5, asHb6, asHb7, asHb8, asHb9, asHb10, asHb11, asHb12, asHb13, asHb14, asHb15, asHb16, asHb17, asHb18, asHb19, asHb20, asHb27, asHb22, asHb28, asHb29, asHb24, asHb25, asHb26]
def qC01_d1 : List Duty := [(true, zHb14, zHb9), (true, zHb14, zHb9), zHb12, zHb12, zHb12, zHb28, (true, zHb14, zHb9), (false, zHb35, zHb20)]
def qC01_h1 : List (Nat × E) := [(17, (.var 17)), (2, (.var 2)), (9, (.fn 11 zHb1)), (7, (.fn 9 zHb1)), (0, zHb4), (3, zHb3), (4, zHb6), (14, zHb5), (15, (.var 15)), (16, (.var 16)), (6, (.var 6)), (13, (.var 13))]
theorem qC01_h1_a : lookE qC01_h1 0 = zHb4 ∧ lookE qC01_h1 2 = (.var 2) ∧ lookE qC01_h1 3 = zHb3 ∧ lookE qC01_h1 4 = zHb6 ∧ lookE qC01_h1 6 = (.var 6) ∧ lookE qC01_h1 7 = (.fn 9 zHb1) ∧ lookE qC01_h1 9 = (.fn 11 zHb1) ∧ lookE qC01_h1 13 = (.var 13) ∧ lookE qC01_h1 14 = zHb5 ∧ lookE qC01_h1 15 = (.var 15) ∧ lookE qC01_h1 16 = (.var 16) ∧ lookE qC01_h1 17 = (.var 17) := ⟨rfl, rfl, rfl, rfl, rfl, rfl, rfl, rfl, rfl, rfl, rfl, rfl⟩
theorem qC01_y1 : nextJ (qC 2) (qC 3) qC01_h1 [(3, 31), (11, 11), (1, 1), (19, 19), (17, 17)] (roundC Try.prog ltHb0 [(7, pickC)] [] 3000 40 3 [4, 1, 0, 1, 1, 1, 1, 1, 1, 1] (tellA qC01_t1) (qC 2)) = some qC01_d1 := by kernel_rfl
def qC01_t2 : List (Q × Bool) := [asHb5, asHb6, asHb7, asHb8, asHb9, asHb10, asHb11, asHb12, asHb13, asHb14, asHb15, asHb16, asHb17, asHb18, asHb19, asHb20, asHb21, asHb50, asHb51, asHb65, asHb24, asHb25, asHb26]
def qC01_d2 : List Duty := [(true, txHb54, zHb9), (true, txHb54, zHb9), (true, txHb54, zHb9), (false, txHb53, zHb20)]
def qC01_h2 : List (Nat × E) := [(17, (.var 17)), (2, (.var 2)), (9, (.fn 11 zHb1)), (7, (.fn 9 zHb1)), (0, zHb4), (3, zHb3), (4, zHb6), (14, zHb5), (15, (.var 15)), (16, (.var 16)), (6, (.var 6)), (13, (.var 13))]
theorem qC01_h2_a : lookE qC01_h2 0 = zHb4 ∧ lookE qC01_h2 2 = (.var 2) ∧ lookE qC01_h2 3 = zHb3 ∧ lookE qC01_h2 4 = zHb6 ∧ lookE qC01_h2 6 = (.var 6) ∧ lookE qC01_h2 7 = (.fn 9 zHb1) ∧ lookE qC01_h2 9 = (.fn 11 zHb1) ∧ lookE qC01_h2 13 = (.var 13) ∧ lookE qC01_h2 14 = zHb5 ∧ lookE qC01_h2 15 = (.var 15) ∧ lookE qC01_h2 16 = (.var 16) ∧ lookE qC01_h2 17 = (.var 17) := ⟨rfl, rfl, rfl, rfl, rfl, rfl, rfl, rfl, rfl, rfl, rfl, rfl⟩
theorem qC01_y2 : nextJ (qC 2) (qC 2) qC01_h2 [(11, 41), (1, 1), (19, 19), (17, 17)] (roundC Try.prog ltHb0 [(7, pickC)] [] 3000 40 3 [4, 1, 0, 1, 1, 1, 1, 1, 1, 1] (tellA qC01_t2) (qC 2)) = some qC01_d2 := by kernel_rfl
def qC01_t3 : List (Q × Bool) := [asHb5, asHb6, asHb7, asHb8, asHb9, asHb10, asHb11, asHb12, asHb13, asHb14, asHb15, asHb16, asHb17, asHb18, asHb19, asHb20, asHb27, asHb50, asHb28, asHb29, asHb51, asHb65, asHb24, asHb25, asHb26]
def qC01_d3 : List Duty := [(true, txHb54, zHb9), (true, txHb54, zHb9), zHb12, zHb12, zHb12, zHb28, (true, txHb54, zHb9), (false, txHb53, zHb20)]
def qC01_h3 : List (Nat × E) := [(17, (.var 17)), (2, (.var 2)), (9, (.fn 11 zHb1)), (7, (.fn 9 zHb1)), (0, zHb4), (3, zHb3), (4, zHb6), (14, zHb5), (15, (.var 15)), (16, (.var 16)), (6, (.var 6)), (13, (.var 13))]
theorem qC01_h3_a : lookE qC01_h3 0 = zHb4 ∧ lookE qC01_h3 2 = (.var 2) ∧ lookE qC01_h3 3 = zHb3 ∧ lookE qC01_h3 4 = zHb6 ∧ lookE qC01_h3 6 = (.var 6) ∧ lookE qC01_h3 7 = (.fn 9 zHb1) ∧ lookE qC01_h3 9 = (.fn 11 zHb1) ∧ lookE qC01_h3 13 = (.var 13) ∧ lookE qC01_h3 14 = zHb5 ∧ lookE qC01_h3 15 = (.var 15) ∧ lookE qC01_h3 16 = (.var 16) ∧ lookE qC01_h3 17 = (.var 17) := ⟨rfl, rfl, rfl, rfl, rfl, rfl, rfl, rfl, rfl, rfl, rfl, rfl⟩
theorem qC01_y3 : nextJ (qC 2) (qC 3) qC01_h3 [(3, 31), (11, 43), (1, 1), (19, 19), (17, 17)] (roundC Try.prog ltHb0 [(7, pickC)] [] 3000 40 3 [4, 1, 0, 1, 1, 1, 1, 1, 1, 1] (tellA qC01_t3) (qC 2)) = some qC01_d3 := by kernel_rfl
def qC01_t4 : List (Q × Bool) := [asHb5, asHb6, asHb7, asHb30, asHb31, asHb25, asHb15, asHb32, asHb33, asHb18, asHb19, asHb20, asHb34, asHb54, asHb36, asHb37, asHb55, asHb66, asHb26]
def qC01_d4 : List Duty := [(true, txHb50, zHb16), (true, txHb50, zHb16), zHb23, zHb23, zHb23, zHb43, (true, txHb50, zHb16), (false, txHb48, zHb34)]
def qC01_h4 : List (Nat × E) := [(17, (.var 17)), (2, (.var 2)), (9, (.fn 11 zHb10)), (7, (.fn 9 zHb10)), (0, zHb4), (3, zHb11), (4, (.int 0)), (14, zHb17), (15, (.var 15)), (16, (.var 16)), (6, (.var 6)), (13, (.var 13))]
theorem qC01_h4_a : lookE qC01_h4 0 = zHb4 ∧ lookE qC01_h4 2 = (.var 2) ∧ lookE qC01_h4 3 = zHb11 ∧ lookE qC01_h4 4 = (.int 0) ∧ lookE qC01_h4 6 = (.var 6) ∧ lookE qC01_h4 7 = (.fn 9 zHb10) ∧ lookE qC01_h4 9 = (.fn 11 zHb10) ∧ lookE qC01_h4 13 = (.var 13) ∧ lookE qC01_h4 14 = zHb17 ∧ lookE qC01_h4 15 = (.var 15) ∧ lookE qC01_h4 16 = (.var 16) ∧ lookE qC01_h4 17 = (.var 17) := ⟨rfl, rfl, rfl, rfl, rfl, rfl, rfl, rfl, rfl, rfl, rfl, rfl⟩
theorem qC01_y4 : nextJ (qC 2) (qC 3) qC01_h4 [(3, 31), (11, 43), (1, 1), (19, 19), (17, 17)] (roundC Try.prog ltHb0 [(7, pickC)] [] 3000 40 3 [4, 1, 0, 1, 1, 1, 1, 1, 1, 1] (tellA qC01_t4) (qC 2)) = some qC01_d4 := by kernel_rfl
def qC01_t5 : List (Q × Bool) := [asHb5, asHb6, asHb7, asHb30, asHb31, asHb25, asHb15, asHb32, asHb33, asHb18, asHb19, asHb20, asHb34, asHb35, asHb36, asHb37, asHb26]
def qC01_d5 : List Duty := [(true, zHb14, zHb16), (true, zHb14, zHb16), zHb23, zHb23, zHb23, zHb43, (true, zHb14, zHb16), (false, zHb35, zHb34)]
def qC01_h5 : List (Nat × E) := [(17, (.var 17)), (2, (.var 2)), (9, (.fn 11 zHb10)), (7, (.fn 9 zHb10)), (0, zHb4), (3, zHb11), (4, (.int 0)), (14, zHb17), (15, (.var 15)), (16, (.var 16)), (6, (.var 6)), (13, (.var 13))]
theorem qC01_h5_a : lookE qC01_h5 0 = zHb4 ∧ lookE qC01_h5 2 = (.var 2) ∧ lookE qC01_h5 3 = zHb11 ∧ lookE qC01_h5 4 = (.int 0) ∧ lookE qC01_h5 6 = (.var 6) ∧ lookE qC01_h5 7 = (.fn 9 zHb10) ∧ lookE qC01_h5 9 = (.fn 11 zHb10) ∧ lookE qC01_h5 13 = (.var 13) ∧ lookE qC01_h5 14 = zHb17 ∧ lookE qC01_h5 15 = (.var 15) ∧ lookE qC01_h5 16 = (.var 16) ∧ lookE qC01_h5 17 = (.var 17) := ⟨rfl, rfl, rfl, rfl, rfl, rfl, rfl, rfl, rfl, rfl, rfl, rfl⟩
theorem qC01_y5 : nextJ (qC 2) (qC 3) qC01_h5 [(3, 31), (11, 11), (1, 1), (19, 19), (17, 17)] (roundC Try.prog ltHb0 [(7, pickC)] [] 3000 40 3 [4, 1, 0, 1, 1, 1, 1, 1, 1, 1] (tellA qC01_t5) (qC 2)) = some qC01_d5 := by kernel_rfl
def qC11_t0 : List (Q × Bool) := [asHb5, asHb6, asHb7, asHb8, asHb9, asHb10, asHb11, asHb12, asHb13, asHb14, asHb15, asHb16, asHb17, asHb18, asHb19, asHb20, asHb38, asHb39, asHb40, asHb41, asHb42, asHb43, asHb44, asHb24, asHb25, asHb26]
def qC11_d0 : List Duty := [(true, zHb14, zHb9), (true, zHb14, zHb9), zHb13, zHb13, zHb13, zHb29, (true, zHb14, zHb9), (false, zHb35, zHb20)]
def qC11_h0 : List (Nat × E) := [(17, (.var 17)), (2, (.var 2)), (9, (.fn 11 zHb1)), (7, (.fn 9 zHb1)), (0, zHb4), (3, zHb3), (4, zHb6), (14, zHb5), (15, (.var 15)), (16, (.var 16)), (6, (.var 6)), (13, (.var 13))]
theorem qC11_h0_a : lookE qC11_h0 0 = zHb4 ∧ lookE qC11_h0 2 = (.var 2) ∧ lookE qC11_h0 3 = zHb3 ∧ lookE qC11_h0 4 = zHb6 ∧ lookE qC11_h0 6 = (.var 6) ∧ lookE qC11_h0 7 = (.fn 9 zHb1) ∧ lookE qC11_h0 9 = (.fn 11 zHb1) ∧ lookE qC11_h0 13 = (.var 13) ∧ lookE qC11_h0 14 = zHb5 ∧ lookE qC11_h0 15 = (.var 15) ∧ lookE qC11_h0 16 = (.var 16) ∧ lookE qC11_h0 17 = (.var 17) := ⟨rfl, rfl, rfl, rfl, rfl, rfl, rfl, rfl, rfl, rfl, rfl, rfl⟩
theorem qC11_y0 : nextJ (qC 3) (qC 3) qC11_h0 [(3, 31), (11, 11), (1, 1), (19, 19), (17, 17)] (roundC Try.prog ltHb0 [(7, pickC)] [] 3000 40 3 [4, 1, 0, 1, 1, 1, 1, 1, 1, 1] (tellA qC11_t0) (qC 3)) = some qC11_d0 := by kernel_rfl
def qC11_t1 : List (Q × Bool) := [asHb5, asHb6, asHb7, asHb8, asHb9, asHb10, asHb11, asHb12, asHb13, asHb14, asHb15, asHb16, asHb17, asHb18, asHb19, asHb20, asHb38, asHb39, asHb40, asHb57, asHb58, asHb59, asHb68, asHb24, asHb25, asHb26]
def qC11_d1 : List Duty := [(true, txHb60, zHb9), (true, txHb60, zHb9), (true, txHb60, zHb9), (false, txHb59, zHb20)]
def qC11_h1 : List (Nat × E) := [(17, (.var 17)), (2, (.var 2)), (9, (.fn 11 zHb1)), (7, (.fn 9 zHb1)), (0, zHb4), (3, zHb3), (4, zHb6), (14, zHb5), (15, (.var 15)), (16, (.var 16)), (6, (.var 6)), (13, (.var 13))]
theorem qC11_h1_a : lookE qC11_h1 0 = zHb4 ∧ lookE qC11_h1 2 = (.var 2) ∧ lookE qC11_h1 3 = zHb3 ∧ lookE qC11_h1 4 = zHb6 ∧ lookE qC11_h1 6 = (.var 6) ∧ lookE qC11_h1 7 = (.fn 9 zHb1) ∧ lookE qC11_h1 9 = (.fn 11 zHb1) ∧ lookE qC11_h1 13 = (.var 13) ∧ lookE qC11_h1 14 = zHb5 ∧ lookE qC11_h1 15 = (.var 15) ∧ lookE qC11_h1 16 = (.var 16) ∧ lookE qC11_h1 17 = (.var 17) := ⟨rfl, rfl, rfl, rfl, rfl, rfl, rfl, rfl, rfl, rfl, rfl, rfl⟩
theorem qC11_y1 : nextJ (qC 3) (qC 2) qC11_h1 [(11, 41), (1, 1), (19, 19), (17, 17)] (roundC Try.prog ltHb0 [(7, pickC)] [] 3000 40 3 [4, 1, 0, 1, 1, 1, 1, 1, 1, 1] (tellA qC11_t1) (qC 3)) = some qC11_d1 := by kernel_rfl
def qC11_t2 : List (Q × Bool) := [asHb5, asHb6, asHb7, asHb8, asHb9, asHb10, asHb11, asHb12, asHb13, asHb14, asHb15, asHb16, asHb17, asHb18, asHb19, asHb20, asHb38, asHb39, asHb40, asHb41, asHb58, asHb43, asHb44, asHb59, asHb68, asHb24, asHb25, asHb26]
def qC11_d2 : List Duty := [(true, txHb60, zHb9), (true, txHb60, zHb9), zHb13, zHb13, zHb13, zHb29, (true, txHb60, zHb9), (false, txHb59, zHb20)]
def qC11_h2 : List (Nat × E) := [(17, (.var 17)), (2, (.var 2)), (9, (.fn 11 zHb1)), (7, (.fn 9 zHb1)), (0, zHb4), (3, zHb3), (4, zHb6), (14, zHb5), (15, (.var 15)), (16, (.var 16)), (6, (.var 6)), (13, (.var 13))]
theorem qC11_h2_a : lookE qC11_h2 0 = zHb4 ∧ lookE qC11_h2 2 = (.var 2) ∧ lookE qC11_h2 3 = zHb3 ∧ lookE qC11_h2 4 = zHb6 ∧ lookE qC11_h2 6 = (.var 6) ∧ lookE qC11_h2 7 = (.fn 9 zHb1) ∧ lookE qC11_h2 9 = (.fn 11 zHb1) ∧ lookE qC11_h2 13 = (.var 13) ∧ lookE qC11_h2 14 = zHb5 ∧ lookE qC11_h2 15 = (.var 15) ∧ lookE qC11_h2 16 = (.var 16) ∧ lookE qC11_h2 17 = (.var 17) := ⟨rfl, rfl, rfl, rfl, rfl, rfl, rfl, rfl, rfl, rfl, rfl, rfl⟩
theorem qC11_y2 : nextJ (qC 3) (qC 3) qC11_h2 [(3, 31), (11, 43), (1, 1), (19, 19), (17, 17)] (roundC Try.prog ltHb0 [(7, pickC)] [] 3000 40 3 [4, 1, 0, 1, 1, 1, 1, 1, 1, 1] (tellA qC11_t2) (qC 3)) = some qC11_d2 := by kernel_rfl
def qC11_t3 : List (Q × Bool) := [asHb5, asHb6, asHb7, asHb30, asHb31, asHb25, asHb15, asHb32, asHb33, asHb18, asHb19, asHb20, asHb38, asHb39, asHb40, asHb45, asHb62, asHb47, asHb48, asHb63, asHb69, asHb26]
def qC11_d3 : List Duty := [(true, txHb58, zHb16), (true, txHb58, zHb16), zHb24, zHb24, zHb24, zHb44, (true, txHb58, zHb16), (false, txHb57, zHb34)]
def qC11_h3 : List (Nat × E) := [(17, (.var 17)), (2, (.var 2)), (9, (.fn 11 zHb10)), (7, (.fn 9 zHb10)), (0, zHb4), (3, zHb11), (4, (.int 0)), (14, zHb17), (15, (.var 15)), (16, (.var 16)), (6, (.var 6)), (13, (.var 13))]
theorem qC11_h3_a : lookE qC11_h3 0 = zHb4 ∧ lookE qC11_h3 2 = (.var 2) ∧ lookE qC11_h3 3 = zHb11 ∧ lookE qC11_h3 4 = (.int 0) ∧ lookE qC11_h3 6 = (.var 6) ∧ lookE qC11_h3 7 = (.fn 9 zHb10) ∧ lookE qC11_h3 9 = (.fn 11 zHb10) ∧ lookE qC11_h3 13 = (.var 13) ∧ lookE qC11_h3 14 = zHb17 ∧ lookE qC11_h3 15 = (.var 15) ∧ lookE qC11_h3 16 = (.var 16) ∧ lookE qC11_h3 17 = (.var 17) := ⟨rfl, rfl, rfl, rfl, rfl, rfl, rfl, rfl, rfl, rfl, rfl, rfl⟩
theorem qC11_y3 : nextJ (qC 3) (qC 3) qC11_h3 [(3, 31), (11, 43), (1, 1), (19, 19), (17, 17)] (roundC Try.prog ltHb0 [(7, pickC)] [] 3000 40 3 [4, 1, 0, 1, 1, 1, 1, 1, 1, 1] (tellA qC11_t3) (qC 3)) = some qC11_d3 := by kernel_rfl
def qC11_t4 : List (Q × Bool) := [asHb5, asHb6, asHb7, asHb30, asHb31, asHb25, asHb15, asHb32, asHb33, asHb18, asHb19, asHb20, asHb38, asHb39, asHb40, asHb45, asHb46, asHb47, asHb48, asHb26]
def qC11_d4 : List Duty := [(true, zHb14, zHb16), (true, zHb14, zHb16), zHb24, zHb24, zHb24, zHb44, (true, zHb14, zHb16), (false, zHb35, zHb34)]
def qC11_h4 : List (Nat × E) := [(17, (.var 17)), (2, (.var 2)), (9, (.fn 11 zHb10)), (7, (.fn 9 zHb10)), (0, zHb4), (3, zHb11), (4, (.int 0)), (14, zHb17), (15, (.var 15)), (16, (.var 16)), (6, (.var 6)), (13, (.var 13))]
theorem qC11_h4_a : lookE qC11_h4 0 = zHb4 ∧ lookE qC11_h4 2 = (.var 2) ∧ lookE qC11_h4 3 = zHb11 ∧ lookE qC11_h4 4 = (.int 0) ∧ lookE qC11_h4 6 = (.var 6) ∧ lookE qC11_h4 7 = (.fn 9 zHb10) ∧ lookE qC11_h4 9 = (.fn 11 zHb10) ∧ lookE qC11_h4 13 = (.var 13) ∧ lookE qC11_h4 14 = zHb17 ∧ lookE qC11_h4 15 = (.var 15) ∧ lookE qC11_h4 16 = (.var 16) ∧ lookE qC11_h4 17 = (.var 17) := ⟨rfl, rfl, rfl, rfl, rfl, rfl, rfl, rfl, rfl, rfl, rfl, rfl⟩
theorem qC11_y4 : nextJ (qC 3) (qC 3) qC11_h4 [(3, 31), (11, 11), (1, 1), (19, 19), (17, 17)] (roundC Try.prog ltHb0 [(7, pickC)] [] 3000 40 3 [4, 1, 0, 1, 1, 1, 1, 1, 1, 1] (tellA qC11_t4) (qC 3)) = some qC11_d4 := by kernel_rfl
def qC11_t5 : List (Q × Bool) := [asHb5, asHb49]
def qC11_d5 : List Duty := [(true, zHb14, zHb21), (true, zHb14, zHb21), dqHb (.var 7) (.fn 9 txHb12) 0, dqHb (.var 7) (.fn 9 txHb12) 1, dqHb (.var 7) (.fn 9 txHb12) 2, dqHb (.var 7) (.fn 9 txHb12) 3, dqHb (.var 7) (.fn 9 txHb12) 4, dqHb (.var 7) (.fn 9 txHb12) 5, dqHb (.var 7) (.fn 9 txHb12) 6, dqHb (.var 7) (.fn 9 txHb12) 7, dqHb (.var 7) (.fn 9 txHb12) 8, dqHb (.var 7) (.fn 9 txHb12) 9, dqHb (.var 7) (.fn 9 txHb12) 10, dqHb (.var 7) (.fn 9 txHb12) 11, dqHb (.var 7) (.fn 9 txHb12) 12, dqHb (.var 7) (.fn 9 txHb12) 13, dqHb (.var 7) (.fn 9 txHb12) 14, dqHb (.var 7) (.fn 9 txHb12) 15, zHb55, zHb51, (true, zHb15, zHb19), (true, zHb15, zHb19), (true, zHb15, zHb19), (false, (.fn 22 txHb27), (.fn 22 txHb26)), (true, zHb14, zHb21), (false, zHb35, (.un .code (.fn 30 txHb26)))]
theorem qC11_y5 : endD (qC 3) [(3, 3), (11, 11), (1, 1), (17, 17)] 1000 (roundC Try.prog ltHb0 [(7, pickC)] [] 3000 40 3 [4, 1, 0, 1, 1, 1, 1, 1, 1, 1] (tellA qC11_t5) (qC 3)) = some qC11_d5 := by kernel_rfl
set_option maxHeartbeats 16000000 in
theorem qC_holds : ∀ i, i < 4 → LHolds Try.prog (loopAt Try.prog 3 [4, 1, 0, 1, 1, 1, 1, 1, 1, 1]) (qC i) F := by
 refine loop_famC sound (tableCons jA00_holds (tableCons jA10_holds (tableCons jB00_holds (tableCons jB10_holds (tableCons jC00_holds (tableCons jC10_holds (tableCons jD00_holds (tableNil _ _)))))))) (specsCons pickC_holds (specsNil _ _)) (oversNil _ _) (fuel := 3000) (depth := 40) (by kernel_rfl) (fun i d => match i with | 0 => ((d 15).toInt + 1 - (d 0).toInt).toNat | 1 => ((d 15).toInt + 1 - (d 0).toInt).toNat | 2 => ((d 15).toInt + 1 - (d 0).toInt).toNat | _ => ((d 15).toInt + 1 - (d 0).toInt).toNat) ?_
 intro i hi d hp hR hA
 match i, hi with
 | 0, _ =>
   have hp := allTold'_iff.2 hp
   simp only [qC, qC00, tl] at hp hR hA
   simp only [F9, F11, F20, F21, F40, F41, D.toInt_int, D.ints_ofInts, UO.den] at hp
   obtain ⟨p0, p1, p2, p3, p4, p5, p6, p7, p8, p9, p10, p11, p12, p13, p14, p15, p16⟩ := hp
   have p2 := one_of p2
   have hX := canon p10
   have hxl : (d 2).ints.length = (d 6).toInt := by omega
   have hm := cuts_in (x := (d 2).ints) (o := 0) (t := (d 3).toInt) (i := 0) (n := 0) (Int.le_refl 0) p6
   have hm9 := cuts_small (x := (d 2).ints) (o := 0) (t := (d 3).toInt) (i := 0) (n := 0) (by omega)
   have m0 : (cutsT (d 2).ints 0 (d 3).toInt 0 0).2 = 0 := by omega
   by_cases hx : (d 0).toInt ≤ (d 15).toInt
   ·by_cases hi : (d 15).toInt ≤ (d 0).toInt
    ·have ht0 : 0 ≤ (d 4).toInt := by omega
     have ht1 : (d 3).toInt + (d 4).toInt ≤ (d 6).toInt := by omega
     obtain ⟨hs, hc, hl, hk, he, hm8, hn1, hn2, h1, h2, h3, h4⟩ := leafs (t := (d 3).toInt + (d 4).toInt) hX p6 (by omega) ht1 hxl m0 (left_nil p6 (by omega) m0)
     rw [List.nil_append] at hl
     have q15 := p15
     have q16 := p16
     rw [← p8] at q15 q16
     have hg0 : chT (d 2) 0 (d 3).toInt 0 0 (D.ofInts []) = [] := List.eq_nil_of_length_eq_zero (by rw [ch_len]; omega)
     by_cases ha : 1 ≤ (cutsT (d 2).ints 0 ((d 3).toInt + (d 4).toInt) (d 3).toInt 0).2
     ·by_cases hb : 0 < (cutsT (d 2).ints 0 ((d 3).toInt + (d 4).toInt) (d 3).toInt 0).1.length
      ·refine ⟨tellA qC00_t4, tellA_ok (allTold'_iff.1 ?_), .inr ⟨3, qC00_h4, _, _, by decide, qC00_y4, dutiesTold_ok ?_, allTold'_iff.1 ?_, ?_⟩⟩
       all_goals try simp only [qC00_t4, qC00_d4, qC, qC00, qC10, qC01, qC11, qC00_h4_a, fq, hc, hg0, ch_len, tl]
       all_goals first | done | omega | (and_intros <;> first | omega | assumption | rfl | exact one_to (.inl (by omega)) | exact one_to (.inr (by omega)) | exact one_to (.inr trivial) | exact trivial)
      exfalso
      omega
     by_cases hb : 0 < (cutsT (d 2).ints 0 ((d 3).toInt + (d 4).toInt) (d 3).toInt 0).1.length
     ·exfalso
      omega
     exfalso
     have hz := cuts_none (x := (d 2).ints) (o := 0) (t := (d 3).toInt + (d 4).toInt) (i := (d 3).toInt) (n := 0) (by omega) (by omega) (by omega) (by omega)
     omega
    have hN := emod_in (x := (d 17).ints[(d 0).toInt.toNat]?.getD 0) (n := (d 4).toInt + 1) (by omega)
    generalize hNq : ((d 17).ints[(d 0).toInt.toNat]?.getD 0 % ((d 4).toInt + 1)) = N at *
    have ht0 : 0 ≤ N := by omega
    have ht1 : (d 3).toInt + N ≤ (d 6).toInt := by omega
    obtain ⟨hs, hc, hl, hk, he, hm8, hn1, hn2, h1, h2, h3, h4⟩ := leafs (t := (d 3).toInt + N) hX p6 (by omega) ht1 hxl m0 (left_nil p6 (by omega) m0)
    rw [List.nil_append] at hl
    have hg0 : chT (d 2) 0 (d 3).toInt 0 0 (D.ofInts []) = [] := List.eq_nil_of_length_eq_zero (by rw [ch_len]; omega)
    by_cases ha : 1 ≤ (cutsT (d 2).ints 0 ((d 3).toInt + N) (d 3).toInt 0).2
    ·by_cases hb : 0 < (cutsT (d 2).ints 0 ((d 3).toInt + N) (d 3).toInt 0).1.length
     ·refine ⟨tellA qC00_t3, tellA_ok (allTold'_iff.1 ?_), .inr ⟨3, qC00_h3, _, _, by decide, qC00_y3, dutiesTold_ok ?_, allTold'_iff.1 ?_, ?_⟩⟩
      all_goals try simp only [qC00_t3, qC00_d3, qC, qC00, qC10, qC01, qC11, qC00_h3_a, fq, hc, hg0, ch_len, hNq, tl]
      all_goals first | done | omega | (and_intros <;> first | omega | assumption | rfl | exact one_to (.inl (by omega)) | exact one_to (.inr (by omega)) | exact one_to (.inr trivial) | exact trivial)
     have hC0 : chT (d 2) 0 ((d 3).toInt + N) (d 3).toInt 0 (D.ofInts []) = [] := List.eq_nil_of_length_eq_zero (by rw [ch_len]; omega)
     refine ⟨tellA qC00_t1, tellA_ok (allTold'_iff.1 ?_), .inr ⟨1, qC00_h1, _, _, by decide, qC00_y1, dutiesTold_ok ?_, allTold'_iff.1 ?_, ?_⟩⟩
     all_goals try simp only [qC00_t1, qC00_d1, qC, qC00, qC10, qC01, qC11, qC00_h1_a, fq, hc, hg0, hC0, ch_len, hNq, tl]
     all_goals first | done | omega | (and_intros <;> first | omega | assumption | rfl | exact one_to (.inl (by omega)) | exact one_to (.inr (by omega)) | exact one_to (.inr trivial) | exact trivial)
    by_cases hb : 0 < (cutsT (d 2).ints 0 ((d 3).toInt + N) (d 3).toInt 0).1.length
    ·refine ⟨tellA qC00_t2, tellA_ok (allTold'_iff.1 ?_), .inr ⟨2, qC00_h2, _, _, by decide, qC00_y2, dutiesTold_ok ?_, allTold'_iff.1 ?_, ?_⟩⟩
     all_goals try simp only [qC00_t2, qC00_d2, qC, qC00, qC10, qC01, qC11, qC00_h2_a, fq, hc, hg0, ch_len, hNq, tl]
     all_goals first | done | omega | (and_intros <;> first | omega | assumption | rfl | exact one_to (.inl (by omega)) | exact one_to (.inr (by omega)) | exact one_to (.inr trivial) | exact trivial)
    have hC0 : chT (d 2) 0 ((d 3).toInt + N) (d 3).toInt 0 (D.ofInts []) = [] := List.eq_nil_of_length_eq_zero (by rw [ch_len]; omega)
    have hz := cuts_none (x := (d 2).ints) (o := 0) (t := (d 3).toInt + N) (i := (d 3).toInt) (n := 0) (by omega) (by omega) (by omega) (by omega)
    refine ⟨tellA qC00_t0, tellA_ok (allTold'_iff.1 ?_), .inr ⟨0, qC00_h0, _, _, by decide, qC00_y0, dutiesTold_ok ?_, allTold'_iff.1 ?_, ?_⟩⟩
    all_goals try simp only [qC00_t0, qC00_d0, qC, qC00, qC10, qC01, qC11, qC00_h0_a, fq, hc, hg0, hC0, ch_len, hNq, tl]
    all_goals first | done | omega | (and_intros <;> first | omega | assumption | rfl | exact one_to (.inl (by omega)) | exact one_to (.inr (by omega)) | exact one_to (.inr trivial) | exact trivial)
   exfalso
   have ex : (d 3).toInt = (d 6).toInt := by omega
   rw [ex] at p13 p14
   omega
 | 1, _ =>
   have hp := allTold'_iff.2 hp
   simp only [qC, qC10, tl] at hp hR hA
   simp only [F9, F11, F20, F21, F40, F41, D.toInt_int, D.ints_ofInts, UO.den] at hp
   obtain ⟨p0, p1, p2, p3, p4, p5, p6, p7, p8, p9, p10, p11, p12, p13, p14, p15, p16⟩ := hp
   have p2 := one_of p2
   have hX := canon p10
   have hxl : (d 2).ints.length = (d 6).toInt := by omega
   have hm := cuts_in (x := (d 2).ints) (o := 0) (t := (d 3).toInt) (i := 0) (n := 0) (Int.le_refl 0) p6
   have hm9 := cuts_small (x := (d 2).ints) (o := 0) (t := (d 3).toInt) (i := 0) (n := 0) (by omega)
   by_cases hx : (d 0).toInt ≤ (d 15).toInt
   ·by_cases hi : (d 15).toInt ≤ (d 0).toInt
    ·have ht0 : 0 ≤ (d 4).toInt := by omega
     have ht1 : (d 3).toInt + (d 4).toInt ≤ (d 6).toInt := by omega
     obtain ⟨hs, hc, hl, hk, he, hm8, hn1, hn2, h1, h2, h3, h4⟩ := leafs (t := (d 3).toInt + (d 4).toInt) hX p6 (by omega) ht1 hxl rfl rfl
     have q15 := p15
     have q16 := p16
     rw [← p8] at q15 q16
     have hg0 : chT (d 2) 0 (d 3).toInt 0 0 (D.ofInts []) = [] := List.eq_nil_of_length_eq_zero (by rw [ch_len]; omega)
     by_cases ha : 1 ≤ (cutsT (d 2).ints 0 ((d 3).toInt + (d 4).toInt) (d 3).toInt (cutsT (d 2).ints 0 (d 3).toInt 0 0).2).2
     ·by_cases hb : 0 < (cutsT (d 2).ints 0 ((d 3).toInt + (d 4).toInt) (d 3).toInt (cutsT (d 2).ints 0 (d 3).toInt 0 0).2).1.length
      ·refine ⟨tellA qC10_t3, tellA_ok (allTold'_iff.1 ?_), .inr ⟨3, qC10_h3, _, _, by decide, qC10_y3, dutiesTold_ok ?_, allTold'_iff.1 ?_, ?_⟩⟩
       all_goals try simp only [qC10_t3, qC10_d3, qC, qC00, qC10, qC01, qC11, qC10_h3_a, fq, hc, hg0, ch_len, tl]
       all_goals first | done | omega | (and_intros <;> first | omega | assumption | rfl | exact one_to (.inl (by omega)) | exact one_to (.inr (by omega)) | exact one_to (.inr trivial) | exact trivial)
      exfalso
      omega
     by_cases hb : 0 < (cutsT (d 2).ints 0 ((d 3).toInt + (d 4).toInt) (d 3).toInt (cutsT (d 2).ints 0 (d 3).toInt 0 0).2).1.length
     ·exfalso
      omega
     exfalso
     have hz := cuts_none (x := (d 2).ints) (o := 0) (t := (d 3).toInt + (d 4).toInt) (i := (d 3).toInt) (n := (cutsT (d 2).ints 0 (d 3).toInt 0 0).2) (by omega) (by omega) (by omega) (by omega)
     omega
    have hN := emod_in (x := (d 17).ints[(d 0).toInt.toNat]?.getD 0) (n := (d 4).toInt + 1) (by omega)
    generalize hNq : ((d 17).ints[(d 0).toInt.toNat]?.getD 0 % ((d 4).toInt + 1)) = N at *
    have ht0 : 0 ≤ N := by omega
    have ht1 : (d 3).toInt + N ≤ (d 6).toInt := by omega
    obtain ⟨hs, hc, hl, hk, he, hm8, hn1, hn2, h1, h2, h3, h4⟩ := leafs (t := (d 3).toInt + N) hX p6 (by omega) ht1 hxl rfl rfl
    have hg0 : chT (d 2) 0 (d 3).toInt 0 0 (D.ofInts []) = [] := List.eq_nil_of_length_eq_zero (by rw [ch_len]; omega)
    by_cases ha : 1 ≤ (cutsT (d 2).ints 0 ((d 3).toInt + N) (d 3).toInt (cutsT (d 2).ints 0 (d 3).toInt 0 0).2).2
    ·by_cases hb : 0 < (cutsT (d 2).ints 0 ((d 3).toInt + N) (d 3).toInt (cutsT (d 2).ints 0 (d 3).toInt 0 0).2).1.length
     ·refine ⟨tellA qC10_t2, tellA_ok (allTold'_iff.1 ?_), .inr ⟨3, qC10_h2, _, _, by decide, qC10_y2, dutiesTold_ok ?_, allTold'_iff.1 ?_, ?_⟩⟩
      all_goals try simp only [qC10_t2, qC10_d2, qC, qC00, qC10, qC01, qC11, qC10_h2_a, fq, hc, hg0, ch_len, hNq, tl]
      all_goals first | done | omega | (and_intros <;> first | omega | assumption | rfl | exact one_to (.inl (by omega)) | exact one_to (.inr (by omega)) | exact one_to (.inr trivial) | exact trivial)
     have hC0 : chT (d 2) 0 ((d 3).toInt + N) (d 3).toInt (cutsT (d 2).ints 0 (d 3).toInt 0 0).2 (D.ofInts (leftI (d 2).ints (d 3).toInt)) = [] := List.eq_nil_of_length_eq_zero (by rw [ch_len]; omega)
     refine ⟨tellA qC10_t0, tellA_ok (allTold'_iff.1 ?_), .inr ⟨1, qC10_h0, _, _, by decide, qC10_y0, dutiesTold_ok ?_, allTold'_iff.1 ?_, ?_⟩⟩
     all_goals try simp only [qC10_t0, qC10_d0, qC, qC00, qC10, qC01, qC11, qC10_h0_a, fq, hc, hg0, hC0, ch_len, hNq, tl]
     all_goals first | done | omega | (and_intros <;> first | omega | assumption | rfl | exact one_to (.inl (by omega)) | exact one_to (.inr (by omega)) | exact one_to (.inr trivial) | exact trivial)
    by_cases hb : 0 < (cutsT (d 2).ints 0 ((d 3).toInt + N) (d 3).toInt (cutsT (d 2).ints 0 (d 3).toInt 0 0).2).1.length
    ·refine ⟨tellA qC10_t1, tellA_ok (allTold'_iff.1 ?_), .inr ⟨2, qC10_h1, _, _, by decide, qC10_y1, dutiesTold_ok ?_, allTold'_iff.1 ?_, ?_⟩⟩
     all_goals try simp only [qC10_t1, qC10_d1, qC, qC00, qC10, qC01, qC11, qC10_h1_a, fq, hc, hg0, ch_len, hNq, tl]
     all_goals first | done | omega | (and_intros <;> first | omega | assumption | rfl | exact one_to (.inl (by omega)) | exact one_to (.inr (by omega)) | exact one_to (.inr trivial) | exact trivial)
    exfalso
    have hz := cuts_none (x := (d 2).ints) (o := 0) (t := (d 3).toInt + N) (i := (d 3).toInt) (n := (cutsT (d 2).ints 0 (d 3).toInt 0 0).2) (by omega) (by omega) (by omega) (by omega)
    omega
   exfalso
   have ex : (d 3).toInt = (d 6).toInt := by omega
   rw [ex] at p13 p14
   omega
 | 2, _ =>
   have hp := allTold'_iff.2 hp
   simp only [qC, qC01, tl] at hp hR hA
   simp only [F9, F11, F20, F21, F40, F41, D.toInt_int, D.ints_ofInts, UO.den] at hp
   obtain ⟨p0, p1, p2, p3, p4, p5, p6, p7, p8, p9, p10, p11, p12, p13, p14, p15, p16⟩ := hp
   have p2 := one_of p2
   have hX := canon p10
   have hxl : (d 2).ints.length = (d 6).toInt := by omega
   have hm := cuts_in (x := (d 2).ints) (o := 0) (t := (d 3).toInt) (i := 0) (n := 0) (Int.le_refl 0) p6
   have hm9 := cuts_small (x := (d 2).ints) (o := 0) (t := (d 3).toInt) (i := 0) (n := 0) (by omega)
   have m0 : (cutsT (d 2).ints 0 (d 3).toInt 0 0).2 = 0 := by omega
   by_cases hx : (d 0).toInt ≤ (d 15).toInt
   ·by_cases hi : (d 15).toInt ≤ (d 0).toInt
    ·have ht0 : 0 ≤ (d 4).toInt := by omega
     have ht1 : (d 3).toInt + (d 4).toInt ≤ (d 6).toInt := by omega
     obtain ⟨hs, hc, hl, hk, he, hm8, hn1, hn2, h1, h2, h3, h4⟩ := leafs (t := (d 3).toInt + (d 4).toInt) hX p6 (by omega) ht1 hxl m0 (left_nil p6 (by omega) m0)
     rw [List.nil_append] at hl
     have q15 := p15
     have q16 := p16
     rw [← p8] at q15 q16
     by_cases ha : 1 ≤ (cutsT (d 2).ints 0 ((d 3).toInt + (d 4).toInt) (d 3).toInt 0).2
     ·by_cases hb : 0 < (cutsT (d 2).ints 0 ((d 3).toInt + (d 4).toInt) (d 3).toInt 0).1.length
      ·refine ⟨tellA qC01_t4, tellA_ok (allTold'_iff.1 ?_), .inr ⟨3, qC01_h4, _, _, by decide, qC01_y4, dutiesTold_ok ?_, allTold'_iff.1 ?_, ?_⟩⟩
       all_goals try simp only [qC01_t4, qC01_d4, qC, qC00, qC10, qC01, qC11, qC01_h4_a, fq, hc, ch_len, tl]
       all_goals first | done | omega | (and_intros <;> first | omega | assumption | rfl | exact one_to (.inl (by omega)) | exact one_to (.inr (by omega)) | exact one_to (.inr trivial) | exact trivial)
      have hC0 : chT (d 2) 0 ((d 3).toInt + (d 4).toInt) (d 3).toInt 0 (D.ofInts []) = [] := List.eq_nil_of_length_eq_zero (by rw [ch_len]; omega)
      refine ⟨tellA qC01_t5, tellA_ok (allTold'_iff.1 ?_), .inr ⟨3, qC01_h5, _, _, by decide, qC01_y5, dutiesTold_ok ?_, allTold'_iff.1 ?_, ?_⟩⟩
      all_goals try simp only [qC01_t5, qC01_d5, qC, qC00, qC10, qC01, qC11, qC01_h5_a, fq, hc, hC0, ch_len, tl]
      all_goals first | done | omega | (and_intros <;> first | omega | assumption | rfl | exact one_to (.inl (by omega)) | exact one_to (.inr (by omega)) | exact one_to (.inr trivial) | exact trivial)
     by_cases hb : 0 < (cutsT (d 2).ints 0 ((d 3).toInt + (d 4).toInt) (d 3).toInt 0).1.length
     ·exfalso
      omega
     exfalso
     have hz := cuts_none (x := (d 2).ints) (o := 0) (t := (d 3).toInt + (d 4).toInt) (i := (d 3).toInt) (n := 0) (by omega) (by omega) (by omega) (by omega)
     omega
    have hN := emod_in (x := (d 17).ints[(d 0).toInt.toNat]?.getD 0) (n := (d 4).toInt + 1) (by omega)
    generalize hNq : ((d 17).ints[(d 0).toInt.toNat]?.getD 0 % ((d 4).toInt + 1)) = N at *
    have ht0 : 0 ≤ N := by omega
    have ht1 : (d 3).toInt + N ≤ (d 6).toInt := by omega
    obtain ⟨hs, hc, hl, hk, he, hm8, hn1, hn2, h1, h2, h3, h4⟩ := leafs (t := (d 3).toInt + N) hX p6 (by omega) ht1 hxl m0 (left_nil p6 (by omega) m0)
    rw [List.nil_append] at hl
    by_cases ha : 1 ≤ (cutsT (d 2).ints 0 ((d 3).toInt + N) (d 3).toInt 0).2
    ·by_cases hb : 0 < (cutsT (d 2).ints 0 ((d 3).toInt + N) (d 3).toInt 0).1.length
     ·refine ⟨tellA qC01_t3, tellA_ok (allTold'_iff.1 ?_), .inr ⟨3, qC01_h3, _, _, by decide, qC01_y3, dutiesTold_ok ?_, allTold'_iff.1 ?_, ?_⟩⟩
      all_goals try simp only [qC01_t3, qC01_d3, qC, qC00, qC10, qC01, qC11, qC01_h3_a, fq, hc, ch_len, hNq, tl]
      all_goals first | done | omega | (and_intros <;> first | omega | assumption | rfl | exact one_to (.inl (by omega)) | exact one_to (.inr (by omega)) | exact one_to (.inr trivial) | exact trivial)
     have hC0 : chT (d 2) 0 ((d 3).toInt + N) (d 3).toInt 0 (D.ofInts []) = [] := List.eq_nil_of_length_eq_zero (by rw [ch_len]; omega)
     refine ⟨tellA qC01_t1, tellA_ok (allTold'_iff.1 ?_), .inr ⟨3, qC01_h1, _, _, by decide, qC01_y1, dutiesTold_ok ?_, allTold'_iff.1 ?_, ?_⟩⟩
     all_goals try simp only [qC01_t1, qC01_d1, qC, qC00, qC10, qC01, qC11, qC01_h1_a, fq, hc, hC0, ch_len, hNq, tl]
     all_goals first | done | omega | (and_intros <;> first | omega | assumption | rfl | exact one_to (.inl (by omega)) | exact one_to (.inr (by omega)) | exact one_to (.inr trivial) | exact trivial)
    by_cases hb : 0 < (cutsT (d 2).ints 0 ((d 3).toInt + N) (d 3).toInt 0).1.length
    ·refine ⟨tellA qC01_t2, tellA_ok (allTold'_iff.1 ?_), .inr ⟨2, qC01_h2, _, _, by decide, qC01_y2, dutiesTold_ok ?_, allTold'_iff.1 ?_, ?_⟩⟩
     all_goals try simp only [qC01_t2, qC01_d2, qC, qC00, qC10, qC01, qC11, qC01_h2_a, fq, hc, ch_len, hNq, tl]
     all_goals first | done | omega | (and_intros <;> first | omega | assumption | rfl | exact one_to (.inl (by omega)) | exact one_to (.inr (by omega)) | exact one_to (.inr trivial) | exact trivial)
    have hC0 : chT (d 2) 0 ((d 3).toInt + N) (d 3).toInt 0 (D.ofInts []) = [] := List.eq_nil_of_length_eq_zero (by rw [ch_len]; omega)
    have hz := cuts_none (x := (d 2).ints) (o := 0) (t := (d 3).toInt + N) (i := (d 3).toInt) (n := 0) (by omega) (by omega) (by omega) (by omega)
    refine ⟨tellA qC01_t0, tellA_ok (allTold'_iff.1 ?_), .inr ⟨2, qC01_h0, _, _, by decide, qC01_y0, dutiesTold_ok ?_, allTold'_iff.1 ?_, ?_⟩⟩
    all_goals try simp only [qC01_t0, qC01_d0, qC, qC00, qC10, qC01, qC11, qC01_h0_a, fq, hc, hC0, ch_len, hNq, tl]
    all_goals first | done | omega | (and_intros <;> first | omega | assumption | rfl | exact one_to (.inl (by omega)) | exact one_to (.inr (by omega)) | exact one_to (.inr trivial) | exact trivial)
   exfalso
   have ex : (d 3).toInt = (d 6).toInt := by omega
   rw [ex] at p13 p14
   omega
 | 3, _ =>
   have hp := allTold'_iff.2 hp
   simp only [qC, qC11, tl] at hp hR hA
   simp only [F9, F11, F20, F21, F40, F41, D.toInt_int, D.ints_ofInts, UO.den] at hp
   obtain ⟨p0, p1, p2, p3, p4, p5, p6, p7, p8, p9, p10, p11, p12, p13, p14, p15, p16⟩ := hp
   have p2 := one_of p2
   have hX := canon p10
   have hxl : (d 2).ints.length = (d 6).toInt := by omega
   have hm := cuts_in (x := (d 2).ints) (o := 0) (t := (d 3).toInt) (i := 0) (n := 0) (Int.le_refl 0) p6
   have hm9 := cuts_small (x := (d 2).ints) (o := 0) (t := (d 3).toInt) (i := 0) (n := 0) (by omega)
   by_cases hx : (d 0).toInt ≤ (d 15).toInt
   ·by_cases hi : (d 15).toInt ≤ (d 0).toInt
    ·have ht0 : 0 ≤ (d 4).toInt := by omega
     have ht1 : (d 3).toInt + (d 4).toInt ≤ (d 6).toInt := by omega
     obtain ⟨hs, hc, hl, hk, he, hm8, hn1, hn2, h1, h2, h3, h4⟩ := leafs (t := (d 3).toInt + (d 4).toInt) hX p6 (by omega) ht1 hxl rfl rfl
     have q15 := p15
     have q16 := p16
     rw [← p8] at q15 q16
     by_cases ha : 1 ≤ (cutsT (d 2).ints 0 ((d 3).toInt + (d 4).toInt) (d 3).toInt (cutsT (d 2).ints 0 (d 3).toInt 0 0).2).2
     ·by_cases hb : 0 < (cutsT (d 2).ints 0 ((d 3).toInt + (d 4).toInt) (d 3).toInt (cutsT (d 2).ints 0 (d 3).toInt 0 0).2).1.length
      ·refine ⟨tellA qC11_t3, tellA_ok (allTold'_iff.1 ?_), .inr ⟨3, qC11_h3, _, _, by decide, qC11_y3, dutiesTold_ok ?_, allTold'_iff.1 ?_, ?_⟩⟩
       all_goals try simp only [qC11_t3, qC11_d3, qC, qC00, qC10, qC01, qC11, qC11_h3_a, fq, hc, ch_len, tl]
       all_goals first | done | omega | (and_intros <;> first | omega | assumption | rfl | exact one_to (.inl (by omega)) | exact one_to (.inr (by omega)) | exact one_to (.inr trivial) | exact trivial)
      have hC0 : chT (d 2) 0 ((d 3).toInt + (d 4).toInt) (d 3).toInt (cutsT (d 2).ints 0 (d 3).toInt 0 0).2 (D.ofInts (leftI (d 2).ints (d 3).toInt)) = [] := List.eq_nil_of_length_eq_zero (by rw [ch_len]; omega)
      refine ⟨tellA qC11_t4, tellA_ok (allTold'_iff.1 ?_), .inr ⟨3, qC11_h4, _, _, by decide, qC11_y4, dutiesTold_ok ?_, allTold'_iff.1 ?_, ?_⟩⟩
      all_goals try simp only [qC11_t4, qC11_d4, qC, qC00, qC10, qC01, qC11, qC11_h4_a, fq, hc, hC0, ch_len, tl]
      all_goals first | done | omega | (and_intros <;> first | omega | assumption | rfl | exact one_to (.inl (by omega)) | exact one_to (.inr (by omega)) | exact one_to (.inr trivial) | exact trivial)
     by_cases hb : 0 < (cutsT (d 2).ints 0 ((d 3).toInt + (d 4).toInt) (d 3).toInt (cutsT (d 2).ints 0 (d 3).toInt 0 0).2).1.length
     ·exfalso
      omega
     exfalso
     have hz := cuts_none (x := (d 2).ints) (o := 0) (t := (d 3).toInt + (d 4).toInt) (i := (d 3).toInt) (n := (cutsT (d 2).ints 0 (d 3).toInt 0 0).2) (by omega) (by omega) (by omega) (by omega)
     omega
    have hN := emod_in (x := (d 17).ints[(d 0).toInt.toNat]?.getD 0) (n := (d 4).toInt + 1) (by omega)
    generalize hNq : ((d 17).ints[(d 0).toInt.toNat]?.getD 0 % ((d 4).toInt + 1)) = N at *
    have ht0 : 0 ≤ N := by omega
    have ht1 : (d 3).toInt + N ≤ (d 6).toInt := by omega
    obtain ⟨hs, hc, hl, hk, he, hm8, hn1, hn2, h1, h2, h3, h4⟩ := leafs (t := (d 3).toInt + N) hX p6 (by omega) ht1 hxl rfl rfl
    by_cases ha : 1 ≤ (cutsT (d 2).ints 0 ((d 3).toInt + N) (d 3).toInt (cutsT (d 2).ints 0 (d 3).toInt 0 0).2).2
    ·by_cases hb : 0 < (cutsT (d 2).ints 0 ((d 3).toInt + N) (d 3).toInt (cutsT (d 2).ints 0 (d 3).toInt 0 0).2).1.length
     ·refine ⟨tellA qC11_t2, tellA_ok (allTold'_iff.1 ?_), .inr ⟨3, qC11_h2, _, _, by decide, qC11_y2, dutiesTold_ok ?_, allTold'_iff.1 ?_, ?_⟩⟩
      all_goals try simp only [qC11_t2, qC11_d2, qC, qC00, qC10, qC01, qC11, qC11_h2_a, fq, hc, ch_len, hNq, tl]
      all_goals first | done | omega | (and_intros <;> first | omega | assumption | rfl | exact one_to (.inl (by omega)) | exact one_to (.inr (by omega)) | exact one_to (.inr trivial) | exact trivial)
     have hC0 : chT (d 2) 0 ((d 3).toInt + N) (d 3).toInt (cutsT (d 2).ints 0 (d 3).toInt 0 0).2 (D.ofInts (leftI (d 2).ints (d 3).toInt)) = [] := List.eq_nil_of_length_eq_zero (by rw [ch_len]; omega)
     refine ⟨tellA qC11_t0, tellA_ok (allTold'_iff.1 ?_), .inr ⟨3, qC11_h0, _, _, by decide, qC11_y0, dutiesTold_ok ?_, allTold'_iff.1 ?_, ?_⟩⟩
     all_goals try simp only [qC11_t0, qC11_d0, qC, qC00, qC10, qC01, qC11, qC11_h0_a, fq, hc, hC0, ch_len, hNq, tl]
     all_goals first | done | omega | (and_intros <;> first | omega | assumption | rfl | exact one_to (.inl (by omega)) | exact one_to (.inr (by omega)) | exact one_to (.inr trivial) | exact trivial)
    by_cases hb : 0 < (cutsT (d 2).ints 0 ((d 3).toInt + N) (d 3).toInt (cutsT (d 2).ints 0 (d 3).toInt 0 0).2).1.length
    ·refine ⟨tellA qC11_t1, tellA_ok (allTold'_iff.1 ?_), .inr ⟨2, qC11_h1, _, _, by decide, qC11_y1, dutiesTold_ok ?_, allTold'_iff.1 ?_, ?_⟩⟩
     all_goals try simp only [qC11_t1, qC11_d1, qC, qC00, qC10, qC01, qC11, qC11_h1_a, fq, hc, ch_len, hNq, tl]
     all_goals first | done | omega | (and_intros <;> first | omega | assumption | rfl | exact one_to (.inl (by omega)) | exact one_to (.inr (by omega)) | exact one_to (.inr trivial) | exact trivial)
    exfalso
    have hz := cuts_none (x := (d 2).ints) (o := 0) (t := (d 3).toInt + N) (i := (d 3).toInt) (n := (cutsT (d 2).ints 0 (d 3).toInt 0 0).2) (by omega) (by omega) (by omega) (by omega)
    omega
   have ex : (d 3).toInt = (d 6).toInt := by omega
   rw [ex] at p11 p12
   refine ⟨tellA qC11_t5, tellA_ok (allTold'_iff.1 ?_), .inl ⟨_, _, _, qC11_y5, dutiesTold_ok ?_⟩⟩
   ·simp only [qC11_t5, fq, tl]
    first | done | (and_intros <;> first | omega | assumption | rfl | exact one_to (.inl (by omega)) | exact one_to (.inr (by omega)) | exact one_to (.inr trivial) | exact trivial)
   ·simp only [qC11_d5, fq, ex, p11, tl]
    first | done | (and_intros <;> first | omega | assumption | rfl | exact one_to (.inl (by omega)) | exact one_to (.inr (by omega)) | exact one_to (.inr trivial) | exact trivial)
theorem qC00_holds : LHolds Try.prog (loopAt Try.prog 3 [4, 1, 0, 1, 1, 1, 1, 1, 1, 1]) qC00 F := qC_holds 0 (by decide)
theorem qC10_holds : LHolds Try.prog (loopAt Try.prog 3 [4, 1, 0, 1, 1, 1, 1, 1, 1, 1]) qC10 F := qC_holds 1 (by decide)
theorem qC01_holds : LHolds Try.prog (loopAt Try.prog 3 [4, 1, 0, 1, 1, 1, 1, 1, 1, 1]) qC01 F := qC_holds 2 (by decide)
theorem qC11_holds : LHolds Try.prog (loopAt Try.prog 3 [4, 1, 0, 1, 1, 1, 1, 1, 1, 1]) qC11 F := qC_holds 3 (by decide)

end Go.Proofs.Ytceealenelhaiaa.Hb
