/-
 Contracts of this seat: what loops and calls leave, for all inputs. No condition.
-/
import Derived.Test.YtceealenelhaiaaSycp
import Derived.Test.YtceealenelhaiaaSyfm
import Derived.Test.YtceealenelhaiaaCo
import Derived.Test.YtceealenelhaiaaGa
set_option linter.unusedSimpArgs false
set_option linter.unusedVariables false
namespace Go.Proofs.Ytceealenelhaiaa.Gb
open Go.RowKit Go.Ev Go.Proofs.Ytceealenelhaiaa.Co

open Go.Proofs.Ytceealenelhaiaa.Ga

theorem ring0 (x : List Int) (o : Int) : ringN x o 0 = List.replicate 16 0 := rfl
theorem win0 (x : List Int) {o : Int} (ho : 0 ≤ o) : winI x o 0 = 0 := by
 unfold winI
 rw [if_pos (by omega), prt_nil (by omega) (by omega)]
 rfl
def allN (x : List Int) (o : Int) (r : Nat) (i n : Int) : List Int := if 0 < (cutsN x o r i n).2 then (cutsN x o r i n).1 ++ [(cutsN x o r i n).2] else (cutsN x o r i n).1
theorem allT_eq (x : List Int) (o t : Int) : allT x o t = allN x o t.toNat 0 0 := by
 unfold allT allN cutsT
 rw [Int.sub_zero]
theorem all_zero (x : List Int) (o i n : Int) : allN x o 0 i n = if 0 < n then [n] else [] := by
 simp only [allN, cutsN, List.nil_append]
 rfl
theorem all_yes {x : List Int} {o i n : Int} {r : Nat} (h : endB x o (i + 1) (n + 1) = true) : allN x o (r + 1) i n = (n + 1) :: allN x o r (i + 1) 0 := by
 unfold allN
 rw [cutsN, if_pos h]
 simp only
 split <;> rfl
theorem all_no {x : List Int} {o i n : Int} {r : Nat} (h : ¬ endB x o (i + 1) (n + 1) = true) : allN x o (r + 1) i n = allN x o r (i + 1) (n + 1) := by
 unfold allN
 rw [cutsN, if_neg h]
theorem all_head {x : List Int} {o : Int} : ∀ (r : Nat) (i n : Int) (h : Int) (t : List Int), 0 ≤ n → allN x o r i n = h :: t → n ≤ h ∧ 1 ≤ h ∧ h ≤ n + r ∧ t = allN x o (n + r - h).toNat (i + h - n) 0
 | 0, i, n, h, t, hn, e => by
  rw [all_zero] at e
  split at e
  ·simp only [List.cons.injEq] at e
   obtain ⟨rfl, rfl⟩ := e
   refine ⟨by omega, by omega, by omega, ?_⟩
   rw [show (n + ((0 : Nat) : Int) - n).toNat = 0 by omega, all_zero, if_neg (by omega)]
  ·cases e
 | r + 1, i, n, h, t, hn, e => by
  by_cases c : endB x o (i + 1) (n + 1) = true
  ·rw [all_yes c] at e
   simp only [List.cons.injEq] at e
   obtain ⟨rfl, rfl⟩ := e
   refine ⟨by omega, by omega, by omega, ?_⟩
   rw [show (n + ((r + 1 : Nat) : Int) - (n + 1)).toNat = r by omega, show i + (n + 1) - n = i + 1 by omega]
  ·rw [all_no c] at e
   obtain ⟨h1, h2, h3, h4⟩ := all_head r (i + 1) (n + 1) h t (by omega) e
   refine ⟨by omega, h2, by omega, ?_⟩
   rw [h4, show (n + 1 + (r : Int) - h).toNat = (n + ((r + 1 : Nat) : Int) - h).toNat by omega, show i + 1 + h - (n + 1) = i + h - n by omega]
theorem end_shift {x : List Int} {o a j n : Int} (ha : 0 ≤ a) (hn : n ≤ j) : endB x o (a + j) n = endB x (o + a) j n := by
 by_cases g : 64 ≤ n
 ·have : winI x o (a + j) = winI x (o + a) j := by
   unfold winI
   rw [if_neg (by omega), if_neg (by omega), show o + (a + j) - 16 = o + a + j - 16 by omega, show o + (a + j) = o + a + j by omega]
  unfold endB
  rw [this]
 ·unfold endB
  rw [decide_eq_decide]
  omega
theorem all_shift {x : List Int} {o a : Int} (ha : 0 ≤ a) : ∀ (r : Nat) (j n : Int), 0 ≤ j → n ≤ j → allN x o r (a + j) n = allN x (o + a) r j n
 | 0, j, n, _, h => by rw [all_zero, all_zero]
 | r + 1, j, n, hj, h => by
  have e := end_shift (x := x) (o := o) (a := a) (j := j + 1) (n := n + 1) ha (by omega)
  rw [← Int.add_assoc] at e
  by_cases c : endB x (o + a) (j + 1) (n + 1) = true
  ·rw [all_yes c, all_yes (e.trans c), ← all_shift ha r (j + 1) 0 (by omega) (by omega), Int.add_assoc]
  ·rw [all_no c, all_no (by rw [e]; exact c), ← all_shift ha r (j + 1) (n + 1) (by omega) (by omega), Int.add_assoc]
theorem cutsN_len (x : List Int) (o : Int) : ∀ (r : Nat) (i n : Int), (cutsN x o r i n).1.length ≤ r
 | 0, i, n => by simp [cutsN]
 | r + 1, i, n => by
  simp only [cutsN]
  split
  ·have := cutsN_len x o r (i + 1) 0
   simp only [List.length_cons]; omega
  ·have := cutsN_len x o r (i + 1) (n + 1)
   omega
theorem cuts_len {x : List Int} {o t i n : Int} (h : i ≤ t) : ((cutsT x o t i n).1.length : Int) ≤ t - i := by
 have := cutsN_len x o (t - i).toNat i n
 unfold cutsT
 omega
theorem all_ne {x : List Int} {o : Int} : ∀ (r : Nat) (i n : Int), 0 ≤ n → 0 < n + r → 0 < (allN x o r i n).length
 | 0, i, n, h, g => by rw [all_zero, if_pos (by omega)]; simp
 | r + 1, i, n, h, g => by
  by_cases c : endB x o (i + 1) (n + 1) = true
  ·rw [all_yes c]; simp
  ·rw [all_no c]; exact all_ne r (i + 1) (n + 1) (by omega) (by omega)
theorem all_pos {x : List Int} {o t : Int} (h : 1 ≤ t) : 0 < (allT x o t).length := by
 rw [allT_eq]
 exact all_ne _ _ _ (by omega) (by omega)
theorem prt_of {x : List Int} {a b k m : Int} (ha : 0 ≤ a) (hk : 0 ≤ k) (hm : k ≤ m) (hb : a + m ≤ b) : prt (prt x a b) k m = prt x (a + k) (a + m) := by
 unfold prt
 rw [List.take_drop, List.take_take, List.drop_drop, show min (a.toNat + m.toNat) b.toNat = (a + m).toNat by omega, show a.toNat + k.toNat = (a + k).toNat by omega]
theorem low_piece {x : List Int} {a b k : Int} (ha : 0 ≤ a) (hk : 16 ≤ k) (hb : a + k ≤ b) : lowB (prt x a b) k = decide (sumN 0 (prt x (a + k - 16) (a + k)) < 16777216) := by
 unfold lowB
 rw [prt_of ha (by omega) (by omega) hb, show a + (k - 16) = a + k - 16 by omega]
theorem win_low {x : List Int} {o i : Int} (h : 16 < i) : winI x o i = sumN 0 (prt x (o + i - 16) (o + i)) := by
 unfold winI
 rw [if_neg (by omega)]
theorem fit_mk {c : List Int} (last : Bool) (h1 : 1 ≤ c.length) (h2 : c.length ≤ 1024) (h3 : last = true ∨ (64 ≤ c.length ∧ (c.length = 1024 ∨ lowB c c.length = true))) (h4 : ∀ k : Nat, 64 ≤ k → k < c.length → lowB c k = false) : goodC c last = true := by
 unfold goodC
 rw [Bool.and_eq_true, Bool.and_eq_true]
 refine ⟨⟨decide_eq_true ⟨h1, h2⟩, ?_⟩, ?_⟩
 ·rcases h3 with h | ⟨h, g⟩
  ·rw [h]; rfl
  ·rw [Bool.or_eq_true, Bool.and_eq_true, Bool.or_eq_true, decide_eq_true_eq, decide_eq_true_eq]
   exact .inr ⟨h, g⟩
 ·rw [List.all_eq_true]
  intro k hk
  rw [List.mem_range] at hk
  by_cases g : 64 ≤ k
  ·rw [h4 k g hk]; simp
  ·simp [g]
theorem fit_of {c : List Int} {last : Bool} (h : goodC c last = true) : (1 ≤ c.length ∧ c.length ≤ 1024) ∧ (last = true ∨ (64 ≤ c.length ∧ (c.length = 1024 ∨ lowB c c.length = true))) ∧ ∀ k : Nat, 64 ≤ k → k < c.length → lowB c k = false := by
 unfold goodC at h
 rw [Bool.and_eq_true, Bool.and_eq_true, Bool.or_eq_true, Bool.and_eq_true, Bool.or_eq_true, decide_eq_true_eq, decide_eq_true_eq, decide_eq_true_eq, List.all_eq_true] at h
 refine ⟨h.1.1, h.1.2, fun k g hk => ?_⟩
 have := h.2 k (List.mem_range.2 hk)
 cases e : lowB c k with
 | false => rfl
 | true => rw [e] at this; simp [g] at this
theorem fit_weak {c : List Int} (h : goodC c false = true) : goodC c true = true := by
 obtain ⟨h1, _, h3⟩ := fit_of h
 exact fit_mk true h1.1 h1.2 (.inl rfl) h3
abbrev txGb0 : E := (.bi .pair (.var 3) (.bi .pair (.var 4) (.int 0)))
abbrev txGb1 : E := (.bi .pair (.int 0) (.bi .pair (.int 0) (.int 0)))
abbrev txGb2 : E := (.bi .pair (.int 0) (.bi .pair (.lits []) (.int 0)))
abbrev zGb2 : E := (.bi .pair (.var 2) txGb0)
abbrev txGb3 : E := (.un .len (.fn 33 zGb2))
abbrev txGb4 : E := (.bi .pair (.var 2) (.bi .pair (.var 3) (.bi .pair (.bi .add (.int 0) (.int 1)) (.int 0))))
abbrev txGb5 : E := (.bi .pair (.var 3) (.bi .pair (.var 4) txGb1))
abbrev txGb6 : E := (.un .code (.fn 33 zGb2))
abbrev txGb7 : E := (.bi .pair (.var 4) (.bi .pair (.int 0) txGb2))
abbrev txGb8 : E := (.un .len (.fn 20 (.bi .pair (.var 2) txGb5)))
abbrev txGb9 : E := (.bi .pair (.var 2) (.bi .pair (.var 3) txGb7))
abbrev txGb10 : E := (.bi .add (.un .len (.fn 30 txGb9)) (.int 1))
abbrev zGb0 : E := (.fn 21 (.bi .pair (.var 2) txGb5))
abbrev zGb1 : Duty := (true, (.un .len (.fn 30 txGb9)), txGb3)
theorem fits_all : ∀ {l : List D}, (∀ c ∈ l, goodC c.ints false = true) → fitsL l = true
 | [], _ => rfl
 | [c], h => fit_weak (h c (List.mem_cons_self ..))
 | c :: d :: l, h => by
  rw [fitsL, h c (List.mem_cons_self ..), fits_all (l := d :: l) fun e he => h e (List.mem_cons_of_mem _ he)]
  rfl
theorem fits_last : ∀ {l : List D} {d : D}, (∀ c ∈ l, goodC c.ints false = true) → goodC d.ints true = true → fitsL (l ++ [d]) = true
 | [], d, _, g => g
 | [c], d, h, g => by
  show (goodC c.ints false && fitsL [d]) = true
  rw [h c (List.mem_cons_self ..)]
  exact g
 | c :: e :: l, d, h, g => by
  show (goodC c.ints false && fitsL ((e :: l) ++ [d])) = true
  rw [h c (List.mem_cons_self ..), fits_last (l := e :: l) (fun x hx => h x (List.mem_cons_of_mem _ hx)) g]
  rfl
theorem fits_step {l : List D} {i : Int} (h0 : 0 ≤ i) (h1 : i < l.length) (h : fitsL (l.drop i.toNat) = true) : goodC (l[i.toNat]?.getD (.int 0)).ints (decide ((l.length : Int) - i = 1)) = true ∧ fitsL (l.drop (i + 1).toNat) = true := by
 have hl : i.toNat < l.length := by omega
 rw [List.drop_eq_getElem_cons hl] at h
 rw [List.getElem?_eq_getElem hl, Option.getD_some, show (i + 1).toNat = i.toNat + 1 by omega]
 cases e : l.drop (i.toNat + 1) with
 | nil =>
  rw [e] at h
  have := congrArg List.length e
  rw [List.length_drop, List.length_nil] at this
  rw [decide_eq_true (by omega)]
  exact ⟨h, rfl⟩
 | cons d m =>
  rw [e] at h
  have := congrArg List.length e
  rw [List.length_drop, List.length_cons] at this
  rw [decide_eq_false (by omega)]
  have h : (goodC l[i.toNat].ints false && fitsL (d :: m)) = true := h
  rw [Bool.and_eq_true] at h
  exact h
theorem cat_step {l : List D} {i : Int} (h0 : 0 ≤ i) (h1 : i < l.length) : catL (l.take (i + 1).toNat) = catL (l.take i.toNat) ++ (l[i.toNat]?.getD (.int 0)).ints := by
 have hl : i.toNat < l.length := by omega
 unfold catL
 rw [List.getElem?_eq_getElem hl, Option.getD_some, show (i + 1).toNat = i.toNat + 1 by omega, List.take_succ_eq_append_getElem hl, List.flatMap_append]
 simp
theorem prt_snoc {x : List Int} {a b : Int} (ha : 0 ≤ a) (hb : a ≤ b) (hx : b + 1 ≤ x.length) : prt x a (b + 1) = prt x a b ++ [x[b.toNat]?.getD 0] := by
 rw [prt_app (m := b) ha hb (by omega) hx, prt_step (o := b) (by omega) (by omega) hx, prt_nil (o := b + 1) (by omega) (by omega)]
theorem ch_main (X : D) {o : Int} (ho : 0 ≤ o) : ∀ (r : Nat) (i n : Int) (l : List D), 0 ≤ i → o + i + r ≤ X.ints.length → 0 ≤ n → n ≤ i → l.map D.toInt = prt X.ints (o + i - n) (o + i) → n ≤ 1023 →
  (∀ k : Int, 64 ≤ k → k ≤ n → ¬ sumN 0 (prt X.ints (o + i - n + k - 16) (o + i - n + k)) < 16777216) →
  catL (chN X.ints X.toList o r i n l) ++ prt X.ints (o + i + r - (cutsN X.ints o r i n).2) (o + i + r) = prt X.ints (o + i - n) (o + i + r) ∧ (∀ c ∈ chN X.ints X.toList o r i n l, goodC c.ints false = true) ∧
  0 ≤ (cutsN X.ints o r i n).2 ∧ (cutsN X.ints o r i n).2 ≤ 1023 ∧ (cutsN X.ints o r i n).2 ≤ n + r ∧
  ∀ k : Int, 64 ≤ k → k ≤ (cutsN X.ints o r i n).2 → ¬ sumN 0 (prt X.ints (o + i + r - (cutsN X.ints o r i n).2 + k - 16) (o + i + r - (cutsN X.ints o r i n).2 + k)) < 16777216
 | 0, i, n, l, h0, hx, hn, hi, hl, hm, hw => by
  simp only [chN, cutsN, Int.natCast_zero, Int.add_zero, catL, List.flatMap_nil, List.nil_append]
  exact ⟨by first | trivial | rfl, fun c hc => by simp at hc, hn, hm, Int.le_refl _, hw⟩
 | r + 1, i, n, l, h0, hx, hn, hi, hl, hm, hw => by
  have hc : (l ++ [X.toList[(o + i).toNat]?.getD (.int 0)]).map D.toInt = prt X.ints (o + i - n) (o + i + 1) := by
   rw [List.map_append, hl, prt_snoc (by omega) (by omega) (by omega)]
   congr 1
   show [(X.toList[(o + i).toNat]?.getD (.int 0)).toInt] = _
   rw [getT]
  have hlen := prt_length (x := X.ints) (o := o + i - n) (t := o + i + 1) (by omega) (by omega) (by omega)
  rw [show ((r + 1 : Nat) : Int) = (r : Int) + 1 by omega] at hx ⊢
  rw [show o + i + ((r : Int) + 1) = o + (i + 1) + r by omega] at hx ⊢
  by_cases e : n + 1 = 1024 ∨ 64 ≤ n + 1 ∧ winI X.ints o (i + 1) < 16777216
  ·have eb : endB X.ints o (i + 1) (n + 1) = true := by simp only [endB, decide_eq_true_eq]; exact e
   rw [chN, cutsN, if_pos eb, if_pos eb]
   obtain ⟨g1, g2, g3, g4, g5, g6⟩ := ch_main X ho r (i + 1) 0 [] (by omega) hx (Int.le_refl 0) (by omega) (by rw [prt_nil (by omega) (by omega)]; rfl) (by omega) (fun k h1 h2 => by omega)
   refine ⟨?_, ?_, g3, g4, by omega, g6⟩
   ·rw [Int.sub_zero] at g1
    show (catL (_ :: _) ++ _) = _
    unfold catL at g1 ⊢
    rw [List.flatMap_cons, List.append_assoc, g1]
    show (l ++ [X.toList[(o + i).toNat]?.getD (.int 0)]).map D.toInt ++ _ = _
    rw [hc, show o + (i + 1) = o + i + 1 by omega]
    exact (prt_app (by omega) (by omega) (by omega) (by omega)).symm
   ·intro c h
    rcases List.mem_cons.1 h with rfl | h
    ·show goodC ((l ++ [X.toList[(o + i).toNat]?.getD (.int 0)]).map D.toInt) false = true
     rw [hc]
     refine fit_mk false (by omega) (by omega) (.inr ⟨by omega, ?_⟩) fun k k1 k2 => ?_
     ·rcases e with e | ⟨e1, e2⟩
      ·exact .inl (by omega)
      ·refine .inr ?_
       rw [hlen, low_piece (by omega) (by omega) (by omega), decide_eq_true_eq]
       rw [win_low (by omega)] at e2
       rw [show o + i - n + (o + i + 1 - (o + i - n)) = o + (i + 1) by omega]
       exact e2
     ·rw [low_piece (by omega) (by omega) (by omega), decide_eq_false_iff_not]
      exact hw k (by omega) (by omega)
    ·exact g2 c h
  ·have eb : ¬ endB X.ints o (i + 1) (n + 1) = true := by simp only [endB, decide_eq_true_eq]; exact e
   rw [chN, cutsN, if_neg eb, if_neg eb]
   have q : o + (i + 1) - (n + 1) = o + i - n := by omega
   obtain ⟨g1, g2, g3, g4, g5, g6⟩ := ch_main X ho r (i + 1) (n + 1) (l ++ [X.toList[(o + i).toNat]?.getD (.int 0)]) (by omega) hx (by omega) (by omega) (by rw [hc, q, show o + (i + 1) = o + i + 1 by omega]) (by omega) (fun k k1 k2 => by
    rw [q]
    by_cases kn : k ≤ n
    ·exact hw k k1 kn
    ·obtain rfl : k = n + 1 := by omega
     intro hlow
     refine e (.inr ⟨k1, ?_⟩)
     rw [win_low (by omega), show o + (i + 1) = o + i - n + (n + 1) by omega]
     exact hlow)
   rw [q] at g1
   exact ⟨g1, g2, g3, g4, by omega, g6⟩
theorem last_prt {x : List Int} {o t m : Int} (ho : 0 ≤ o) (hm : 0 ≤ m) (h : m ≤ t) (hx : o + t ≤ x.length) : lastL m (prt x o (o + t)) = prt x (o + t - m) (o + t) := by
 have hl := prt_length (x := x) (o := o + t - m) (t := o + t) (by omega) (by omega) (by omega)
 rw [prt_app (m := o + t - m) ho (by omega) (by omega) hx, last_cut (by omega), last_all (by omega)]
theorem all_fit (X : D) {o t : Int} (ho : 0 ≤ o) (ht : 0 ≤ t) (hx : o + t ≤ X.ints.length) : catL (allC X o t) = prt X.ints o (o + t) ∧ fitsL (allC X o t) = true ∧ ((allC X o t).length : Int) ≤ t + 1 := by
 have ht' : (t.toNat : Int) = t := by omega
 obtain ⟨g1, g2, g3, g4, g5, g6⟩ := ch_main X ho t.toNat 0 0 [] (Int.le_refl 0) (by omega) (Int.le_refl 0) (Int.le_refl 0) (by rw [prt_nil (by omega) (by omega)]; rfl) (by omega) (fun k h1 h2 => by omega)
 simp only [ht', Int.add_zero, Int.sub_zero, Int.zero_add] at g1 g5 g6
 have e0 : chT X o t 0 0 (D.ofInts []) = chN X.ints X.toList o t.toNat 0 0 [] := by unfold chT; rw [Int.sub_zero]; rfl
 have em : cutsT X.ints o t 0 0 = cutsN X.ints o t.toNat 0 0 := by unfold cutsT; rw [Int.sub_zero]
 rw [← e0] at g1 g2
 rw [← em] at g1 g3 g4 g5 g6
 have hn : ((chT X o t 0 0 (D.ofInts [])).length : Int) ≤ t := by
  rw [ch_len]
  have := cuts_len (x := X.ints) (o := o) (t := t) (i := 0) (n := 0) ht
  omega
 have hr : (restT X o t).ints = prt X.ints (o + t - (cutsT X.ints o t 0 0).2) (o + t) := by
  unfold restT
  rw [D.ints_ofInts, D.ints_ofInts, List.nil_append, Int.add_zero]
  exact last_prt ho g3 g5 hx
 have hlen := prt_length (x := X.ints) (o := o + t - (cutsT X.ints o t 0 0).2) (t := o + t) (by omega) (by omega) (by omega)
 rw [← hr] at g1
 unfold allC
 by_cases h : 0 < (cutsT X.ints o t 0 0).2
 ·rw [if_pos h]
  refine ⟨?_, fits_last g2 ?_, by rw [List.length_append, List.length_singleton]; omega⟩
  ·rw [← g1]
   unfold catL
   rw [List.flatMap_append]
   simp
  ·rw [hr]
   refine fit_mk true (by omega) (by omega) (.inl rfl) fun k k1 k2 => ?_
   rw [low_piece (by omega) (by omega) (by omega), decide_eq_false_iff_not]
   exact g6 k (by omega) (by omega)
 ·rw [if_neg h]
  refine ⟨?_, fits_all g2, by omega⟩
  rw [← g1, hr, prt_nil (by omega) (by omega), List.append_nil]

def splitY : CSpec := { args := [.sslice 3 (.var 3) (.var 4) (.var 5) false], next := 2, rows := [(3, .eseq ⟨.u8, .var 6, .var 2⟩)], pre := [(.le (.bi .add (.var 3) (.var 4)) (.var 6), true), (.le (.var 4) (.int 20000), true), (.le (.int 1) (.var 4), true)], res := .vslice 5 1 (.int 0) txGb3 txGb3 true, frows := [(5, .vseq ⟨22, (.sl (.int .u8)), .un .len (.fn 33 zGb2), .fn 33 zGb2, true⟩)], same := [3] }
abbrev asGb0 : Q × Bool := ((.fit .i64 (.var 4)), true)
abbrev asGb1 : Q × Bool := ((.le (.int 0) (.var 4)), true)
abbrev asGb2 : Q × Bool := ((.le (.int 0) (.var 3)), true)
abbrev asGb3 : Q × Bool := ((.le (.bi .add (.var 3) (.var 4)) (.var 6)), true)
abbrev asGb4 : Q × Bool := ((.le (.var 4) (.var 5)), true)
abbrev asGb5 : Q × Bool := ((.le (.var 4) (.int 20000)), true)
abbrev asGb6 : Q × Bool := ((.same (.lits [0, 0, 0, 0, 0, 0, 0, 0, 0, 0, 0, 0, 0, 0, 0, 0]) (.fn 9 txGb4)), true)
abbrev asGb7 : Q × Bool := ((.eq (.int 0) (.fn 11 txGb4)), true)
abbrev asGb8 : Q × Bool := ((.le (.int 1) zGb0), true)
abbrev asGb9 : Q × Bool := ((.le (.int 1) txGb8), false)
abbrev asGb10 : Q × Bool := ((.fit .i64 zGb0), true)
abbrev asGb11 : Q × Bool := ((.le zGb0 (.int 0)), false)
def splitY_t0 : List (Q × Bool) := [asGb0, asGb1, asGb2, asGb3, asGb4, asGb5, asGb6, asGb7, asGb8, asGb9, asGb10, asGb11]
def splitY_d0 : List Duty := [(true, (.int 1), txGb3), (true, (.int 1), txGb3), (true, (.int 1), txGb3), (false, (.un .code (.bi .snoc (.lits []) (.fn 22 txGb9))), txGb6)]
theorem splitY_y0 : endC splitY [(5, 43), (3, 3)] 1000 (callC Try.prog (tellA splitY_t0) [⟨26, [4, 1], gA00⟩, ⟨26, [4, 1], gB00⟩, ⟨26, [4, 1], gC00⟩] [] [] 3000 40 12 splitY) = some splitY_d0 := by kernel_rfl
abbrev asGb12 : Q × Bool := ((.le (.int 1) zGb0), false)
abbrev asGb13 : Q × Bool := ((.le (.int 1) txGb8), true)
def splitY_t1 : List (Q × Bool) := [asGb0, asGb1, asGb2, asGb3, asGb4, asGb5, asGb6, asGb7, asGb12, asGb13]
def splitY_d1 : List Duty := [zGb1, zGb1, zGb1, (false, (.un .code (.fn 30 txGb9)), txGb6)]
theorem splitY_y1 : endC splitY [(5, 27), (3, 3)] 1000 (callC Try.prog (tellA splitY_t1) [⟨26, [4, 1], gA00⟩, ⟨26, [4, 1], gB00⟩, ⟨26, [4, 1], gC00⟩] [] [] 3000 40 12 splitY) = some splitY_d1 := by kernel_rfl
abbrev asGb14 : Q × Bool := ((.le (.bi .mul txGb10 (.int 48)) (.int 281474976710656)), true)
def splitY_t2 : List (Q × Bool) := [asGb0, asGb1, asGb2, asGb3, asGb4, asGb5, asGb6, asGb7, asGb8, asGb13, asGb10, asGb11, asGb14]
def splitY_d2 : List Duty := [(true, txGb10, txGb3), (true, txGb10, txGb3), (true, txGb10, txGb3), (false, (.un .code (.bi .snoc (.fn 30 txGb9) (.fn 22 txGb9))), txGb6)]
theorem splitY_y2 : endC splitY [(5, 45), (3, 3)] 1000 (callC Try.prog (tellA splitY_t2) [⟨26, [4, 1], gA00⟩, ⟨26, [4, 1], gB00⟩, ⟨26, [4, 1], gC00⟩] [] [] 3000 40 12 splitY) = some splitY_d2 := by kernel_rfl
theorem splitY_holds : CHolds Try.prog 12 splitY F := by
 refine cholds_of sound (tableCons gA00_holds (tableCons gB00_holds (tableCons gC00_holds (tableNil _ _)))) (specsNil _ _) (oversNil _ _) (fuel := 3000) (depth := 40) (by kernel_rfl) fun d hp hR hA => ?_
 have hp := allTold'_iff.2 hp
 simp only [splitY, tl] at hp hR hA
 have h1 := cuts_in (x := (d 2).ints) (o := (d 3).toInt) (t := (d 4).toInt) (i := 0) (n := 0) (by omega) (by omega)
 have h2 := cuts_len (x := (d 2).ints) (o := (d 3).toInt) (t := (d 4).toInt) (i := 0) (n := 0) (by omega)
 have hq := ch_len (d 2) (d 3).toInt (d 4).toInt 0 0 (D.ofInts [])
 have e1 : Int.toNat (0 + 1 - 1) = 0 := rfl
 have e2 : (((0 + 1 - 1 : Int).toNat : Nat) : Int) = 0 := rfl
 have hr := ring0 (d 2).ints (d 3).toInt
 have hw := win0 (d 2).ints (o := (d 3).toInt) (by omega)
 by_cases f : 0 < (cutsT (d 2).ints (d 3).toInt (d 4).toInt 0 0).2
 ·have ha : allC (d 2) (d 3).toInt (d 4).toInt = chT (d 2) (d 3).toInt (d 4).toInt 0 0 (D.ofInts []) ++ [restT (d 2) (d 3).toInt (d 4).toInt] := if_pos f
  by_cases z : 0 < (cutsT (d 2).ints (d 3).toInt (d 4).toInt 0 0).1.length
  ·refine ⟨tellA splitY_t2, _, _, _, tellA_ok (allTold'_iff.1 ?_), splitY_y2, dutiesTold_ok ?_⟩
   ·simp only [splitY_t2, F9, F11, F20, F21, F22, F30, e1, e2, Int.natCast_zero, hr, hw, tl]
    (try simp only [ints_list, List.map_append, List.map_cons, List.map_nil, map_ints, D.ints_ofInts, D.toInt_int, ofInts0, List.length_append, List.length_cons, List.length_nil, List.nil_append, List.append_nil]); first | done | (and_intros <;> first | exact True.intro | omega | assumption | rfl)
   ·simp only [splitY_d2, F20, F21, F22, F30, F33, ha, tl]
    (try simp only [ints_list, List.map_append, List.map_cons, List.map_nil, map_ints, D.ints_ofInts, D.toInt_int, ofInts0, List.length_append, List.length_cons, List.length_nil, List.nil_append, List.append_nil]); first | done | (and_intros <;> first | exact True.intro | omega | assumption | rfl)
  ·have z0 : chT (d 2) (d 3).toInt (d 4).toInt 0 0 (D.ofInts []) = [] := List.eq_nil_of_length_eq_zero (by omega)
   refine ⟨tellA splitY_t0, _, _, _, tellA_ok (allTold'_iff.1 ?_), splitY_y0, dutiesTold_ok ?_⟩
   ·simp only [splitY_t0, F9, F11, F20, F21, F22, F30, e1, e2, Int.natCast_zero, hr, hw, tl]
    (try simp only [ints_list, List.map_append, List.map_cons, List.map_nil, map_ints, D.ints_ofInts, D.toInt_int, ofInts0, List.length_append, List.length_cons, List.length_nil, List.nil_append, List.append_nil]); first | done | (and_intros <;> first | exact True.intro | omega | assumption | rfl)
   ·simp only [splitY_d0, F20, F21, F22, F30, F33, ha, z0, tl]
    (try simp only [ints_list, List.map_append, List.map_cons, List.map_nil, map_ints, D.ints_ofInts, D.toInt_int, ofInts0, List.length_append, List.length_cons, List.length_nil, List.nil_append, List.append_nil]); first | done | (and_intros <;> first | exact True.intro | omega | assumption | rfl)
 ·have ha : allC (d 2) (d 3).toInt (d 4).toInt = chT (d 2) (d 3).toInt (d 4).toInt 0 0 (D.ofInts []) := if_neg f
  have hz : 0 < (cutsT (d 2).ints (d 3).toInt (d 4).toInt 0 0).1.length := by
   have := all_pos (x := (d 2).ints) (o := (d 3).toInt) (t := (d 4).toInt) (by omega)
   unfold allT at this
   rw [if_neg f] at this
   exact this
  refine ⟨tellA splitY_t1, _, _, _, tellA_ok (allTold'_iff.1 ?_), splitY_y1, dutiesTold_ok ?_⟩
  ·simp only [splitY_t1, F9, F11, F20, F21, F22, F30, e1, e2, Int.natCast_zero, hr, hw, tl]
   (try simp only [ints_list, List.map_append, List.map_cons, List.map_nil, map_ints, D.ints_ofInts, D.toInt_int, ofInts0, List.length_append, List.length_cons, List.length_nil, List.nil_append, List.append_nil]); first | done | (and_intros <;> first | exact True.intro | omega | assumption | rfl)
  ·simp only [splitY_d1, F20, F21, F22, F30, F33, ha, tl]
   (try simp only [ints_list, List.map_append, List.map_cons, List.map_nil, map_ints, D.ints_ofInts, D.toInt_int, ofInts0, List.length_append, List.length_cons, List.length_nil, List.nil_append, List.append_nil]); first | done | (and_intros <;> first | exact True.intro | omega | assumption | rfl)

end Go.Proofs.Ytceealenelhaiaa.Gb
