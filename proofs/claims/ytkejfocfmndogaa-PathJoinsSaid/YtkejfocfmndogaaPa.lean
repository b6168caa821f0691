/-
 Contracts of this seat: what loops and calls leave, for all inputs. No condition.
-/
import Derived.Test.YtkejfocfmndogaaSycp
import Derived.Test.YtkejfocfmndogaaCo
import Derived.Test.YtkejfocfmndogaaShelf
set_option linter.unusedSimpArgs false
set_option linter.unusedVariables false
namespace Go.Proofs.Ytkejfocfmndogaa.Pa
open Go.RowKit Go.Ev Go.Proofs.Ytkejfocfmndogaa.Co

def lexC {α : Type} (c : α → α → Int) : List α → List α → Int
 | [], [] => 0
 | [], _ :: _ => -1
 | _ :: _, [] => 1
 | x :: l, y :: m => if c x y = 0 then lexC c l m else c x y
structure Ord {α : Type} (c : α → α → Int) : Prop where
 refl : ∀ x, c x x = 0
 zero : ∀ x y, c x y = 0 → x = y
 anti : ∀ x y, c y x = - c x y
 low : ∀ x y, -1 ≤ c x y ∧ c x y ≤ 1
 tran : ∀ x y z, c x y ≤ 0 → c y z ≤ 0 → c x z ≤ 0
theorem Ord.lt {α : Type} {c : α → α → Int} (h : Ord c) {x y z : α} (a : c x y ≤ 0) (b : c y z ≤ 0) (d : c x y < 0 ∨ c y z < 0) : c x z < 0 := by
 have h1 := h.tran x y z a b
 by_cases e : c x z = 0
 ·obtain rfl := h.zero _ _ e
  have := h.anti x y
  omega
 ·omega
theorem lex_refl {α : Type} {c : α → α → Int} (h : Ord c) : ∀ l, lexC c l l = 0
 | [] => rfl
 | x :: l => by rw [lexC, if_pos (h.refl x), lex_refl h l]
theorem lex_zero {α : Type} {c : α → α → Int} (h : Ord c) : ∀ l m, lexC c l m = 0 → l = m
 | [], [], _ => rfl
 | [], _ :: _, e => by simp [lexC] at e
 | _ :: _, [], e => by simp [lexC] at e
 | x :: l, y :: m, e => by
  rw [lexC] at e
  split at e
  ·rename_i e1
   rw [h.zero _ _ e1, lex_zero h l m e]
  ·exact absurd e ‹_›
theorem lex_anti {α : Type} {c : α → α → Int} (h : Ord c) : ∀ l m, lexC c m l = - lexC c l m
 | [], [] => rfl
 | [], _ :: _ => rfl
 | _ :: _, [] => rfl
 | x :: l, y :: m => by
  have e := h.anti x y
  rw [lexC, lexC]
  by_cases k : c x y = 0
  ·rw [if_pos (by omega), if_pos k, lex_anti h l m]
  ·rw [if_neg (by omega), if_neg k, e]
theorem lex_low {α : Type} {c : α → α → Int} (h : Ord c) : ∀ l m, -1 ≤ lexC c l m ∧ lexC c l m ≤ 1
 | [], [] => by simp [lexC]
 | [], _ :: _ => by simp [lexC]
 | _ :: _, [] => by simp [lexC]
 | x :: l, y :: m => by
  rw [lexC]
  split
  ·exact lex_low h l m
  ·exact h.low x y
theorem lex_tran {α : Type} {c : α → α → Int} (h : Ord c) : ∀ l m n, lexC c l m ≤ 0 → lexC c m n ≤ 0 → lexC c l n ≤ 0
 | [], _, [], _, _ => by simp [lexC]
 | [], _, _ :: _, _, _ => by simp [lexC]
 | _ :: _, [], _, a, _ => by simp [lexC] at a
 | _ :: _, _ :: _, [], _, b => by simp [lexC] at b
 | x :: l, y :: m, z :: n, a, b => by
  rw [lexC] at a b ⊢
  by_cases k : c x y = 0
  ·obtain rfl := h.zero _ _ k
   rw [if_pos k] at a
   by_cases g : c x z = 0
   ·rw [if_pos g] at b ⊢
    exact lex_tran h l m n a b
   ·rw [if_neg g] at b ⊢
    exact b
  ·rw [if_neg k] at a
   by_cases g : c y z = 0
   ·obtain rfl := h.zero _ _ g
    rw [if_neg k]
    exact a
   ·rw [if_neg g] at b
    have := h.lt a b (.inl (by omega))
    rw [if_neg (by omega)]
    omega
theorem lex_ord {α : Type} {c : α → α → Int} (h : Ord c) : Ord (lexC c) := ⟨lex_refl h, lex_zero h, lex_anti h, lex_low h, lex_tran h⟩
def cmpI (x y : Int) : Int := if x = y then 0 else if x < y then -1 else 1
theorem cmpI_ord : Ord cmpI where
 refl x := if_pos rfl
 zero x y h := by unfold cmpI at h; split at h; assumption; split at h <;> omega
 anti x y := by unfold cmpI; repeat' split; all_goals omega
 low x y := by unfold cmpI; repeat' split; all_goals omega
 tran x y z h g := by
  have h1 : x ≤ y := by unfold cmpI at h; repeat' split at h; all_goals omega
  have h2 : y ≤ z := by unfold cmpI at g; repeat' split at g; all_goals omega
  unfold cmpI; repeat' split; all_goals omega
abbrev cmpB : List Int → List Int → Int := lexC cmpI
abbrev cmpP : List (List Int) → List (List Int) → Int := lexC cmpB
theorem cmpB_ord : Ord cmpB := lex_ord cmpI_ord
theorem cmpP_ord : Ord cmpP := lex_ord cmpB_ord

def splitL : List Int → List (List Int)
 | [] => [[]]
 | c :: l => if c = 47 then [] :: splitL l else match splitL l with
  | h :: t => (c :: h) :: t
  | [] => [[c]]
def idxI : List Int → Int
 | [] => -1
 | c :: l => if c = 47 then 0 else if idxI l = -1 then -1 else idxI l + 1
def joinL : List (List Int) → List Int
 | [] => []
 | [p] => p
 | p :: q :: t => p ++ 47 :: joinL (q :: t)
theorem split_ne (l : List Int) : splitL l ≠ [] := by
 cases l with
 | nil => simp [splitL]
 | cons c l => rw [splitL]; split; simp; split <;> simp
theorem join_split : ∀ l : List Int, joinL (splitL l) = l
 | [] => rfl
 | c :: l => by
  have ih := join_split l
  rw [splitL]
  split
  ·rename_i h
   subst h
   cases hs : splitL l with
   | nil => exact absurd hs (split_ne l)
   | cons p t =>
    rw [hs] at ih
    rw [joinL, ih]; rfl
  ·cases hs : splitL l with
   | nil => exact absurd hs (split_ne l)
   | cons p t =>
    rw [hs] at ih
    cases t with
    | nil => simp only [joinL] at ih ⊢; rw [ih]
    | cons q t => simp only [joinL] at ih ⊢; rw [← ih]; rfl
theorem split_inj {l m : List Int} (h : splitL l = splitL m) : l = m := by rw [← join_split l, ← join_split m, h]
theorem idx_in : ∀ l : List Int, -1 ≤ idxI l ∧ idxI l < (l.length : Int)
 | [] => by simp [idxI]
 | c :: l => by
  have := idx_in l
  rw [idxI, List.length_cons]
  split
  ·omega
  ·split <;> omega
theorem split_idx : ∀ l : List Int, (idxI l = -1 ∧ splitL l = [l]) ∨ (0 ≤ idxI l ∧ splitL l = l.take (idxI l).toNat :: splitL (l.drop (idxI l + 1).toNat))
 | [] => .inl ⟨rfl, rfl⟩
 | c :: l => by
  have ih := split_idx l
  have hi := idx_in l
  rw [splitL, idxI]
  by_cases h : c = 47
  ·rw [if_pos h, if_pos h]
   exact .inr ⟨by omega, rfl⟩
  ·rw [if_neg h, if_neg h]
   rcases ih with ⟨e, e2⟩ | ⟨e, e2⟩
   ·rw [if_pos e, e2]
    exact .inl ⟨rfl, rfl⟩
   ·rw [if_neg (by omega), e2]
    refine .inr ⟨by omega, ?_⟩
    rw [show (idxI l + 1).toNat = (idxI l).toNat + 1 by omega, show (idxI l + 1 + 1).toNat = (idxI l + 1).toNat + 1 by omega, List.take_succ_cons, List.drop_succ_cons]
    rw [show (idxI l).toNat + 1 = (idxI l + 1).toNat by omega]
theorem split_app : ∀ (l m : List Int), (∀ c ∈ l, c ≠ 47) → splitL (l ++ 47 :: m) = l :: splitL m
 | [], m, _ => by simp [splitL]
 | c :: l, m, h => by
  have ih := split_app l m fun x hx => h x (by simp [hx])
  rw [List.cons_append, splitL, if_neg (h c (by simp)), ih]
theorem split_glue : ∀ (l m : List Int), splitL (l ++ 47 :: m) = splitL l ++ splitL m
 | [], m => by simp [splitL]
 | c :: l, m => by
  have ih := split_glue l m
  rw [List.cons_append, splitL, splitL, ih]
  split
  ·simp
  ·cases hs : splitL l with
   | nil => exact absurd hs (split_ne l)
   | cons p t => simp
theorem split_free : ∀ (l : List Int), ∀ p ∈ splitL l, ∀ c ∈ p, c ≠ 47
 | [], p, hp, c, hc => by simp [splitL] at hp; subst hp; cases hc
 | d :: l, p, hp, c, hc => by
  have ih := split_free l
  rw [splitL] at hp
  split at hp
  ·rcases List.mem_cons.1 hp with rfl | hp
   ·cases hc
   ·exact ih p hp c hc
  ·rename_i hd
   split at hp
   ·rename_i q t hs
    rcases List.mem_cons.1 hp with rfl | hp
    ·rcases List.mem_cons.1 hc with rfl | hc
     ·exact hd
     ·exact ih q (by rw [hs]; simp) c hc
    ·exact ih p (by rw [hs]; simp [hp]) c hc
   ·rename_i hs; exact absurd hs (split_ne l)
theorem join_glue : ∀ (l m : List (List Int)), l ≠ [] → m ≠ [] → joinL (l ++ m) = joinL l ++ 47 :: joinL m
 | [], _, h, _ => absurd rfl h
 | [p], [], _, h => absurd rfl h
 | [p], q :: t, _, _ => rfl
 | p :: q :: l, m, _, hm => by
  have ih := join_glue (q :: l) m (by simp) hm
  show p ++ 47 :: joinL ((q :: l) ++ m) = _
  rw [ih]
  simp [joinL]
def mayI (c : Int) : Bool := decide (32 < c ∧ c ≤ 126 ∧ c ≠ 47)
def badI : List Int → Int
 | [] => -1
 | c :: l => if mayI c then (if badI l = -1 then -1 else badI l + 1) else 0
def partF (p : List Int) : Int × Int :=
 if p = [] ∨ p = [46] ∨ p = [46, 46] then (2, 0) else if 0 ≤ badI p then (4, badI p) else if 60 < (p.length : Int) then (3, 60) else (0, 0)
def chkL : List (List Int) → Int → Int → Int × Int
 | [], _, _ => (0, 0)
 | p :: t, a, n => if 20 < n + 1 then (3, a) else if (partF p).1 = 0 then chkL t (a + p.length + 1) (n + 1) else ((partF p).1, a + (partF p).2)
def checkF (s : List Int) : Int × Int := if s = [] then (2, 0) else if 200 < (s.length : Int) then (3, 200) else chkL (splitL s) 0 0
def okP (s : List Int) : Bool := decide ((checkF s).1 = 0)
theorem chk_ok : ∀ (l : List (List Int)) (a n : Int), (chkL l a n).1 = 0 ↔ (∀ p ∈ l, (partF p).1 = 0) ∧ (l = [] ∨ n + l.length ≤ 20)
 | [], a, n => by simp [chkL]
 | p :: t, a, n => by
  rw [chkL]
  by_cases h : 20 < n + 1
  ·rw [if_pos h]
   constructor
   ·intro k; simp at k
   ·rintro ⟨_, k | k⟩
    ·cases k
    ·simp only [List.length_cons] at k; omega
  ·rw [if_neg h]
   by_cases g : (partF p).1 = 0
   ·rw [if_pos g, chk_ok t]
    simp only [List.mem_cons, forall_eq_or_imp, List.length_cons]
    constructor
    ·rintro ⟨h1, h2⟩
     refine ⟨⟨g, h1⟩, .inr ?_⟩
     rcases h2 with rfl | h2
     ·simp; omega
     ·omega
    ·rintro ⟨⟨_, h1⟩, h2 | h2⟩
     ·cases h2
     ·exact ⟨h1, .inr (by omega)⟩
   ·rw [if_neg g]
    constructor
    ·intro k; exact absurd k g
    ·rintro ⟨h1, _⟩; exact absurd (h1 p (by simp)) g
theorem ok_iff (s : List Int) : okP s = true ↔ s ≠ [] ∧ (s.length : Int) ≤ 200 ∧ (∀ p ∈ splitL s, (partF p).1 = 0) ∧ ((splitL s).length : Int) ≤ 20 := by
 unfold okP checkF
 rw [decide_eq_true_eq]
 by_cases h : s = []
 ·rw [if_pos h]; simp [h]
 ·rw [if_neg h]
  by_cases g : 200 < (s.length : Int)
  ·rw [if_pos g]
   constructor
   ·intro k; simp at k
   ·rintro ⟨_, k, _⟩; omega
  ·rw [if_neg g, chk_ok]
   constructor
   ·rintro ⟨h1, h2 | h2⟩
    ·exact absurd h2 (split_ne s)
    ·exact ⟨h, by omega, h1, by omega⟩
   ·rintro ⟨_, _, h1, h2⟩
    exact ⟨h1, .inr (by omega)⟩
theorem part_ne {p : List Int} (h : (partF p).1 = 0) : p ≠ [] := by
 rintro rfl
 simp [partF] at h
def cmpT (a b : List Int) : Int := if okP a then (if okP b then cmpP (splitL a) (splitL b) else 1) else (if okP b then -1 else cmpB a b)
theorem cmpT_ord : Ord cmpT where
 refl x := by
  unfold cmpT
  split
  ·exact cmpP_ord.refl _
  ·exact cmpB_ord.refl _
 zero x y h := by
  unfold cmpT at h
  split at h
  ·split at h
   ·exact split_inj (cmpP_ord.zero _ _ h)
   ·omega
  ·split at h
   ·omega
   ·exact cmpB_ord.zero _ _ h
 anti x y := by
  unfold cmpT
  by_cases a : okP x = true <;> by_cases b : okP y = true <;> simp only [a, b, if_true, if_false, Bool.false_eq_true]
  ·exact cmpP_ord.anti _ _
  ·omega
  ·exact cmpB_ord.anti _ _
 low x y := by
  unfold cmpT
  split
  ·split
   ·exact cmpP_ord.low _ _
   ·omega
  ·split
   ·omega
   ·exact cmpB_ord.low _ _
 tran x y z h g := by
  unfold cmpT at *
  by_cases a : okP x = true <;> by_cases b : okP y = true <;> by_cases c : okP z = true <;> simp only [a, b, c, if_true, if_false, Bool.false_eq_true] at h g ⊢
  all_goals first | omega | exact cmpP_ord.tran _ _ _ h g | exact cmpB_ord.tran _ _ _ h g
theorem cmpT_up {a b c : List Int} (h : 0 ≤ cmpT a b) (g : 0 ≤ cmpT b c) : 0 ≤ cmpT a c := by
 have h1 := cmpT_ord.anti a b
 have h2 := cmpT_ord.anti b c
 have h3 := cmpT_ord.anti a c
 have := cmpT_ord.tran c b a (by omega) (by omega)
 omega
theorem cmpT_eq {a b : List Int} : cmpT a b = 0 ↔ a = b := ⟨cmpT_ord.zero a b, fun h => by rw [h]; exact cmpT_ord.refl b⟩
theorem lex_pre {α : Type} {c : α → α → Int} (h : Ord c) : ∀ (l t : List α), t ≠ [] → lexC c l (l ++ t) = -1
 | [], t, ht => by cases t with
  | nil => exact absurd rfl ht
  | cons a t => rfl
 | x :: l, t, ht => by rw [List.cons_append, lexC, if_pos (h.refl x), lex_pre h l t ht]
theorem lex_past {α : Type} {c : α → α → Int} (h : Ord c) : ∀ (o d m : List α), 0 < lexC c o d → (∀ t, o ≠ d ++ t) → lexC c o (d ++ m) = 1
 | [], [], m, a, _ => by simp [lexC] at a
 | [], _ :: _, m, a, _ => by simp [lexC] at a
 | x :: o, [], m, _, b => absurd rfl (b (x :: o))
 | x :: o, y :: d, m, a, b => by
  rw [lexC] at a
  rw [List.cons_append, lexC]
  by_cases k : c x y = 0
  ·obtain rfl := h.zero _ _ k
   rw [if_pos k] at a
   rw [if_pos k]
   exact lex_past h o d m a fun t e => b t (by rw [e]; rfl)
  ·rw [if_neg k] at a
   rw [if_neg k]
   have := h.low x y
   omega
def undF (s d : List Int) : Bool := okP s && (okP d && (d ++ [47]).isPrefixOf s)
theorem pre_iff {d s : List Int} : (d ++ [47]).isPrefixOf s = true ↔ ∃ m, s = d ++ 47 :: m := by
 rw [List.isPrefixOf_iff_prefix]
 constructor
 ·rintro ⟨m, rfl⟩; exact ⟨m, by simp⟩
 ·rintro ⟨m, rfl⟩; exact ⟨m, by simp⟩
theorem und_iff {s d : List Int} : undF s d = true ↔ okP s = true ∧ okP d = true ∧ ∃ m, s = d ++ 47 :: m := by
 unfold undF
 rw [Bool.and_eq_true, Bool.and_eq_true, pre_iff]
theorem ok_pre {p m : List Int} (h : okP (p ++ 47 :: m) = true) : okP p = true := by
 rw [ok_iff] at h ⊢
 obtain ⟨_, h2, h3, h4⟩ := h
 rw [split_glue] at h3 h4
 refine ⟨?_, by simp only [List.length_append, List.length_cons] at h2; omega, fun q hq => h3 q (by simp [hq]), by simp only [List.length_append] at h4; omega⟩
 rintro rfl
 exact part_ne (h3 [] (by simp [splitL])) rfl
def lastI : List Int → Int
 | [] => -1
 | c :: l => if lastI l = -1 then (if c = 47 then 0 else -1) else lastI l + 1
theorem last_in : ∀ l : List Int, -1 ≤ lastI l ∧ lastI l < (l.length : Int)
 | [] => by simp [lastI]
 | c :: l => by
  have := last_in l
  rw [lastI, List.length_cons]
  split
  ·split <;> omega
  ·omega
theorem last_cut : ∀ l : List Int, (lastI l = -1 ∧ ∀ c ∈ l, c ≠ 47) ∨ (0 ≤ lastI l ∧ ∃ q, l = l.take (lastI l).toNat ++ 47 :: q ∧ ∀ c ∈ q, c ≠ 47)
 | [] => .inl ⟨rfl, by simp⟩
 | c :: l => by
  have hi := last_in l
  rw [lastI]
  rcases last_cut l with ⟨e, g⟩ | ⟨e, q, g1, g2⟩
  ·rw [if_pos e]
   by_cases k : c = 47
   ·rw [if_pos k]
    exact .inr ⟨by omega, l, by simp [k], g⟩
   ·rw [if_neg k]
    refine .inl ⟨rfl, fun d hd => ?_⟩
    rcases List.mem_cons.1 hd with rfl | hd
    ·exact k
    ·exact g d hd
  ·rw [if_neg (by omega)]
   refine .inr ⟨by omega, q, ?_, g2⟩
   rw [show (lastI l + 1).toNat = (lastI l).toNat + 1 by omega, List.take_succ_cons, List.cons_append, ← g1]
def parF (s : List Int) : List Int := s.take (lastI s).toNat
theorem par_ok {s : List Int} (h : okP s = true) (k : 0 ≤ lastI s) : okP (parF s) = true ∧ undF s (parF s) = true ∧ cmpT (parF s) s = -1 ∧ ∃ q, s = parF s ++ 47 :: q ∧ ∀ c ∈ q, c ≠ 47 := by
 rcases last_cut s with ⟨e, _⟩ | ⟨_, q, g1, g2⟩
 ·omega
 ·have g1 : s = parF s ++ 47 :: q := g1
  have hp : okP (parF s) = true := ok_pre (m := q) (by rw [← g1]; exact h)
  refine ⟨hp, und_iff.2 ⟨h, hp, q, g1⟩, ?_, q, g1, g2⟩
  unfold cmpT
  rw [if_pos hp, if_pos h]
  rw [(congrArg splitL g1).trans (split_glue _ _)]
  exact lex_pre cmpB_ord _ _ (split_ne q)
theorem und_tran {s p d : List Int} (h : undF s p = true) (g : undF p d = true) : undF s d = true := by
 rw [und_iff] at *
 obtain ⟨h1, _, m, rfl⟩ := h
 obtain ⟨_, g2, n, rfl⟩ := g
 exact ⟨h1, g2, n ++ 47 :: m, by simp⟩
theorem und_cmp {s d : List Int} (h : undF s d = true) : cmpT d s = -1 ∧ undF d s = false ∧ 0 ≤ lastI s ∧ (parF s = d ∨ undF (parF s) d = true) := by
 have h0 := h
 rw [und_iff] at h
 obtain ⟨h1, h2, m, e⟩ := h
 have hl : 0 ≤ lastI s := by
  rcases last_cut s with ⟨_, g⟩ | ⟨g, _⟩
  ·exact absurd rfl (g 47 (by rw [e]; simp))
  ·exact g
 obtain ⟨p1, _, _, q, e2, g2⟩ := par_ok h1 hl
 refine ⟨?_, ?_, hl, ?_⟩
 ·unfold cmpT
  rw [if_pos h2, if_pos h1, e, split_glue]
  exact lex_pre cmpB_ord _ _ (split_ne m)
 ·cases k : undF d s with
  | false => rfl
  | true =>
   rw [und_iff] at k
   obtain ⟨_, _, n, e3⟩ := k
   have a := congrArg List.length e
   have b := congrArg List.length e3
   simp only [List.length_append, List.length_cons] at a b
   omega
 ·have e3 : parF s ++ 47 :: q = d ++ 47 :: m := by rw [← e2, e]
  rcases Nat.lt_trichotomy (parF s).length d.length with a | a | a
  ·exfalso
   have b := congrArg (fun l => l[d.length]?) e3
   simp only [List.getElem?_append_right (Nat.le_refl _), Nat.sub_self, List.getElem?_cons_zero] at b
   rw [List.getElem?_append_right (by omega), show d.length - (parF s).length = (d.length - (parF s).length - 1) + 1 by omega, List.getElem?_cons_succ] at b
   exact g2 47 (List.mem_of_getElem? b) rfl
  ·left
   exact (List.append_inj e3 a).1
  ·right
   rw [und_iff]
   refine ⟨p1, h2, ((parF s).drop (d.length + 1)), ?_⟩
   have b := congrArg (fun l => l.take (parF s).length) e3
   simp only [List.take_left] at b
   rw [List.take_append, List.take_of_length_le (by omega), show (parF s).length - d.length = ((parF s).length - d.length - 1) + 1 by omega, List.take_succ_cons] at b
   have c := congrArg (fun l => l.drop (d.length + 1)) b
   simp only [List.drop_append, List.drop_of_length_le (Nat.le_succ d.length), Nat.add_sub_cancel_left, List.drop_succ_cons, List.drop_zero, List.nil_append] at c
   rw [c]
   exact b
theorem und_past {s d o : List Int} (h : undF s d = true) (ho : okP o = true) (g : undF o d = false) (k : 0 < cmpT o d) : cmpT o s = 1 := by
 rw [und_iff] at h
 obtain ⟨h1, h2, m, e⟩ := h
 unfold cmpT at k ⊢
 rw [if_pos ho, if_pos h2] at k
 rw [if_pos ho, if_pos h1, e, split_glue]
 refine lex_past cmpB_ord _ _ _ k fun t e2 => ?_
 cases t with
 | nil =>
  rw [List.append_nil] at e2
  have := split_inj e2
  subst this
  rw [cmpP_ord.refl] at k
  omega
 | cons a t =>
  have : undF o d = true := by
   rw [und_iff]
   refine ⟨ho, h2, joinL (a :: t), ?_⟩
   have j := join_split o
   rw [e2, join_glue _ _ (split_ne d) (by simp), join_split] at j
   exact j.symm
  rw [g] at this
  cases this

def neP (x : List Int) : Bool := (splitL x).all fun p => !p.isEmpty
def hasP (x : List Int) : Bool := okP x && decide (0 ≤ lastI x)
def splitR : List D → List (List D)
 | [] => [[]]
 | c :: l => if c.toInt = 47 then [] :: splitR l else match splitR l with
  | p :: t => (c :: p) :: t
  | [] => [[c]]
def lastD (l : List D) : D := l.getLast?.getD (.list [])
def glueD (l : List D) : List (List D) → List D
 | [] => l
 | h :: m => l.dropLast ++ (if h.isEmpty then lastD l else .list ((lastD l).toList ++ h)) :: m.map D.list
def chkD (l : List D) (i a : Int) : Int × Int := chkL ((l.drop i.toNat).map D.ints) a i
def freeL (l : List D) : Bool := l.all fun p => decide (idxI p.ints < 0 ∧ p.ints.length ≤ 1000)
def mayN : List Int → Nat
 | [] => 0
 | c :: l => if mayI c then mayN l + 1 else 0
def chkR (r : List Int) (a n : Int) : Int × Int := chkL (splitL r) a n
def likeL : List (List Int) → List (List Int) → Bool
 | p :: l, q :: m => decide (p = q) && likeL l m
 | _, _ => true
def tailD (l : List D) (i : Int) : List (List Int) := (l.drop i.toNat).map D.ints
def visN : List Int → Nat
 | [] => 0
 | c :: l => if 32 < c ∧ c ≤ 126 then visN l + 1 else 0
def partR (p : List Int) : Int × Int :=
 if p = [] ∨ p = [46] ∨ p = [46, 46] then (2, 0) else if visN p < p.length then (4, visN p) else if 60 < (p.length : Int) then (3, 60) else (0, 0)
def F : Nat → D → D
 | 40 => fun a => .int (idxI (argD a 0).ints)
 | 41 => fun a => .int (cmpB (argD a 0).ints (argD a 1).ints)
 | 42 => fun a => .int (lastI (argD a 0).ints)
 | 43 => fun a => .int (partF (argD a 0).ints).1
 | 44 => fun a => .int (partF (argD a 0).ints).2
 | 45 => fun a => .int (checkF (argD a 0).ints).1
 | 46 => fun a => .int (checkF (argD a 0).ints).2
 | 48 => fun a => .int (chkR (argD a 0).ints (argD a 1).toInt (argD a 2).toInt).1
 | 49 => fun a => .int (chkR (argD a 0).ints (argD a 1).toInt (argD a 2).toInt).2
 | 50 => fun a => .int ((splitL (argD a 0).ints).length : Nat)
 | 51 => fun a => .int (cmpP (splitL (argD a 0).ints) (splitL (argD a 1).ints))
 | 52 => fun a => .int (cmpT (argD a 0).ints (argD a 1).ints)
 | 53 => fun a => .int (if undF (argD a 0).ints (argD a 1).ints then 1 else 0)
 | 54 => fun a => .int (mayN (argD a 0).ints : Nat)
 | 55 => fun a => .int (if neP (argD a 0).ints then 1 else 0)
 | 56 => fun a => .int (if hasP (argD a 0).ints then 1 else 0)
 | 57 => fun a => .list ((splitR (argD a 0).toList).map D.list)
 | 58 => fun a => .list (glueD (argD a 0).toList (splitR ((argD a 1).toList.drop (argD a 2).nat)))
 | 59 => fun a => .int (chkD (argD a 0).toList (argD a 1).toInt (argD a 2).toInt).1
 | 60 => fun a => .int (chkD (argD a 0).toList (argD a 1).toInt (argD a 2).toInt).2
 | 61 => fun a => .int (if freeL (argD a 0).toList then 1 else 0)
 | 62 => fun a => .int (if likeL (tailD (argD a 0).toList (argD a 2).toInt) (tailD (argD a 1).toList (argD a 2).toInt) then 1 else 0)
 | 63 => fun a => .int (cmpP (tailD (argD a 0).toList (argD a 2).toInt) (tailD (argD a 1).toList (argD a 2).toInt))
 | 64 => fun a => .int (partR (argD a 0).ints).1
 | 65 => fun a => .int (partR (argD a 0).ints).2
 | 66 => fun a => .int (visN (argD a 0).ints : Nat)
 | _ => fun x => x
theorem F40 (x : D) : F 40 (.list [x, .int 0]) = .int (idxI x.ints) := rfl
theorem F41 (x y : D) : F 41 (.list [x, .list [y, .int 0]]) = .int (cmpB x.ints y.ints) := rfl
theorem F42 (x : D) : F 42 (.list [x, .int 0]) = .int (lastI x.ints) := rfl
theorem F43 (x : D) : F 43 (.list [x, .int 0]) = .int ((partF x.ints).1) := rfl
theorem F44 (x : D) : F 44 (.list [x, .int 0]) = .int ((partF x.ints).2) := rfl
theorem F45 (x : D) : F 45 (.list [x, .int 0]) = .int ((checkF x.ints).1) := rfl
theorem F46 (x : D) : F 46 (.list [x, .int 0]) = .int ((checkF x.ints).2) := rfl
theorem F48 (x a n : D) : F 48 (.list [x, .list [a, .list [n, .int 0]]]) = .int ((chkR x.ints a.toInt n.toInt).1) := rfl
theorem F49 (x a n : D) : F 49 (.list [x, .list [a, .list [n, .int 0]]]) = .int ((chkR x.ints a.toInt n.toInt).2) := rfl
theorem F50 (x : D) : F 50 (.list [x, .int 0]) = .int (((splitL x.ints).length : Nat)) := rfl
theorem F51 (x y : D) : F 51 (.list [x, .list [y, .int 0]]) = .int (cmpP (splitL x.ints) (splitL y.ints)) := rfl
theorem F52 (x y : D) : F 52 (.list [x, .list [y, .int 0]]) = .int (cmpT x.ints y.ints) := rfl
theorem F53 (x y : D) : F 53 (.list [x, .list [y, .int 0]]) = .int (if undF x.ints y.ints then 1 else 0) := rfl
theorem F54 (x : D) : F 54 (.list [x, .int 0]) = .int ((mayN x.ints : Nat)) := rfl
theorem F55 (x : D) : F 55 (.list [x, .int 0]) = .int (if neP x.ints then 1 else 0) := rfl
theorem F56 (x : D) : F 56 (.list [x, .int 0]) = .int (if hasP x.ints then 1 else 0) := rfl
theorem F59 (l i a : D) : F 59 (.list [l, .list [i, .list [a, .int 0]]]) = .int ((chkD l.toList i.toInt a.toInt).1) := rfl
theorem F60 (l i a : D) : F 60 (.list [l, .list [i, .list [a, .int 0]]]) = .int ((chkD l.toList i.toInt a.toInt).2) := rfl
theorem F61 (x : D) : F 61 (.list [x, .int 0]) = .int (if freeL x.toList then 1 else 0) := rfl
theorem F62 (x y i : D) : F 62 (.list [x, .list [y, .list [i, .int 0]]]) = .int (if likeL (tailD x.toList i.toInt) (tailD y.toList i.toInt) then 1 else 0) := rfl
theorem F63 (x y i : D) : F 63 (.list [x, .list [y, .list [i, .int 0]]]) = .int (cmpP (tailD x.toList i.toInt) (tailD y.toList i.toInt)) := rfl
theorem F64 (x : D) : F 64 (.list [x, .int 0]) = .int ((partR x.ints).1) := rfl
theorem F65 (x : D) : F 65 (.list [x, .int 0]) = .int ((partR x.ints).2) := rfl
theorem F66 (x : D) : F 66 (.list [x, .int 0]) = .int ((visN x.ints : Nat)) := rfl
theorem F57 (x : D) : F 57 (.list [x, .int 0]) = .list ((splitR x.toList).map D.list) := rfl
theorem F58 (l x i : D) : F 58 (.list [l, .list [x, .list [i, .int 0]]]) = .list (glueD l.toList (splitR (x.toList.drop i.nat))) := rfl

theorem u8_eq {a b : Int} (ha : 0 ≤ a ∧ a ≤ 255) (hb : 0 ≤ b ∧ b ≤ 255) : (UInt8.ofNat a.toNat = UInt8.ofNat b.toNat) ↔ a = b := by
 constructor
 ·intro h
  have := congrArg UInt8.toNat h
  rw [UInt8.toNat_ofNat', UInt8.toNat_ofNat', Nat.mod_eq_of_lt (by omega), Nat.mod_eq_of_lt (by omega)] at this
  omega
 ·rintro rfl; rfl
theorem u8_lt {a b : Int} (ha : 0 ≤ a ∧ a ≤ 255) (hb : 0 ≤ b ∧ b ≤ 255) : (UInt8.ofNat a.toNat < UInt8.ofNat b.toNat) ↔ a < b := by
 rw [UInt8.lt_iff_toNat_lt, UInt8.toNat_ofNat', UInt8.toNat_ofNat', Nat.mod_eq_of_lt (by omega), Nat.mod_eq_of_lt (by omega)]
 omega
theorem idx_lib : ∀ {l : List Int}, (∀ c ∈ l, inK .u8 c) → Lib.indexByte (strOf l).data.toList ((47 : Int).toNat.toUInt8) = idxI l := by
 intro l h
 rw [strOf_data]
 induction l with
 | nil => rfl
 | cons a l ih =>
  have ha := h a (by simp)
  have ih := ih fun c hc => h c (by simp [hc])
  have ha : 0 ≤ a ∧ a ≤ 255 := ha
  simp only [List.map_cons, Lib.indexByte, idxI]
  have e : ((UInt8.ofNat a.toNat == (47 : Int).toNat.toUInt8) = true) ↔ a = 47 := by
   rw [beq_iff_eq]
   exact u8_eq ha (by omega)
  by_cases k : a = 47
  ·rw [if_pos (e.2 k), if_pos k]
  ·rw [if_neg (fun x => k (e.1 x)), if_neg k, ih]
   simp only [beq_iff_eq]
theorem cmpB_cons (a b : Int) (l m : List Int) : cmpB (a :: l) (b :: m) = if a = b then cmpB l m else if a < b then -1 else 1 := by
 show lexC cmpI (a :: l) (b :: m) = _
 rw [lexC]
 by_cases k : a = b
 ·rw [if_pos k, if_pos (by rw [cmpI, if_pos k])]
 ·have : cmpI a b = if a < b then -1 else 1 := by unfold cmpI; exact if_neg k
  rw [if_neg k, if_neg (by rw [this]; split <;> omega), this]
theorem last_at {l : List Int} (h : 0 ≤ lastI l) : l[(lastI l).toNat]? = some 47 := by
 have hl := last_in l
 rcases last_cut l with ⟨e1, _⟩ | ⟨e1, q, g1, _⟩
 ·omega
 ·have g2 := congrArg (fun l_ => l_[(lastI l).toNat]?) g1
  simp only [List.getElem?_append_right (show (List.take (lastI l).toNat l).length ≤ (lastI l).toNat by rw [List.length_take]; omega), List.length_take, show (lastI l).toNat - min (lastI l).toNat l.length = 0 by omega, List.getElem?_cons_zero] at g2
  exact g2
theorem cmp_lib : ∀ {l m : List Int}, (∀ c ∈ l, inK .u8 c) → (∀ c ∈ m, inK .u8 c) → Lib.compareBytes (strOf l).data.toList (strOf m).data.toList = cmpB l m := by
 intro l m hl hm
 rw [strOf_data, strOf_data]
 induction l generalizing m with
 | nil => cases m <;> rfl
 | cons a l ih =>
  cases m with
  | nil => rfl
  | cons b m =>
   have ha : 0 ≤ a ∧ a ≤ 255 := hl a (by simp)
   have hb : 0 ≤ b ∧ b ≤ 255 := hm b (by simp)
   have ih := ih (m := m) (fun c hc => hl c (by simp [hc])) (fun c hc => hm c (by simp [hc]))
   rw [cmpB_cons]
   simp only [List.map_cons, Lib.compareBytes]
   simp only [u8_lt ha hb, u8_lt hb ha]
   by_cases k : a = b
   ·rw [if_neg (by omega), if_neg (by omega), if_pos k]; exact ih
   ·by_cases g : a < b
    ·rw [if_pos g, if_neg k, if_pos g]
    ·rw [if_neg g, if_pos (by omega), if_neg k, if_neg g]
theorem last_lib {l : List Int} (h : ∀ c ∈ l, inK .u8 c) : Lib.lastIndexByte (strOf l) 47 = lastI l := by
 have hs : (strOf l).size = l.length := strOf_size l
 have hget : ∀ j, j < l.length → (((strOf l).data[j]!).toNat : Int) = (l[j]?).getD 0 := by
  intro j hj
  have h1 := congrArg (fun q => q[j]?) (strOf_data l)
  simp only [List.getElem?_map, Array.getElem?_toList] at h1
  have h2 : (strOf l).data[j]! = UInt8.ofNat (l[j]).toNat := by
   rw [Array.getElem!_eq_getD, Array.getD_eq_getD_getElem?, h1, List.getElem?_eq_getElem hj]; rfl
  have ha : 0 ≤ l[j] ∧ l[j] ≤ 255 := h _ (List.getElem_mem hj)
  rw [h2, UInt8.toNat_ofNat', Nat.mod_eq_of_lt (by omega), List.getElem?_eq_getElem hj]
  show ((l[j].toNat : Nat) : Int) = l[j]
  omega
 have spec := Lib.lastIdx_spec (strOf l) 47 (strOf l).size
 unfold Lib.lastIndexByte
 rw [hs] at spec ⊢
 have up : ∀ (m : List Int) (i : Nat), i < m.length → (m[i]?).getD 0 = 47 → (∀ j, i < j → j < m.length → (m[j]?).getD 0 ≠ 47) → lastI m = i := by
  intro m
  induction m with
  | nil => intro i hi; simp at hi
  | cons a m ih =>
   intro i hi e g
   cases i with
   | zero =>
    have : lastI m = -1 := by
     have hl := last_in m
     by_cases k : lastI m = -1
     ·exact k
     ·exfalso
      have := g ((lastI m).toNat + 1) (by omega) (by simp only [List.length_cons]; omega)
      rw [List.getElem?_cons_succ, last_at (by omega)] at this
      exact this rfl
    simp only [List.getElem?_cons_zero, Option.getD_some] at e
    rw [lastI, if_pos this, if_pos e]; rfl
   | succ i =>
    have := ih i (by simpa using hi) (by simpa using e) (fun j h1 h2 => by have := g (j + 1) (by omega) (by simp only [List.length_cons]; omega); simpa using this)
    rw [lastI, if_neg (by omega), this]; rfl
 rcases spec with ⟨e, g⟩ | ⟨i, h1, e, e2, g⟩
 ·rw [e]
  have hl := last_in l
  by_cases k : lastI l = -1
  ·exact k.symm
  ·exfalso
   have := g (lastI l).toNat (by omega)
   rw [hget _ (by omega), last_at (by omega)] at this
   exact this rfl
 ·rw [e]
  rw [hget _ h1] at e2
  exact (up l i h1 e2 fun j h3 h4 => by rw [← hget _ h4]; exact g j h3 h4).symm

theorem may_le : ∀ l : List Int, mayN l ≤ l.length
 | [] => Nat.le_refl 0
 | c :: l => by
  have := may_le l
  simp only [mayN, List.length_cons]
  split <;> omega
theorem may_good : ∀ (l : List Int) (i : Nat), i < mayN l → ∃ c, l[i]? = some c ∧ (32 < c ∧ c ≤ 126 ∧ c ≠ 47)
 | [], i, h => by simp [mayN] at h
 | c :: l, i, h => by
  simp only [mayN] at h
  by_cases k : mayI c = true
  ·rw [if_pos k] at h
   cases i with
   | zero => exact ⟨c, rfl, by simpa [mayI] using k⟩
   | succ i => obtain ⟨e, g⟩ := may_good l i (by omega); exact ⟨e, g⟩
  ·rw [if_neg k] at h; omega
theorem may_bad : ∀ (l : List Int), mayN l < l.length → ∃ c, l[mayN l]? = some c ∧ ¬ (32 < c ∧ c ≤ 126 ∧ c ≠ 47)
 | [], h => by simp [mayN] at h
 | c :: l, h => by
  by_cases k : mayI c = true
  ·simp only [mayN, if_pos k, List.length_cons] at h ⊢
   obtain ⟨e, g, f⟩ := may_bad l (by omega)
   exact ⟨e, by simpa using g, f⟩
  ·simp only [mayN, if_neg k]
   exact ⟨c, rfl, by simpa [mayI] using k⟩
theorem bad_may : ∀ (l : List Int), badI l = if mayN l < l.length then (mayN l : Int) else -1
 | [] => rfl
 | c :: l => by
  have := bad_may l
  by_cases k : mayI c = true
  ·simp only [badI, mayN, if_pos k, List.length_cons]
   by_cases g : mayN l < l.length
   ·have e : badI l = mayN l := by rw [this, if_pos g]
    rw [if_neg (by omega), if_pos (by omega)]; omega
   ·have e : badI l = -1 := by rw [this, if_neg g]
    rw [if_pos e, if_neg (by omega)]
  ·simp only [badI, mayN, if_neg k, List.length_cons]
   rw [if_pos (by omega)]; rfl

def idxC : CSpec := { args := [.sstr (.var 0) (.var 1), .int .u8 47], next := 0, rows := [], pre := [(.le (.var 0) (.int 100000000000000), true)], res := .sint .i64 (.fn 40 (argsE [.var 1])), frows := [], same := [] }
theorem idxC_holds : CHolds Try.prog 58 idxC F := by
 intro d hp v B e w xs hr ha
 simp only [idxC, VRs, VR] at ha
 obtain ⟨_, _, rfl, ⟨rfl, h1, h2⟩, _, _, rfl, rfl, rfl⟩ := ha
 have hq := hp _ (List.mem_cons_self ..)
 refine Calls.mono (Try.stringslite_IndexByte _ 47 w) fun en w' ⟨he, hw⟩ => ⟨e, ⟨idxC.next, ?_⟩, ⟨_, he, ?_⟩, fun i hi => by simp [idxC] at hi, fun g => ⟨rfl, rfl⟩⟩
 ·subst hw; exact hr
 ·simp only [idxC, VR, hr.opq, E.i, argsE]
  rw [idx_lib (by simpa only [hr.opq] using h2)]
  have hi := idx_in ((E.var 1).s e.opq)
  simp only [hr.opq, E.s, E.i, E.den] at hi h1
  refine ⟨rfl, ?_⟩
  have hq : (d 0).toInt ≤ 100000000000000 := of_decide_eq_true hq
  simp only [E.den, BO.den, F40, D.toInt_int]
  rw [← h1] at hi
  show (-9223372036854775808 : Int) ≤ _ ∧ _ ≤ (9223372036854775807 : Int)
  omega


def cmpC : CSpec := { args := [.sstr (.var 0) (.var 1), .sstr (.var 2) (.var 3)], next := 0, rows := [], pre := [], res := .sint .i64 (.fn 41 (argsE [.var 1, .var 3])), frows := [], same := [] }
theorem cmpC_holds : CHolds Try.prog 48 cmpC F := by
 intro d hp v B e w xs hr ha
 simp only [cmpC, VRs, VR] at ha
 obtain ⟨_, _, rfl, ⟨rfl, h1, h2⟩, _, _, rfl, ⟨rfl, h3, h4⟩, rfl⟩ := ha
 refine Calls.mono (Try.bytealg_CompareString _ _ w) fun en w' ⟨he, hw⟩ => ⟨e, ⟨cmpC.next, ?_⟩, ⟨_, he, ?_⟩, fun i hi => by simp [cmpC] at hi, fun g => ⟨rfl, rfl⟩⟩
 ·subst hw; exact hr
 ·simp only [cmpC, VR, hr.opq, E.i, argsE]
  rw [cmp_lib (by simpa only [hr.opq] using h2) (by simpa only [hr.opq] using h4)]
  have hi := cmpB_ord.low ((E.var 1).s e.opq) ((E.var 3).s e.opq)
  simp only [hr.opq, E.s, E.den] at hi
  refine ⟨rfl, ?_⟩
  simp only [E.den, BO.den, F41, D.toInt_int]
  show (-9223372036854775808 : Int) ≤ _ ∧ _ ≤ (9223372036854775807 : Int)
  omega


def lastC : CSpec := { args := [.sstr (.var 0) (.var 1), .int .u8 47], next := 0, rows := [], pre := [(.le (.var 0) (.int 100000000000000), true)], res := .sint .i64 (.fn 42 (argsE [.var 1])), frows := [], same := [] }
theorem lastC_holds : CHolds Try.prog 43 lastC F := by
 intro d hp v B e w xs hr ha
 simp only [lastC, VRs, VR] at ha
 obtain ⟨_, _, rfl, ⟨rfl, h1, h2⟩, _, _, rfl, rfl, rfl⟩ := ha
 have hq := hp _ (List.mem_cons_self ..)
 simp only [hr.opq, E.i, E.den] at h1
 have hq : (d 0).toInt ≤ 100000000000000 := of_decide_eq_true hq
 refine Calls.mono (Try.bytealg_LastIndexByteString_nm _ 47 ?_ w) fun en w' ⟨he, hw⟩ => ⟨e, ⟨lastC.next, ?_⟩, ⟨_, he, ?_⟩, fun i hi => by simp [lastC] at hi, fun g => ⟨rfl, rfl⟩⟩
 ·rw [strOf_size]; simp only [hr.opq] at h1 ⊢; simp only [E.s, E.den] at h1 ⊢; omega
 ·subst hw; exact hr
 ·simp only [lastC, VR, hr.opq, E.i, argsE]
  rw [last_lib (by simpa only [hr.opq] using h2)]
  have hi := last_in ((E.var 1).s e.opq)
  simp only [hr.opq, E.s, E.den] at hi h1
  refine ⟨rfl, ?_⟩
  simp only [E.den, BO.den, F42, D.toInt_int]
  rw [← h1] at hi
  show (-9223372036854775808 : Int) ≤ _ ∧ _ ≤ (9223372036854775807 : Int)
  omega


end Go.Proofs.Ytkejfocfmndogaa.Pa
