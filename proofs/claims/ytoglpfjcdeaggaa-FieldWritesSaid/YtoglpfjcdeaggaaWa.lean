/-
  Contracts of this seat: what loops and calls leave, for all inputs. No condition.
-/
import Derived.Test.YtoglpfjcdeaggaaSycp
import Derived.Test.YtoglpfjcdeaggaaCo
set_option linter.unusedSimpArgs false
set_option linter.unusedVariables false
namespace Go.Proofs.Ytoglpfjcdeaggaa.Wa
open Go.RowKit Go.Ev Go.Proofs.Ytoglpfjcdeaggaa.Co

def putN : Nat → Int → List Int → List Int
  | 0, _, acc => acc
  | f + 1, q, acc => if q = 0 then acc else putN f (q / 128) ((q % 128 + 128) :: acc)
/-- A number as bytes. -/
def putL (n : Int) : List Int := putN 4 (n / 128) [n % 128]
def szI (n : Int) : Int := if n < 128 then 1 else if n < 16384 then 2 else if n < 2097152 then 3 else if n < 268435456 then 4 else 5
/-- 0: a number, which, of how many bytes; 1: cut short; 2: begun by a nought; 3: too great. -/
def goL : Nat → Int → List Int → Int × Int × Int
  | _, _, [] => (1, 0, 0)
  | k, n, c :: l => if c < 128 then (if n * 128 + c ≤ 2147483647 then (0, n * 128 + c, 1) else (3, 0, 0)) else
    match k with
    | 0 => (3, 0, 0)
    | k + 1 => ((goL k (n * 128 + (c - 128)) l).1, (goL k (n * 128 + (c - 128)) l).2.1, (goL k (n * 128 + (c - 128)) l).2.2 + 1)
def numL : List Int → Int × Int × Int
  | [] => (1, 0, 0)
  | c :: l => if c = 128 then (2, 0, 0) else goL 4 0 (c :: l)
def errI (c : Int) : Int := if c = 3 then 5 else 4
def atI (c a t : Int) : Int := if c = 1 then t else a

def fiveI (n : Int) : List Int := List.replicate (5 - szI n).toNat 0 ++ putL n
def markI (i : Int) : Int := 160 + i % 90
def lentI (l : List Int) : List Int := l ++ [markI l.length, markI (l.length + 1), markI (l.length + 2)]
/-- The lengths of the fourth fields, all together. -/
def lensI : List D → Int
  | [] => 0
  | x :: l => ((x.toList[3]?.getD (D.int 0)).toList.length : Int) + lensI l
/-- 40: how many bytes a number has, 0: it is none. 30: the lengths of what lies in records, from a place on. 1: how many bytes a number has. 2: its bytes, at the end of five. 3: its bytes. 7: Pick. 20, 21, 22: what stands at a place: how it is, which number, of how many bytes; 23, 24: the fault. -/
def F : Nat → D → D
  | 1 => fun a => .int (szI (argD a 0).toInt)
  | 2 => fun a => D.ofInts (fiveI (argD a 0).toInt)
  | 3 => fun a => D.ofInts (putL (argD a 0).toInt)
  | 7 => fun a => .int ((argD a 0).toInt % (argD a 1).toInt)
  | 20 => fun a => .int (numL (prt (argD a 0).ints (argD a 1).toInt (argD a 2).toInt)).1
  | 21 => fun a => .int (numL (prt (argD a 0).ints (argD a 1).toInt (argD a 2).toInt)).2.1
  | 22 => fun a => .int (numL (prt (argD a 0).ints (argD a 1).toInt (argD a 2).toInt)).2.2
  | 23 => fun a => .int (errI (numL (prt (argD a 0).ints (argD a 1).toInt (argD a 2).toInt)).1)
  | 24 => fun a => .int (atI (numL (prt (argD a 0).ints (argD a 1).toInt (argD a 2).toInt)).1 (argD a 1).toInt (argD a 2).toInt)
  | 40 => fun a => .int (if 0 ≤ (argD a 0).toInt ∧ (argD a 0).toInt ≤ 2147483647 then szI (argD a 0).toInt else 0)
  | 6 => fun a => D.ofInts (lentI (prt (argD a 0).ints (argD a 1).toInt (argD a 2).toInt))
  | 30 => fun a => .int (lensI (((argD a 0).toList.take 41).drop (argD a 1).toInt.toNat))
  | 98 => fun a => argD a 0
  | _ => fun x => x
theorem put1 {n : Int} (h0 : 0 ≤ n) (h : n < 128) : putL n = [n] := by
  have : n / 128 = 0 := by omega
  simp only [putL, putN, this, if_true]
  congr 1; omega
theorem put2 {n : Int} (h0 : 128 ≤ n) (h : n < 16384) : putL n = [n / 128 + 128, n % 128] := by
  have e1 : ¬ n / 128 = 0 := by omega
  have e2 : n / 128 / 128 = 0 := by omega
  simp only [putL, putN, if_neg e1, e2, if_true]
  congr 1; omega
theorem put3 {n : Int} (h0 : 16384 ≤ n) (h : n < 2097152) : putL n = [n / 128 / 128 + 128, n / 128 % 128 + 128, n % 128] := by
  have e1 : ¬ n / 128 = 0 := by omega
  have e2 : ¬ n / 128 / 128 = 0 := by omega
  have e3 : n / 128 / 128 / 128 = 0 := by omega
  simp only [putL, putN, if_neg e1, if_neg e2, e3, if_true]
  congr 1; omega
theorem put4 {n : Int} (h0 : 2097152 ≤ n) (h : n < 268435456) : putL n = [n / 128 / 128 / 128 + 128, n / 128 / 128 % 128 + 128, n / 128 % 128 + 128, n % 128] := by
  have e1 : ¬ n / 128 = 0 := by omega
  have e2 : ¬ n / 128 / 128 = 0 := by omega
  have e3 : ¬ n / 128 / 128 / 128 = 0 := by omega
  have e4 : n / 128 / 128 / 128 / 128 = 0 := by omega
  simp only [putL, putN, if_neg e1, if_neg e2, if_neg e3, e4, if_true]
  congr 1; omega
theorem put5 {n : Int} (h0 : 268435456 ≤ n) (h : n ≤ 2147483647) : putL n = [n / 128 / 128 / 128 / 128 + 128, n / 128 / 128 / 128 % 128 + 128, n / 128 / 128 % 128 + 128, n / 128 % 128 + 128, n % 128] := by
  have e1 : ¬ n / 128 = 0 := by omega
  have e2 : ¬ n / 128 / 128 = 0 := by omega
  have e3 : ¬ n / 128 / 128 / 128 = 0 := by omega
  have e4 : ¬ n / 128 / 128 / 128 / 128 = 0 := by omega
  simp only [putL, putN, if_neg e1, if_neg e2, if_neg e3, if_neg e4]
  congr 1; omega
theorem sz_in (n : Int) : 1 ≤ szI n ∧ szI n ≤ 5 := by unfold szI; split <;> (try split) <;> (try split) <;> (try split) <;> omega
theorem five {n : Int} (h0 : 0 ≤ n) (h : n ≤ 2147483647) : n < 128 ∨ (128 ≤ n ∧ n < 16384) ∨ (16384 ≤ n ∧ n < 2097152) ∨ (2097152 ≤ n ∧ n < 268435456) ∨ 268435456 ≤ n := by omega
theorem put_len {n : Int} (h0 : 0 ≤ n) (h : n ≤ 2147483647) : ((putL n).length : Int) = szI n := by
  rcases five h0 h with c | ⟨c, d⟩ | ⟨c, d⟩ | ⟨c, d⟩ | c
  · rw [put1 h0 c]; simp [szI, c]
  · rw [put2 c d]; simp [szI, d, show ¬ n < 128 by omega]
  · rw [put3 c d]; simp [szI, d, show ¬ n < 128 by omega, show ¬ n < 16384 by omega]
  · rw [put4 c d]; simp [szI, d, show ¬ n < 128 by omega, show ¬ n < 16384 by omega, show ¬ n < 2097152 by omega]
  · rw [put5 c h]; simp [szI, show ¬ n < 128 by omega, show ¬ n < 16384 by omega, show ¬ n < 2097152 by omega, show ¬ n < 268435456 by omega]
theorem put_in {n : Int} (h0 : 0 ≤ n) (h : n ≤ 2147483647) : ∀ c ∈ putL n, 0 ≤ c ∧ c ≤ 255 := by
  rcases five h0 h with c | ⟨c, d⟩ | ⟨c, d⟩ | ⟨c, d⟩ | c
  · rw [put1 h0 c]; simp only [List.mem_cons, List.not_mem_nil, or_false, forall_eq_or_imp, forall_eq]; omega
  · rw [put2 c d]; simp only [List.mem_cons, List.not_mem_nil, or_false, forall_eq_or_imp, forall_eq]; omega
  · rw [put3 c d]; simp only [List.mem_cons, List.not_mem_nil, or_false, forall_eq_or_imp, forall_eq]; omega
  · rw [put4 c d]; simp only [List.mem_cons, List.not_mem_nil, or_false, forall_eq_or_imp, forall_eq]; omega
  · rw [put5 c h]; simp only [List.mem_cons, List.not_mem_nil, or_false, forall_eq_or_imp, forall_eq]; omega
theorem go_last {k : Nat} {n c : Int} {l : List Int} (h : c < 128) (g : n * 128 + c ≤ 2147483647) : goL k n (c :: l) = (0, n * 128 + c, 1) := by
  unfold goL; rw [if_pos h, if_pos g]
theorem go_over {k : Nat} {n c : Int} {l : List Int} (h : c < 128) (g : ¬ n * 128 + c ≤ 2147483647) : goL k n (c :: l) = (3, 0, 0) := by
  unfold goL; rw [if_pos h, if_neg g]
theorem go_step {k : Nat} {n c : Int} {l : List Int} (h : 128 ≤ c) : goL (k + 1) n (c :: l) = ((goL k (n * 128 + (c - 128)) l).1, (goL k (n * 128 + (c - 128)) l).2.1, (goL k (n * 128 + (c - 128)) l).2.2 + 1) := by
  rw [goL, if_neg (by omega)]
theorem go_end {n c : Int} {l : List Int} (h : 128 ≤ c) : goL 0 n (c :: l) = (3, 0, 0) := by
  rw [goL, if_neg (by omega)]
theorem num_go {c : Int} {l : List Int} (h : ¬ c = 128) : numL (c :: l) = goL 4 0 (c :: l) := by
  rw [numL, if_neg h]
theorem num_put {n : Int} (h0 : 0 ≤ n) (h : n ≤ 2147483647) (r : List Int) : numL (putL n ++ r) = (0, n, szI n) := by
  rcases five h0 h with c | ⟨c, d⟩ | ⟨c, d⟩ | ⟨c, d⟩ | c
  · rw [put1 h0 c, List.singleton_append, num_go (by omega), go_last (by omega) (by omega)]
    simp [szI, c]
  · rw [put2 c d, List.cons_append, List.singleton_append, num_go (by omega), go_step (by omega), go_last (by omega) (by omega)]
    simp only [szI, Prod.mk.injEq, d, show ¬ n < 128 by omega, if_false, if_true, and_true, true_and]
    omega
  · rw [put3 c d, List.cons_append, List.cons_append, List.singleton_append, num_go (by omega), go_step (by omega), go_step (by omega), go_last (by omega) (by omega)]
    simp only [szI, Prod.mk.injEq, d, show ¬ n < 128 by omega, show ¬ n < 16384 by omega, if_false, if_true, and_true, true_and]
    omega
  · rw [put4 c d, List.cons_append, List.cons_append, List.cons_append, List.singleton_append, num_go (by omega), go_step (by omega), go_step (by omega), go_step (by omega), go_last (by omega) (by omega)]
    simp only [szI, Prod.mk.injEq, d, show ¬ n < 128 by omega, show ¬ n < 16384 by omega, show ¬ n < 2097152 by omega, if_false, if_true, and_true, true_and]
    omega
  · rw [put5 c h, List.cons_append, List.cons_append, List.cons_append, List.cons_append, List.singleton_append, num_go (by omega), go_step (by omega), go_step (by omega), go_step (by omega), go_step (by omega), go_last (by omega) (by omega)]
    simp only [szI, Prod.mk.injEq, show ¬ n < 128 by omega, show ¬ n < 16384 by omega, show ¬ n < 2097152 by omega, show ¬ n < 268435456 by omega, if_false, if_true, and_true, true_and]
    omega
theorem num_nil : (numL []).1 = 1 := rfl
theorem go_short (k : Nat) (n : Int) : ∀ l : List Int, (∀ c ∈ l, 128 ≤ c) → l.length ≤ k → (goL k n l).1 = 1 := by
  intro l
  induction l generalizing k n with
  | nil => intro _ _; unfold goL; rfl
  | cons c l ih =>
    intro h hk
    cases k with
    | zero => simp at hk
    | succ k => rw [go_step (h c (by simp))]; exact ih k _ (fun d hd => h d (by simp [hd])) (by simpa using hk)
theorem num_cut {n : Int} {k : Nat} (h0 : 0 ≤ n) (h : n ≤ 2147483647) (hk : (k : Int) < szI n) (r : List Int) : (numL ((putL n ++ r).take k)).1 = 1 := by
  have hl := put_len h0 h
  have hs := sz_in n
  rw [List.take_append_of_le_length (by omega)]
  have big : ∀ l : List Int, l ≠ [] → l.length ≤ 4 → (∀ c ∈ l, 128 ≤ c) → (∀ c, l.head? = some c → c ≠ 128) → (numL l).1 = 1 := by
    intro l hne hle hc hh
    cases l with
    | nil => exact (hne rfl).elim
    | cons c l => rw [num_go (hh c rfl)]; exact go_short 4 0 _ hc hle
  by_cases k0 : k = 0
  · subst k0; rfl
  refine big _ (by intro e; have := congrArg List.length e; rw [List.length_take] at this; simp only [List.length_nil] at this; omega) (by rw [List.length_take]; omega) ?_ ?_
  · have : ∀ c ∈ (putL n).dropLast, 128 ≤ c := by
      rcases five h0 h with c | ⟨c, d⟩ | ⟨c, d⟩ | ⟨c, d⟩ | c
      · rw [put1 h0 c]; simp
      · rw [put2 c d]; simp only [List.dropLast_cons_cons, List.dropLast_singleton, List.mem_cons, List.not_mem_nil, or_false, forall_eq]; omega
      · rw [put3 c d]; simp only [List.dropLast_cons_cons, List.dropLast_singleton, List.mem_cons, List.not_mem_nil, or_false, forall_eq_or_imp, forall_eq]; omega
      · rw [put4 c d]; simp only [List.dropLast_cons_cons, List.dropLast_singleton, List.mem_cons, List.not_mem_nil, or_false, forall_eq_or_imp, forall_eq]; omega
      · rw [put5 c h]; simp only [List.dropLast_cons_cons, List.dropLast_singleton, List.mem_cons, List.not_mem_nil, or_false, forall_eq_or_imp, forall_eq]; omega
    intro c hc
    refine this c ?_
    rw [List.dropLast_eq_take]
    exact (List.take_subset_take_left (putL n) (by omega)) hc
  · intro c hc
    rw [List.head?_take, if_neg (by omega)] at hc
    rcases five h0 h with q | ⟨q, d⟩ | ⟨q, d⟩ | ⟨q, d⟩ | q
    · exfalso; simp [szI, q] at hk; omega
    · rw [put2 q d] at hc; simp only [List.head?_cons, Option.some.injEq] at hc; omega
    · rw [put3 q d] at hc; simp only [List.head?_cons, Option.some.injEq] at hc; omega
    · rw [put4 q d] at hc; simp only [List.head?_cons, Option.some.injEq] at hc; omega
    · rw [put5 q h] at hc; simp only [List.head?_cons, Option.some.injEq] at hc; omega
theorem or7 {n c : Int} (h0 : 0 ≤ n) (h : n < 1099511627776) (c0 : 0 ≤ c) (c1 : c < 128) : iopI .or .u64 (iopI .shl .u64 n 7) c = n * 128 + c := by
  obtain ⟨a, rfl⟩ := Int.eq_ofNat_of_zero_le h0
  obtain ⟨b, rfl⟩ := Int.eq_ofNat_of_zero_le c0
  have e1 : iopI .shl .u64 (a : Int) 7 = ((a * 128 : Nat) : Int) := by
    show IntKind.u64.wrap ((a : Int) * 2 ^ (min (7 : Int).toNat 64)) = _
    rw [show ((a : Int) * 2 ^ (min (7 : Int).toNat 64)) = ((a * 128 : Nat) : Int) by rw [show (min (7 : Int).toNat 64) = 7 from rfl]; push_cast; omega]
    exact wrap_fit (by simp only [u64min, u64max]; omega)
  rw [e1]
  show IntKind.u64.wrap ((BitVec.ofInt 64 ((a * 128 : Nat) : Int) ||| BitVec.ofInt 64 (b : Int)).toNat : Int) = _
  rw [BitVec.ofInt_natCast, BitVec.ofInt_natCast, BitVec.toNat_or, BitVec.toNat_ofNat, BitVec.toNat_ofNat, Nat.mod_eq_of_lt (by omega), Nat.mod_eq_of_lt (by omega)]
  rw [show a * 128 = a <<< 7 by rw [Nat.shiftLeft_eq], ← Nat.shiftLeft_add_eq_or_of_lt (by omega), Nat.shiftLeft_eq]
  rw [wrap_fit (by simp only [u64min, u64max]; omega)]
  push_cast; omega
theorem get_in {l : List Int} (h : ∀ c ∈ l, 0 ≤ c ∧ c ≤ 255) (j : Nat) : 0 ≤ (l[j]?).getD 0 ∧ (l[j]?).getD 0 ≤ 255 := by
  cases hz : l[j]? with
  | none => simp
  | some c => exact h c (List.mem_of_getElem? hz)
/-- What stands at a place. -/
theorem num_at {x : List Int} {o t : Int} (ho : 0 ≤ o) (ht : t ≤ x.length) (hx : ∀ c ∈ x, 0 ≤ c ∧ c ≤ 255) :
    ∃ c0 c1 c2 c3 c4 : Int, c0 = (x[o.toNat]?).getD 0 ∧ c1 = (x[(o + 1).toNat]?).getD 0 ∧ c2 = (x[(o + 2).toNat]?).getD 0 ∧ c3 = (x[(o + 3).toNat]?).getD 0 ∧ c4 = (x[(o + 4).toNat]?).getD 0 ∧
      (0 ≤ c0 ∧ c0 ≤ 255) ∧ (0 ≤ c1 ∧ c1 ≤ 255) ∧ (0 ≤ c2 ∧ c2 ≤ 255) ∧ (0 ≤ c3 ∧ c3 ≤ 255) ∧ (0 ≤ c4 ∧ c4 ≤ 255) ∧
      ((t ≤ o ∧ (numL (prt x o t)).1 = 1)
      ∨ (o < t ∧ c0 = 128 ∧ (numL (prt x o t)).1 = 2)
      ∨ (o < t ∧ c0 < 128 ∧ numL (prt x o t) = (0, c0, 1))
      ∨ (o < t ∧ 128 < c0 ∧ t ≤ o + 1 ∧ (numL (prt x o t)).1 = 1)
      ∨ (o + 1 < t ∧ 128 < c0 ∧ c1 < 128 ∧ numL (prt x o t) = (0, (c0 - 128) * 128 + c1, 2))
      ∨ (o + 1 < t ∧ 128 < c0 ∧ 128 ≤ c1 ∧ t ≤ o + 2 ∧ (numL (prt x o t)).1 = 1)
      ∨ (o + 2 < t ∧ 128 < c0 ∧ 128 ≤ c1 ∧ c2 < 128 ∧ numL (prt x o t) = (0, ((c0 - 128) * 128 + (c1 - 128)) * 128 + c2, 3))
      ∨ (o + 2 < t ∧ 128 < c0 ∧ 128 ≤ c1 ∧ 128 ≤ c2 ∧ t ≤ o + 3 ∧ (numL (prt x o t)).1 = 1)
      ∨ (o + 3 < t ∧ 128 < c0 ∧ 128 ≤ c1 ∧ 128 ≤ c2 ∧ c3 < 128 ∧ numL (prt x o t) = (0, (((c0 - 128) * 128 + (c1 - 128)) * 128 + (c2 - 128)) * 128 + c3, 4))
      ∨ (o + 3 < t ∧ 128 < c0 ∧ 128 ≤ c1 ∧ 128 ≤ c2 ∧ 128 ≤ c3 ∧ t ≤ o + 4 ∧ (numL (prt x o t)).1 = 1)
      ∨ (o + 4 < t ∧ 128 < c0 ∧ 128 ≤ c1 ∧ 128 ≤ c2 ∧ 128 ≤ c3 ∧ c4 < 128 ∧ ((((c0 - 128) * 128 + (c1 - 128)) * 128 + (c2 - 128)) * 128 + (c3 - 128)) * 128 + c4 ≤ 2147483647 ∧ numL (prt x o t) = (0, ((((c0 - 128) * 128 + (c1 - 128)) * 128 + (c2 - 128)) * 128 + (c3 - 128)) * 128 + c4, 5))
      ∨ (o + 4 < t ∧ 128 < c0 ∧ 128 ≤ c1 ∧ 128 ≤ c2 ∧ 128 ≤ c3 ∧ c4 < 128 ∧ 2147483647 < ((((c0 - 128) * 128 + (c1 - 128)) * 128 + (c2 - 128)) * 128 + (c3 - 128)) * 128 + c4 ∧ (numL (prt x o t)).1 = 3)
      ∨ (o + 4 < t ∧ 128 < c0 ∧ 128 ≤ c1 ∧ 128 ≤ c2 ∧ 128 ≤ c3 ∧ 128 ≤ c4 ∧ (numL (prt x o t)).1 = 3)) := by
  refine ⟨_, _, _, _, _, rfl, rfl, rfl, rfl, rfl, get_in hx _, get_in hx _, get_in hx _, get_in hx _, get_in hx _, ?_⟩
  have b0 := get_in hx o.toNat
  have b1 := get_in hx (o + 1).toNat
  have b2 := get_in hx (o + 2).toNat
  have b3 := get_in hx (o + 3).toNat
  have b4 := get_in hx (o + 4).toNat
  by_cases t0 : t ≤ o
  · exact .inl ⟨t0, by rw [prt_nil (by omega) (by omega)]; rfl⟩
  have p0 := prt_step (x := x) (o := o) (t := t) (by omega) (by omega) (by omega)
  generalize (x[o.toNat]?).getD 0 = c0 at *
  by_cases z : c0 = 128
  · exact .inr (.inl ⟨by omega, z, by rw [p0, z]; rfl⟩)
  by_cases l0 : c0 < 128
  · exact .inr (.inr (.inl ⟨by omega, l0, by rw [p0, num_go z, go_last l0 (by omega)]; simp⟩))
  by_cases t1 : t ≤ o + 1
  · exact .inr (.inr (.inr (.inl ⟨by omega, by omega, t1, by rw [p0, prt_nil (by omega) (by omega), num_go z, go_step (by omega)]; rfl⟩)))
  have p1 := prt_step (x := x) (o := o + 1) (t := t) (by omega) (by omega) (by omega)
  rw [show o + 1 + 1 = o + 2 by omega] at p1
  generalize (x[(o + 1).toNat]?).getD 0 = c1 at *
  by_cases l1 : c1 < 128
  · exact .inr (.inr (.inr (.inr (.inl ⟨by omega, by omega, l1, by rw [p0, p1, num_go z, go_step (by omega), go_last l1 (by omega)]; simp⟩))))
  by_cases t2 : t ≤ o + 2
  · exact .inr (.inr (.inr (.inr (.inr (.inl ⟨by omega, by omega, by omega, t2, by rw [p0, p1, prt_nil (by omega) (by omega), num_go z, go_step (by omega), go_step (by omega)]; rfl⟩)))))
  have p2 := prt_step (x := x) (o := o + 2) (t := t) (by omega) (by omega) (by omega)
  rw [show o + 2 + 1 = o + 3 by omega] at p2
  generalize (x[(o + 2).toNat]?).getD 0 = c2 at *
  by_cases l2 : c2 < 128
  · exact .inr (.inr (.inr (.inr (.inr (.inr (.inl ⟨by omega, by omega, by omega, l2, by rw [p0, p1, p2, num_go z, go_step (by omega), go_step (by omega), go_last l2 (by omega)]; simp⟩))))))
  by_cases t3 : t ≤ o + 3
  · exact .inr (.inr (.inr (.inr (.inr (.inr (.inr (.inl ⟨by omega, by omega, by omega, by omega, t3, by rw [p0, p1, p2, prt_nil (by omega) (by omega), num_go z, go_step (by omega), go_step (by omega), go_step (by omega)]; rfl⟩)))))))
  have p3 := prt_step (x := x) (o := o + 3) (t := t) (by omega) (by omega) (by omega)
  rw [show o + 3 + 1 = o + 4 by omega] at p3
  generalize (x[(o + 3).toNat]?).getD 0 = c3 at *
  by_cases l3 : c3 < 128
  · exact .inr (.inr (.inr (.inr (.inr (.inr (.inr (.inr (.inl ⟨by omega, by omega, by omega, by omega, l3, by rw [p0, p1, p2, p3, num_go z, go_step (by omega), go_step (by omega), go_step (by omega), go_last l3 (by omega)]; simp⟩))))))))
  by_cases t4 : t ≤ o + 4
  · exact .inr (.inr (.inr (.inr (.inr (.inr (.inr (.inr (.inr (.inl ⟨by omega, by omega, by omega, by omega, by omega, t4, by rw [p0, p1, p2, p3, prt_nil (by omega) (by omega), num_go z, go_step (by omega), go_step (by omega), go_step (by omega), go_step (by omega)]; rfl⟩)))))))))
  have p4 := prt_step (x := x) (o := o + 4) (t := t) (by omega) (by omega) (by omega)
  rw [show o + 4 + 1 = o + 5 by omega] at p4
  generalize (x[(o + 4).toNat]?).getD 0 = c4 at *
  by_cases l4 : c4 < 128
  · by_cases m : ((((c0 - 128) * 128 + (c1 - 128)) * 128 + (c2 - 128)) * 128 + (c3 - 128)) * 128 + c4 ≤ 2147483647
    · exact .inr (.inr (.inr (.inr (.inr (.inr (.inr (.inr (.inr (.inr (.inl ⟨by omega, by omega, by omega, by omega, by omega, l4, m, by rw [p0, p1, p2, p3, p4, num_go z, go_step (by omega), go_step (by omega), go_step (by omega), go_step (by omega), go_last l4 (by omega)]; simp⟩))))))))))
    · exact .inr (.inr (.inr (.inr (.inr (.inr (.inr (.inr (.inr (.inr (.inr (.inl ⟨by omega, by omega, by omega, by omega, by omega, l4, by omega, by rw [p0, p1, p2, p3, p4, num_go z, go_step (by omega), go_step (by omega), go_step (by omega), go_step (by omega), go_over l4 (by omega)]⟩)))))))))))
  · exact .inr (.inr (.inr (.inr (.inr (.inr (.inr (.inr (.inr (.inr (.inr (.inr ⟨by omega, by omega, by omega, by omega, by omega, by omega, by rw [p0, p1, p2, p3, p4, num_go z, go_step (by omega), go_step (by omega), go_step (by omega), go_step (by omega), go_end (by omega)]⟩)))))))))))
theorem w8 {x : Int} (h0 : 0 ≤ x) (h1 : x ≤ 255) : IntKind.u8.wrap x = x := wrap_fit (by simp only [u8min, u8max]; omega)
theorem a8 {x y : Int} (h0 : 0 ≤ x + y) (h1 : x + y ≤ 255) : iopI .add .u8 x y = x + y := w8 h0 h1
/-- What is written one behind the other. -/
def wrote (n a : Int) (x : List Int) (s : Int) (y i : List Int) (b : Int) (u : List Int) (c : Int) (v : List Int) : List Int :=
  putL b ++ (u ++ (putL n ++ (putL a ++ (x ++ (putL s ++ (y ++ (i ++ (putL c ++ v))))))))
theorem num_in {X P R : List Int} {m o t : Int} (h0 : 0 ≤ m) (h : m ≤ 2147483647) (hX : X = P ++ (putL m ++ R)) (ho : o = P.length) (ht : t = X.length) : numL (prt X o t) = (0, m, szI m) := by
  subst hX ho ht
  unfold prt
  rw [List.take_of_length_le (by omega), show ((P.length : Int)).toNat = P.length by omega, List.drop_left]
  exact num_put h0 h R
theorem cut_in {X P Y R : List Int} {a b : Int} (hX : X = P ++ (Y ++ R)) (ha : a = P.length) (hb : b = P.length + Y.length) : List.drop a.toNat (List.take b.toNat X) = Y := by
  subst hX ha hb
  rw [← List.append_assoc, List.take_append_of_le_length (by simp only [List.length_append]; omega), List.take_of_length_le (by simp only [List.length_append]; omega), show ((P.length : Int)).toNat = P.length by omega, List.drop_left]
theorem sel_in {X P Y R : List Int} {a : Int} {j : Nat} (hX : X = P ++ (Y ++ R)) (ha : a = P.length + j) (hj : j < Y.length) : (X[a.toNat]?).getD 0 = (Y[j]?).getD 0 := by
  subst hX ha
  rw [show ((P.length : Int) + j).toNat = P.length + j by omega, List.getElem?_append_right (by omega), Nat.add_sub_cancel_left, List.getElem?_append_left hj]
/-- What is read is written so. -/
theorem num_back {x : List Int} {o t m k : Int} (ho : 0 ≤ o) (ht : t ≤ x.length) (hx : ∀ c ∈ x, 0 ≤ c ∧ c ≤ 255) (h : numL (prt x o t) = (0, m, k)) : 0 ≤ m ∧ m ≤ 2147483647 ∧ k = szI m ∧ o + k ≤ t ∧ prt x o (o + k) = putL m := by
  obtain ⟨c0, c1, c2, c3, c4, h0, h1, h2, h3, h4, g0, g1, g2, g3, g4, hn⟩ := num_at (x := x) (o := o) (t := t) ho ht hx
  have bad : ∀ q : Int, q ≠ 0 → (numL (prt x o t)).1 = q → False := fun q hq hz => by rw [h] at hz; exact hq hz.symm
  have stp : ∀ u : Int, 0 ≤ u → u < t → ∀ e : Int, u < e → e ≤ t → prt x u e = (x[u.toNat]?).getD 0 :: prt x (u + 1) e := fun u hu hut e he het => prt_step hu he (by omega)
  rcases hn with hn | hn | hn | hn | hn | hn | hn | hn | hn | hn | hn | hn | hn
  · exact (bad 1 (by decide) hn.2).elim
  · exact (bad 2 (by decide) hn.2.2).elim
  · have e := hn.2.2; rw [h] at e; simp only [Prod.mk.injEq] at e
    obtain ⟨_, rfl, rfl⟩ := e
    have s : szI m = 1 := by unfold szI; rw [if_pos (by omega)]
    refine ⟨by omega, by omega, s.symm, by omega, ?_⟩
    rw [stp o ho hn.1 (o + 1) (by omega) (by omega), prt_nil (by omega) (by omega), put1 (by omega) hn.2.1, h0]
  · exact (bad 1 (by decide) hn.2.2.2).elim
  · have e := hn.2.2.2; rw [h] at e; simp only [Prod.mk.injEq] at e
    obtain ⟨_, rfl, rfl⟩ := e
    have s : szI ((c0 - 128) * 128 + c1) = 2 := by unfold szI; rw [if_neg (by omega), if_pos (by omega)]
    refine ⟨by omega, by omega, s.symm, by omega, ?_⟩
    rw [stp o ho (by omega) (o + 2) (by omega) (by omega), stp (o + 1) (by omega) (by omega) (o + 2) (by omega) (by omega), prt_nil (by omega) (by omega), put2 (by omega) (by omega), ← h0, ← h1]
    simp only [List.cons.injEq, and_true]; omega
  · exact (bad 1 (by decide) hn.2.2.2.2).elim
  · have e := hn.2.2.2.2; rw [h] at e; simp only [Prod.mk.injEq] at e
    obtain ⟨_, rfl, rfl⟩ := e
    have s : szI (((c0 - 128) * 128 + (c1 - 128)) * 128 + c2) = 3 := by unfold szI; rw [if_neg (by omega), if_neg (by omega), if_pos (by omega)]
    refine ⟨by omega, by omega, s.symm, by omega, ?_⟩
    rw [stp o ho (by omega) (o + 3) (by omega) (by omega), stp (o + 1) (by omega) (by omega) (o + 3) (by omega) (by omega), show o + 1 + 1 = o + 2 by omega, stp (o + 2) (by omega) (by omega) (o + 3) (by omega) (by omega), prt_nil (by omega) (by omega), put3 (by omega) (by omega), ← h0, ← h1, ← h2]
    simp only [List.cons.injEq, and_true]; omega
  · exact (bad 1 (by decide) hn.2.2.2.2.2).elim
  · have e := hn.2.2.2.2.2; rw [h] at e; simp only [Prod.mk.injEq] at e
    obtain ⟨_, rfl, rfl⟩ := e
    have s : szI ((((c0 - 128) * 128 + (c1 - 128)) * 128 + (c2 - 128)) * 128 + c3) = 4 := by unfold szI; rw [if_neg (by omega), if_neg (by omega), if_neg (by omega), if_pos (by omega)]
    refine ⟨by omega, by omega, s.symm, by omega, ?_⟩
    rw [stp o ho (by omega) (o + 4) (by omega) (by omega), stp (o + 1) (by omega) (by omega) (o + 4) (by omega) (by omega), show o + 1 + 1 = o + 2 by omega, stp (o + 2) (by omega) (by omega) (o + 4) (by omega) (by omega), show o + 2 + 1 = o + 3 by omega, stp (o + 3) (by omega) (by omega) (o + 4) (by omega) (by omega), prt_nil (by omega) (by omega), put4 (by omega) (by omega), ← h0, ← h1, ← h2, ← h3]
    simp only [List.cons.injEq, and_true]; omega
  · exact (bad 1 (by decide) hn.2.2.2.2.2.2).elim
  · have e := hn.2.2.2.2.2.2.2; rw [h] at e; simp only [Prod.mk.injEq] at e
    obtain ⟨_, rfl, rfl⟩ := e
    have s : szI (((((c0 - 128) * 128 + (c1 - 128)) * 128 + (c2 - 128)) * 128 + (c3 - 128)) * 128 + c4) = 5 := by unfold szI; rw [if_neg (by omega), if_neg (by omega), if_neg (by omega), if_neg (by omega)]
    refine ⟨by omega, by omega, s.symm, by omega, ?_⟩
    rw [stp o ho (by omega) (o + 5) (by omega) (by omega), stp (o + 1) (by omega) (by omega) (o + 5) (by omega) (by omega), show o + 1 + 1 = o + 2 by omega, stp (o + 2) (by omega) (by omega) (o + 5) (by omega) (by omega), show o + 2 + 1 = o + 3 by omega, stp (o + 3) (by omega) (by omega) (o + 5) (by omega) (by omega), show o + 3 + 1 = o + 4 by omega, stp (o + 4) (by omega) (by omega) (o + 5) (by omega) (by omega), prt_nil (by omega) (by omega), put5 (by omega) (by omega), ← h0, ← h1, ← h2, ← h3, ← h4]
    simp only [List.cons.injEq, and_true]; omega
  · exact (bad 3 (by decide) hn.2.2.2.2.2.2.2).elim
  · exact (bad 3 (by decide) hn.2.2.2.2.2.2).elim

theorem F1 (n : D) : F 1 (.list [n, .int 0]) = .int (szI n.toInt) := rfl
theorem F2 (n : D) : F 2 (.list [n, .int 0]) = D.ofInts (fiveI n.toInt) := rfl
theorem F3 (n : D) : F 3 (.list [n, .int 0]) = D.ofInts (putL n.toInt) := rfl
theorem F7 (i n : D) : F 7 (.list [i, .list [n, .int 0]]) = .int (i.toInt % n.toInt) := rfl
theorem F20 (x o t : D) : F 20 (.list [x, .list [o, .list [t, .int 0]]]) = .int (numL (prt x.ints o.toInt t.toInt)).1 := rfl
theorem F21 (x o t : D) : F 21 (.list [x, .list [o, .list [t, .int 0]]]) = .int (numL (prt x.ints o.toInt t.toInt)).2.1 := rfl
theorem F22 (x o t : D) : F 22 (.list [x, .list [o, .list [t, .int 0]]]) = .int (numL (prt x.ints o.toInt t.toInt)).2.2 := rfl
theorem F23 (x o t : D) : F 23 (.list [x, .list [o, .list [t, .int 0]]]) = .int (errI (numL (prt x.ints o.toInt t.toInt)).1) := rfl
theorem F98 (x : D) : F 98 (.list [x, .int 0]) = x := rfl
theorem F24 (x o t : D) : F 24 (.list [x, .list [o, .list [t, .int 0]]]) = .int (atI (numL (prt x.ints o.toInt t.toInt)).1 o.toInt t.toInt) := rfl
theorem F40 (n : D) : F 40 (.list [n, .int 0]) = .int (if 0 ≤ n.toInt ∧ n.toInt ≤ 2147483647 then szI n.toInt else 0) := rfl
theorem F6 (x o t : D) : F 6 (.list [x, .list [o, .list [t, .int 0]]]) = D.ofInts (lentI (prt x.ints o.toInt t.toInt)) := rfl
theorem F30 (x i : D) : F 30 (.list [x, .list [i, .int 0]]) = .int (lensI ((x.toList.take 41).drop i.toInt.toNat)) := rfl
theorem lens_nn : ∀ l : List D, 0 ≤ lensI l
  | [] => by simp [lensI]
  | x :: l => by have := lens_nn l; simp only [lensI]; omega
theorem lens_end {l : List D} {i : Nat} (h : l.length ≤ i ∨ 41 ≤ i) : lensI ((l.take 41).drop i) = 0 := by
  rw [List.drop_of_length_le (by rw [List.length_take]; omega)]; rfl
theorem lens_step {l : List D} {i : Nat} (h : i < l.length) (h2 : i < 41) : lensI ((l.take 41).drop i) = ((((l[i]?.getD (D.int 0)).toList)[3]?.getD (D.int 0)).toList.length : Int) + lensI ((l.take 41).drop (i + 1)) := by
  have h3 : i < (l.take 41).length := by rw [List.length_take]; omega
  rw [List.drop_eq_getElem_cons h3]
  simp only [lensI]
  rw [List.getElem_take, List.getElem?_eq_getElem h]
  rfl
theorem shr_ediv (x : Int) (j : Nat) (h : j ≤ 64) : iopI .shr .i64 x (j : Int) = x / 2 ^ j := by
  simp only [iopI]
  rw [show min (j : Int).toNat (IntKind.bits .i64) = j by show min (j : Int).toNat 64 = j; omega, Int.fdiv_eq_ediv_of_nonneg _ (by exact Int.le_of_lt (Int.pow_pos (by omega)))]

def partsC : CSpec := { args := [.sint .i64 (.var 0)], next := 0, rows := [], pre := [(.le (.int 0) (.var 0), true), (.le (.var 0) (.int 2147483647), true)], res := .sslice 1 (.bi .sub (.int 5) (.fn 1 (argsE [.var 0]))) (.fn 1 (argsE [.var 0])) (.fn 1 (argsE [.var 0])) false, frows := [(1, .seq ⟨76, .u8, .int 5, .fn 2 (argsE [.var 0]), false, false⟩)], same := [] }
abbrev as0 : Q × Bool := ((.le (.bi (.iop .quo .i64) (.var 0) (.int 128)) (.int 0)), true)
def partsC_t0 : List (Q × Bool) := [as0]
def partsC_d0 : List Duty := [(true, (.int 4), (.bi .sub (.int 5) (.fn 1 (.bi .pair (.var 0) (.int 0))))), (true, (.int 1), (.fn 1 (.bi .pair (.var 0) (.int 0)))), (true, (.int 1), (.fn 1 (.bi .pair (.var 0) (.int 0)))), (false, (.bi .app (.un .one (.int 0)) (.bi .app (.un .one (.int 0)) (.bi .app (.un .one (.int 0)) (.bi .app (.un .one (.int 0)) (.bi .app (.un .one (.un (.wrap .u8) (.bi (.iop .rem .i64) (.var 0) (.int 128)))) (.lits [])))))), (.fn 2 (.bi .pair (.var 0) (.int 0))))]
theorem partsC_y0 : endC partsC [(1, 1)] 1000 (callC Try.prog (tellA partsC_t0) [] [] [] 3000 40 46 partsC) = some partsC_d0 := by kernel_rfl
abbrev as1 : Q × Bool := ((.le (.bi (.iop .quo .i64) (.var 0) (.int 128)) (.int 0)), false)
abbrev as2 : Q × Bool := ((.le (.bi (.iop .quo .i64) (.bi (.iop .quo .i64) (.var 0) (.int 128)) (.int 128)) (.int 0)), true)
def partsC_t1 : List (Q × Bool) := [as1, as2]
def partsC_d1 : List Duty := [(true, (.int 3), (.bi .sub (.int 5) (.fn 1 (.bi .pair (.var 0) (.int 0))))), (true, (.int 2), (.fn 1 (.bi .pair (.var 0) (.int 0)))), (true, (.int 2), (.fn 1 (.bi .pair (.var 0) (.int 0)))), (false, (.bi .app (.un .one (.int 0)) (.bi .app (.un .one (.int 0)) (.bi .app (.un .one (.int 0)) (.bi .app (.un .one (.bi (.iop .add .u8) (.un (.wrap .u8) (.bi (.iop .rem .i64) (.bi (.iop .quo .i64) (.var 0) (.int 128)) (.int 128))) (.int 128))) (.bi .app (.un .one (.un (.wrap .u8) (.bi (.iop .rem .i64) (.var 0) (.int 128)))) (.lits [])))))), (.fn 2 (.bi .pair (.var 0) (.int 0))))]
theorem partsC_y1 : endC partsC [(1, 1)] 1000 (callC Try.prog (tellA partsC_t1) [] [] [] 3000 40 46 partsC) = some partsC_d1 := by kernel_rfl
abbrev as3 : Q × Bool := ((.le (.bi (.iop .quo .i64) (.bi (.iop .quo .i64) (.var 0) (.int 128)) (.int 128)) (.int 0)), false)
abbrev as4 : Q × Bool := ((.le (.bi (.iop .quo .i64) (.bi (.iop .quo .i64) (.bi (.iop .quo .i64) (.var 0) (.int 128)) (.int 128)) (.int 128)) (.int 0)), true)
def partsC_t2 : List (Q × Bool) := [as1, as3, as4]
def partsC_d2 : List Duty := [(true, (.int 2), (.bi .sub (.int 5) (.fn 1 (.bi .pair (.var 0) (.int 0))))), (true, (.int 3), (.fn 1 (.bi .pair (.var 0) (.int 0)))), (true, (.int 3), (.fn 1 (.bi .pair (.var 0) (.int 0)))), (false, (.bi .app (.un .one (.int 0)) (.bi .app (.un .one (.int 0)) (.bi .app (.un .one (.bi (.iop .add .u8) (.un (.wrap .u8) (.bi (.iop .rem .i64) (.bi (.iop .quo .i64) (.bi (.iop .quo .i64) (.var 0) (.int 128)) (.int 128)) (.int 128))) (.int 128))) (.bi .app (.un .one (.bi (.iop .add .u8) (.un (.wrap .u8) (.bi (.iop .rem .i64) (.bi (.iop .quo .i64) (.var 0) (.int 128)) (.int 128))) (.int 128))) (.bi .app (.un .one (.un (.wrap .u8) (.bi (.iop .rem .i64) (.var 0) (.int 128)))) (.lits [])))))), (.fn 2 (.bi .pair (.var 0) (.int 0))))]
theorem partsC_y2 : endC partsC [(1, 1)] 1000 (callC Try.prog (tellA partsC_t2) [] [] [] 3000 40 46 partsC) = some partsC_d2 := by kernel_rfl
abbrev as5 : Q × Bool := ((.le (.bi (.iop .quo .i64) (.bi (.iop .quo .i64) (.bi (.iop .quo .i64) (.var 0) (.int 128)) (.int 128)) (.int 128)) (.int 0)), false)
abbrev as6 : Q × Bool := ((.le (.bi (.iop .quo .i64) (.bi (.iop .quo .i64) (.bi (.iop .quo .i64) (.bi (.iop .quo .i64) (.var 0) (.int 128)) (.int 128)) (.int 128)) (.int 128)) (.int 0)), true)
def partsC_t3 : List (Q × Bool) := [as1, as3, as5, as6]
def partsC_d3 : List Duty := [(true, (.int 1), (.bi .sub (.int 5) (.fn 1 (.bi .pair (.var 0) (.int 0))))), (true, (.int 4), (.fn 1 (.bi .pair (.var 0) (.int 0)))), (true, (.int 4), (.fn 1 (.bi .pair (.var 0) (.int 0)))), (false, (.bi .app (.un .one (.int 0)) (.bi .app (.un .one (.bi (.iop .add .u8) (.un (.wrap .u8) (.bi (.iop .rem .i64) (.bi (.iop .quo .i64) (.bi (.iop .quo .i64) (.bi (.iop .quo .i64) (.var 0) (.int 128)) (.int 128)) (.int 128)) (.int 128))) (.int 128))) (.bi .app (.un .one (.bi (.iop .add .u8) (.un (.wrap .u8) (.bi (.iop .rem .i64) (.bi (.iop .quo .i64) (.bi (.iop .quo .i64) (.var 0) (.int 128)) (.int 128)) (.int 128))) (.int 128))) (.bi .app (.un .one (.bi (.iop .add .u8) (.un (.wrap .u8) (.bi (.iop .rem .i64) (.bi (.iop .quo .i64) (.var 0) (.int 128)) (.int 128))) (.int 128))) (.bi .app (.un .one (.un (.wrap .u8) (.bi (.iop .rem .i64) (.var 0) (.int 128)))) (.lits [])))))), (.fn 2 (.bi .pair (.var 0) (.int 0))))]
theorem partsC_y3 : endC partsC [(1, 1)] 1000 (callC Try.prog (tellA partsC_t3) [] [] [] 3000 40 46 partsC) = some partsC_d3 := by kernel_rfl
abbrev as7 : Q × Bool := ((.le (.bi (.iop .quo .i64) (.bi (.iop .quo .i64) (.bi (.iop .quo .i64) (.bi (.iop .quo .i64) (.var 0) (.int 128)) (.int 128)) (.int 128)) (.int 128)) (.int 0)), false)
abbrev as8 : Q × Bool := ((.le (.bi (.iop .quo .i64) (.bi (.iop .quo .i64) (.bi (.iop .quo .i64) (.bi (.iop .quo .i64) (.bi (.iop .quo .i64) (.var 0) (.int 128)) (.int 128)) (.int 128)) (.int 128)) (.int 128)) (.int 0)), true)
def partsC_t4 : List (Q × Bool) := [as1, as3, as5, as7, as8]
def partsC_d4 : List Duty := [(true, (.int 0), (.bi .sub (.int 5) (.fn 1 (.bi .pair (.var 0) (.int 0))))), (true, (.int 5), (.fn 1 (.bi .pair (.var 0) (.int 0)))), (true, (.int 5), (.fn 1 (.bi .pair (.var 0) (.int 0)))), (false, (.bi .app (.un .one (.bi (.iop .add .u8) (.un (.wrap .u8) (.bi (.iop .rem .i64) (.bi (.iop .quo .i64) (.bi (.iop .quo .i64) (.bi (.iop .quo .i64) (.bi (.iop .quo .i64) (.var 0) (.int 128)) (.int 128)) (.int 128)) (.int 128)) (.int 128))) (.int 128))) (.bi .app (.un .one (.bi (.iop .add .u8) (.un (.wrap .u8) (.bi (.iop .rem .i64) (.bi (.iop .quo .i64) (.bi (.iop .quo .i64) (.bi (.iop .quo .i64) (.var 0) (.int 128)) (.int 128)) (.int 128)) (.int 128))) (.int 128))) (.bi .app (.un .one (.bi (.iop .add .u8) (.un (.wrap .u8) (.bi (.iop .rem .i64) (.bi (.iop .quo .i64) (.bi (.iop .quo .i64) (.var 0) (.int 128)) (.int 128)) (.int 128))) (.int 128))) (.bi .app (.un .one (.bi (.iop .add .u8) (.un (.wrap .u8) (.bi (.iop .rem .i64) (.bi (.iop .quo .i64) (.var 0) (.int 128)) (.int 128))) (.int 128))) (.bi .app (.un .one (.un (.wrap .u8) (.bi (.iop .rem .i64) (.var 0) (.int 128)))) (.lits [])))))), (.fn 2 (.bi .pair (.var 0) (.int 0))))]
theorem partsC_y4 : endC partsC [(1, 1)] 1000 (callC Try.prog (tellA partsC_t4) [] [] [] 3000 40 46 partsC) = some partsC_d4 := by kernel_rfl
theorem partsC_holds : CHolds Try.prog 46 partsC F := by
  refine cholds_of sound (tableNil _ _) (specsNil _ _) (oversNil _ _) (fuel := 3000) (depth := 40) (by kernel_rfl) fun d hp hR hA => ?_
  have hp := allTold'_iff.2 hp
  simp only [partsC, allTold', dutiesTold, factsA, factsC, factsP, factsR, AV.facts, RW.facts, inK, and_true, Q.holds', E.i, E.s, E.n, D.nat, E.den, BO.den, UO.den, TO.den, D.toInt_int, D.toList_list, D.ints_ofInts, i64min, i64max, u8min, u8max, u16min, u16max, u32min, u32max, u64min, u64max, i32min, i32max, Om.sub, selI, ints_app, ints_cut, ints_upd, ints_rep, ints_splice, ints_seg, len_ints] at hp hR hA
  rcases five (n := (d 0).toInt) (by omega) (by omega) with c | c | c | c | c
  · have q0 : iopI .quo .i64 ((d 0).toInt) 128 = (d 0).toInt / 128 := quo_ediv (by omega) (by omega) (by omega)
    have r0 : iopI .rem .i64 ((d 0).toInt) 128 = (d 0).toInt % 128 := rem_emod _ (by omega)
    have w0 : IntKind.u8.wrap ((d 0).toInt % 128) = (d 0).toInt % 128 := w8 (by omega) (by omega)
    have s : szI (d 0).toInt = 1 := by unfold szI; simp [c]
    have p := put1 (n := (d 0).toInt) (by omega) (by omega)
    refine ⟨tellA partsC_t0, _, _, _, tellA_ok (allTold'_iff.1 ?_), partsC_y0, dutiesTold_ok ?_⟩
    · simp only [partsC_t0, allTold', dutiesTold, factsA, factsC, factsP, factsR, AV.facts, RW.facts, inK, and_true, Q.holds', E.i, E.s, E.n, D.nat, E.den, BO.den, UO.den, TO.den, D.toInt_int, D.toList_list, D.ints_ofInts, i64min, i64max, u8min, u8max, u16min, u16max, u32min, u32max, u64min, u64max, i32min, i32max, Om.sub, selI, ints_app, ints_cut, ints_upd, ints_rep, ints_splice, ints_seg, len_ints]
      simp only [q0, r0, w0]
      and_intros <;> first | omega | trivial
    · simp only [partsC_d0, F1, F2, allTold', dutiesTold, factsA, factsC, factsP, factsR, AV.facts, RW.facts, inK, and_true, Q.holds', E.i, E.s, E.n, D.nat, E.den, BO.den, UO.den, TO.den, D.toInt_int, D.toList_list, D.ints_ofInts, i64min, i64max, u8min, u8max, u16min, u16max, u32min, u32max, u64min, u64max, i32min, i32max, Om.sub, selI, ints_app, ints_cut, ints_upd, ints_rep, ints_splice, ints_seg, len_ints]
      simp only [q0, r0, w0, s, fiveI, p]
      and_intros <;> first | rfl | omega | (simp [ints_list]; done) | (simp [ints_list]; first | omega | exact ⟨by omega, rfl⟩ | rfl)
  · have q0 : iopI .quo .i64 ((d 0).toInt) 128 = (d 0).toInt / 128 := quo_ediv (by omega) (by omega) (by omega)
    have r0 : iopI .rem .i64 ((d 0).toInt) 128 = (d 0).toInt % 128 := rem_emod _ (by omega)
    have w0 : IntKind.u8.wrap ((d 0).toInt % 128) = (d 0).toInt % 128 := w8 (by omega) (by omega)
    have q1 : iopI .quo .i64 ((d 0).toInt / 128) 128 = (d 0).toInt / 128 / 128 := quo_ediv (by omega) (by omega) (by omega)
    have r1 : iopI .rem .i64 ((d 0).toInt / 128) 128 = (d 0).toInt / 128 % 128 := rem_emod _ (by omega)
    have w1 : IntKind.u8.wrap ((d 0).toInt / 128 % 128) = (d 0).toInt / 128 % 128 := w8 (by omega) (by omega)
    have a1 : iopI .add .u8 ((d 0).toInt / 128 % 128) 128 = (d 0).toInt / 128 % 128 + 128 := a8 (by omega) (by omega)
    have s : szI (d 0).toInt = 2 := by unfold szI; repeat first | rw [if_neg (by omega)] | rw [if_pos (by omega)]
    have p := put2 (n := (d 0).toInt) (by omega) (by omega)
    refine ⟨tellA partsC_t1, _, _, _, tellA_ok (allTold'_iff.1 ?_), partsC_y1, dutiesTold_ok ?_⟩
    · simp only [partsC_t1, allTold', dutiesTold, factsA, factsC, factsP, factsR, AV.facts, RW.facts, inK, and_true, Q.holds', E.i, E.s, E.n, D.nat, E.den, BO.den, UO.den, TO.den, D.toInt_int, D.toList_list, D.ints_ofInts, i64min, i64max, u8min, u8max, u16min, u16max, u32min, u32max, u64min, u64max, i32min, i32max, Om.sub, selI, ints_app, ints_cut, ints_upd, ints_rep, ints_splice, ints_seg, len_ints]
      simp only [q0, r0, w0, q1, r1, w1, a1]
      and_intros <;> first | omega | trivial
    · simp only [partsC_d1, F1, F2, allTold', dutiesTold, factsA, factsC, factsP, factsR, AV.facts, RW.facts, inK, and_true, Q.holds', E.i, E.s, E.n, D.nat, E.den, BO.den, UO.den, TO.den, D.toInt_int, D.toList_list, D.ints_ofInts, i64min, i64max, u8min, u8max, u16min, u16max, u32min, u32max, u64min, u64max, i32min, i32max, Om.sub, selI, ints_app, ints_cut, ints_upd, ints_rep, ints_splice, ints_seg, len_ints]
      simp only [q0, r0, w0, q1, r1, w1, a1, s, fiveI, p]
      and_intros <;> first | rfl | omega | (simp [ints_list]; done) | (simp [ints_list]; first | omega | exact ⟨by omega, rfl⟩ | rfl)
  · have q0 : iopI .quo .i64 ((d 0).toInt) 128 = (d 0).toInt / 128 := quo_ediv (by omega) (by omega) (by omega)
    have r0 : iopI .rem .i64 ((d 0).toInt) 128 = (d 0).toInt % 128 := rem_emod _ (by omega)
    have w0 : IntKind.u8.wrap ((d 0).toInt % 128) = (d 0).toInt % 128 := w8 (by omega) (by omega)
    have q1 : iopI .quo .i64 ((d 0).toInt / 128) 128 = (d 0).toInt / 128 / 128 := quo_ediv (by omega) (by omega) (by omega)
    have r1 : iopI .rem .i64 ((d 0).toInt / 128) 128 = (d 0).toInt / 128 % 128 := rem_emod _ (by omega)
    have w1 : IntKind.u8.wrap ((d 0).toInt / 128 % 128) = (d 0).toInt / 128 % 128 := w8 (by omega) (by omega)
    have a1 : iopI .add .u8 ((d 0).toInt / 128 % 128) 128 = (d 0).toInt / 128 % 128 + 128 := a8 (by omega) (by omega)
    have q2 : iopI .quo .i64 ((d 0).toInt / 128 / 128) 128 = (d 0).toInt / 128 / 128 / 128 := quo_ediv (by omega) (by omega) (by omega)
    have r2 : iopI .rem .i64 ((d 0).toInt / 128 / 128) 128 = (d 0).toInt / 128 / 128 % 128 := rem_emod _ (by omega)
    have w2 : IntKind.u8.wrap ((d 0).toInt / 128 / 128 % 128) = (d 0).toInt / 128 / 128 % 128 := w8 (by omega) (by omega)
    have a2 : iopI .add .u8 ((d 0).toInt / 128 / 128 % 128) 128 = (d 0).toInt / 128 / 128 % 128 + 128 := a8 (by omega) (by omega)
    have s : szI (d 0).toInt = 3 := by unfold szI; repeat first | rw [if_neg (by omega)] | rw [if_pos (by omega)]
    have p := put3 (n := (d 0).toInt) (by omega) (by omega)
    refine ⟨tellA partsC_t2, _, _, _, tellA_ok (allTold'_iff.1 ?_), partsC_y2, dutiesTold_ok ?_⟩
    · simp only [partsC_t2, allTold', dutiesTold, factsA, factsC, factsP, factsR, AV.facts, RW.facts, inK, and_true, Q.holds', E.i, E.s, E.n, D.nat, E.den, BO.den, UO.den, TO.den, D.toInt_int, D.toList_list, D.ints_ofInts, i64min, i64max, u8min, u8max, u16min, u16max, u32min, u32max, u64min, u64max, i32min, i32max, Om.sub, selI, ints_app, ints_cut, ints_upd, ints_rep, ints_splice, ints_seg, len_ints]
      simp only [q0, r0, w0, q1, r1, w1, a1, q2, r2, w2, a2]
      and_intros <;> first | omega | trivial
    · simp only [partsC_d2, F1, F2, allTold', dutiesTold, factsA, factsC, factsP, factsR, AV.facts, RW.facts, inK, and_true, Q.holds', E.i, E.s, E.n, D.nat, E.den, BO.den, UO.den, TO.den, D.toInt_int, D.toList_list, D.ints_ofInts, i64min, i64max, u8min, u8max, u16min, u16max, u32min, u32max, u64min, u64max, i32min, i32max, Om.sub, selI, ints_app, ints_cut, ints_upd, ints_rep, ints_splice, ints_seg, len_ints]
      simp only [q0, r0, w0, q1, r1, w1, a1, q2, r2, w2, a2, s, fiveI, p]
      and_intros <;> first | rfl | omega | (simp [ints_list]; done) | (simp [ints_list]; first | omega | exact ⟨by omega, rfl⟩ | rfl)
  · have q0 : iopI .quo .i64 ((d 0).toInt) 128 = (d 0).toInt / 128 := quo_ediv (by omega) (by omega) (by omega)
    have r0 : iopI .rem .i64 ((d 0).toInt) 128 = (d 0).toInt % 128 := rem_emod _ (by omega)
    have w0 : IntKind.u8.wrap ((d 0).toInt % 128) = (d 0).toInt % 128 := w8 (by omega) (by omega)
    have q1 : iopI .quo .i64 ((d 0).toInt / 128) 128 = (d 0).toInt / 128 / 128 := quo_ediv (by omega) (by omega) (by omega)
    have r1 : iopI .rem .i64 ((d 0).toInt / 128) 128 = (d 0).toInt / 128 % 128 := rem_emod _ (by omega)
    have w1 : IntKind.u8.wrap ((d 0).toInt / 128 % 128) = (d 0).toInt / 128 % 128 := w8 (by omega) (by omega)
    have a1 : iopI .add .u8 ((d 0).toInt / 128 % 128) 128 = (d 0).toInt / 128 % 128 + 128 := a8 (by omega) (by omega)
    have q2 : iopI .quo .i64 ((d 0).toInt / 128 / 128) 128 = (d 0).toInt / 128 / 128 / 128 := quo_ediv (by omega) (by omega) (by omega)
    have r2 : iopI .rem .i64 ((d 0).toInt / 128 / 128) 128 = (d 0).toInt / 128 / 128 % 128 := rem_emod _ (by omega)
    have w2 : IntKind.u8.wrap ((d 0).toInt / 128 / 128 % 128) = (d 0).toInt / 128 / 128 % 128 := w8 (by omega) (by omega)
    have a2 : iopI .add .u8 ((d 0).toInt / 128 / 128 % 128) 128 = (d 0).toInt / 128 / 128 % 128 + 128 := a8 (by omega) (by omega)
    have q3 : iopI .quo .i64 ((d 0).toInt / 128 / 128 / 128) 128 = (d 0).toInt / 128 / 128 / 128 / 128 := quo_ediv (by omega) (by omega) (by omega)
    have r3 : iopI .rem .i64 ((d 0).toInt / 128 / 128 / 128) 128 = (d 0).toInt / 128 / 128 / 128 % 128 := rem_emod _ (by omega)
    have w3 : IntKind.u8.wrap ((d 0).toInt / 128 / 128 / 128 % 128) = (d 0).toInt / 128 / 128 / 128 % 128 := w8 (by omega) (by omega)
    have a3 : iopI .add .u8 ((d 0).toInt / 128 / 128 / 128 % 128) 128 = (d 0).toInt / 128 / 128 / 128 % 128 + 128 := a8 (by omega) (by omega)
    have s : szI (d 0).toInt = 4 := by unfold szI; repeat first | rw [if_neg (by omega)] | rw [if_pos (by omega)]
    have p := put4 (n := (d 0).toInt) (by omega) (by omega)
    refine ⟨tellA partsC_t3, _, _, _, tellA_ok (allTold'_iff.1 ?_), partsC_y3, dutiesTold_ok ?_⟩
    · simp only [partsC_t3, allTold', dutiesTold, factsA, factsC, factsP, factsR, AV.facts, RW.facts, inK, and_true, Q.holds', E.i, E.s, E.n, D.nat, E.den, BO.den, UO.den, TO.den, D.toInt_int, D.toList_list, D.ints_ofInts, i64min, i64max, u8min, u8max, u16min, u16max, u32min, u32max, u64min, u64max, i32min, i32max, Om.sub, selI, ints_app, ints_cut, ints_upd, ints_rep, ints_splice, ints_seg, len_ints]
      simp only [q0, r0, w0, q1, r1, w1, a1, q2, r2, w2, a2, q3, r3, w3, a3]
      and_intros <;> first | omega | trivial
    · simp only [partsC_d3, F1, F2, allTold', dutiesTold, factsA, factsC, factsP, factsR, AV.facts, RW.facts, inK, and_true, Q.holds', E.i, E.s, E.n, D.nat, E.den, BO.den, UO.den, TO.den, D.toInt_int, D.toList_list, D.ints_ofInts, i64min, i64max, u8min, u8max, u16min, u16max, u32min, u32max, u64min, u64max, i32min, i32max, Om.sub, selI, ints_app, ints_cut, ints_upd, ints_rep, ints_splice, ints_seg, len_ints]
      simp only [q0, r0, w0, q1, r1, w1, a1, q2, r2, w2, a2, q3, r3, w3, a3, s, fiveI, p]
      and_intros <;> first | rfl | omega | (simp [ints_list]; done) | (simp [ints_list]; first | omega | exact ⟨by omega, rfl⟩ | rfl)
  · have q0 : iopI .quo .i64 ((d 0).toInt) 128 = (d 0).toInt / 128 := quo_ediv (by omega) (by omega) (by omega)
    have r0 : iopI .rem .i64 ((d 0).toInt) 128 = (d 0).toInt % 128 := rem_emod _ (by omega)
    have w0 : IntKind.u8.wrap ((d 0).toInt % 128) = (d 0).toInt % 128 := w8 (by omega) (by omega)
    have q1 : iopI .quo .i64 ((d 0).toInt / 128) 128 = (d 0).toInt / 128 / 128 := quo_ediv (by omega) (by omega) (by omega)
    have r1 : iopI .rem .i64 ((d 0).toInt / 128) 128 = (d 0).toInt / 128 % 128 := rem_emod _ (by omega)
    have w1 : IntKind.u8.wrap ((d 0).toInt / 128 % 128) = (d 0).toInt / 128 % 128 := w8 (by omega) (by omega)
    have a1 : iopI .add .u8 ((d 0).toInt / 128 % 128) 128 = (d 0).toInt / 128 % 128 + 128 := a8 (by omega) (by omega)
    have q2 : iopI .quo .i64 ((d 0).toInt / 128 / 128) 128 = (d 0).toInt / 128 / 128 / 128 := quo_ediv (by omega) (by omega) (by omega)
    have r2 : iopI .rem .i64 ((d 0).toInt / 128 / 128) 128 = (d 0).toInt / 128 / 128 % 128 := rem_emod _ (by omega)
    have w2 : IntKind.u8.wrap ((d 0).toInt / 128 / 128 % 128) = (d 0).toInt / 128 / 128 % 128 := w8 (by omega) (by omega)
    have a2 : iopI .add .u8 ((d 0).toInt / 128 / 128 % 128) 128 = (d 0).toInt / 128 / 128 % 128 + 128 := a8 (by omega) (by omega)
    have q3 : iopI .quo .i64 ((d 0).toInt / 128 / 128 / 128) 128 = (d 0).toInt / 128 / 128 / 128 / 128 := quo_ediv (by omega) (by omega) (by omega)
    have r3 : iopI .rem .i64 ((d 0).toInt / 128 / 128 / 128) 128 = (d 0).toInt / 128 / 128 / 128 % 128 := rem_emod _ (by omega)
    have w3 : IntKind.u8.wrap ((d 0).toInt / 128 / 128 / 128 % 128) = (d 0).toInt / 128 / 128 / 128 % 128 := w8 (by omega) (by omega)
    have a3 : iopI .add .u8 ((d 0).toInt / 128 / 128 / 128 % 128) 128 = (d 0).toInt / 128 / 128 / 128 % 128 + 128 := a8 (by omega) (by omega)
    have q4 : iopI .quo .i64 ((d 0).toInt / 128 / 128 / 128 / 128) 128 = (d 0).toInt / 128 / 128 / 128 / 128 / 128 := quo_ediv (by omega) (by omega) (by omega)
    have r4 : iopI .rem .i64 ((d 0).toInt / 128 / 128 / 128 / 128) 128 = (d 0).toInt / 128 / 128 / 128 / 128 % 128 := rem_emod _ (by omega)
    have w4 : IntKind.u8.wrap ((d 0).toInt / 128 / 128 / 128 / 128 % 128) = (d 0).toInt / 128 / 128 / 128 / 128 % 128 := w8 (by omega) (by omega)
    have a4 : iopI .add .u8 ((d 0).toInt / 128 / 128 / 128 / 128 % 128) 128 = (d 0).toInt / 128 / 128 / 128 / 128 % 128 + 128 := a8 (by omega) (by omega)
    have s : szI (d 0).toInt = 5 := by unfold szI; repeat first | rw [if_neg (by omega)] | rw [if_pos (by omega)]
    have p := put5 (n := (d 0).toInt) (by omega) (by omega)
    refine ⟨tellA partsC_t4, _, _, _, tellA_ok (allTold'_iff.1 ?_), partsC_y4, dutiesTold_ok ?_⟩
    · simp only [partsC_t4, allTold', dutiesTold, factsA, factsC, factsP, factsR, AV.facts, RW.facts, inK, and_true, Q.holds', E.i, E.s, E.n, D.nat, E.den, BO.den, UO.den, TO.den, D.toInt_int, D.toList_list, D.ints_ofInts, i64min, i64max, u8min, u8max, u16min, u16max, u32min, u32max, u64min, u64max, i32min, i32max, Om.sub, selI, ints_app, ints_cut, ints_upd, ints_rep, ints_splice, ints_seg, len_ints]
      simp only [q0, r0, w0, q1, r1, w1, a1, q2, r2, w2, a2, q3, r3, w3, a3, q4, r4, w4, a4]
      and_intros <;> first | omega | trivial
    · simp only [partsC_d4, F1, F2, allTold', dutiesTold, factsA, factsC, factsP, factsR, AV.facts, RW.facts, inK, and_true, Q.holds', E.i, E.s, E.n, D.nat, E.den, BO.den, UO.den, TO.den, D.toInt_int, D.toList_list, D.ints_ofInts, i64min, i64max, u8min, u8max, u16min, u16max, u32min, u32max, u64min, u64max, i32min, i32max, Om.sub, selI, ints_app, ints_cut, ints_upd, ints_rep, ints_splice, ints_seg, len_ints]
      simp only [q0, r0, w0, q1, r1, w1, a1, q2, r2, w2, a2, q3, r3, w3, a3, q4, r4, w4, a4, s, fiveI, p]
      and_intros <;> first | rfl | omega | (simp [ints_list]; done) | (simp [ints_list]; first | omega | exact ⟨by omega, rfl⟩ | rfl)

def awakeC : CSpec := ⟨[], 0, [], [], .bool true, [], []⟩
set_option maxRecDepth 100000 in
theorem awakeC_y : endC awakeC [] 1000 (callW Try.prog F noAsk [] [] [] 8000 80 7 awakeC) = some [] := by kernel_rfl
theorem awakeC_holds : CHolds Try.prog 7 awakeC F := choldsW_of sound (tableNil _ _) (specsNil _ _) (oversNil _ _) (by kernel_rfl) fun d _ _ _ => ⟨noAsk, [], 1000, [], noAsk_ok _, awakeC_y, fun p hp => by cases hp⟩

def sizeP : CSpec := { args := [.sint .i64 (.var 0)], next := 0, rows := [], pre := [], res := .sint .i64 (.fn 40 (.bi .pair (.var 0) (.int 0))), frows := [], same := [] }
abbrev as9 : Q × Bool := ((.le (.int 0) (.var 0)), true)
abbrev as10 : Q × Bool := ((.le (.var 0) (.int 2147483647)), true)
abbrev as11 : Q × Bool := ((.fit .i64 (.fn 1 (.bi .pair (.var 0) (.int 0)))), true)
def sizeP_t0 : List (Q × Bool) := [as9, as10, as11]
def sizeP_d0 : List Duty := [(true, (.fn 1 (.bi .pair (.var 0) (.int 0))), (.fn 40 (.bi .pair (.var 0) (.int 0))))]
theorem sizeP_y0 : endC sizeP [] 1000 (callC Try.prog (tellA sizeP_t0) [] [(46, partsC)] [] 3000 40 22 sizeP) = some sizeP_d0 := by kernel_rfl
abbrev as12 : Q × Bool := ((.le (.int 0) (.var 0)), false)
def sizeP_t1 : List (Q × Bool) := [as12]
def sizeP_d1 : List Duty := [(true, (.int 0), (.fn 40 (.bi .pair (.var 0) (.int 0))))]
theorem sizeP_y1 : endC sizeP [] 1000 (callC Try.prog (tellA sizeP_t1) [] [(46, partsC)] [] 3000 40 22 sizeP) = some sizeP_d1 := by kernel_rfl
abbrev as13 : Q × Bool := ((.le (.var 0) (.int 2147483647)), false)
def sizeP_t2 : List (Q × Bool) := [as9, as13]
def sizeP_d2 : List Duty := [(true, (.int 0), (.fn 40 (.bi .pair (.var 0) (.int 0))))]
theorem sizeP_y2 : endC sizeP [] 1000 (callC Try.prog (tellA sizeP_t2) [] [(46, partsC)] [] 3000 40 22 sizeP) = some sizeP_d2 := by kernel_rfl
theorem sizeP_holds : CHolds Try.prog 22 sizeP F := by
  refine cholds_of sound (tableNil _ _) (specsCons partsC_holds (specsNil _ _)) (oversNil _ _) (fuel := 3000) (depth := 40) (by kernel_rfl) fun d hp hR hA => ?_
  have hp := allTold'_iff.2 hp
  simp only [sizeP, allTold', dutiesTold, factsA, factsC, factsP, factsR, AV.facts, RW.facts, inK, and_true, Q.holds', E.i, E.s, E.n, D.nat, E.den, BO.den, UO.den, TO.den, D.toInt_int, D.toList_list, D.ints_ofInts, i64min, i64max, u8min, u8max, u16min, u16max, u32min, u32max, u64min, u64max, i32min, i32max, Om.sub, selI, ints_app, ints_cut, ints_upd, ints_rep, ints_splice, ints_seg, len_ints] at hp hR hA
  by_cases g : 0 ≤ (d 0).toInt
  · by_cases g2 : (d 0).toInt ≤ 2147483647
    · refine ⟨tellA sizeP_t0, _, _, _, tellA_ok (allTold'_iff.1 ?_), sizeP_y0, dutiesTold_ok ?_⟩
      · simp only [sizeP_t0, F1, allTold', dutiesTold, factsA, factsC, factsP, factsR, AV.facts, RW.facts, inK, and_true, Q.holds', E.i, E.s, E.n, D.nat, E.den, BO.den, UO.den, TO.den, D.toInt_int, D.toList_list, D.ints_ofInts, i64min, i64max, u8min, u8max, u16min, u16max, u32min, u32max, u64min, u64max, i32min, i32max, Om.sub, selI, ints_app, ints_cut, ints_upd, ints_rep, ints_splice, ints_seg, len_ints]
        have := sz_in (d 0).toInt
        omega
      · simp only [sizeP_d0, F1, F40, allTold', dutiesTold, factsA, factsC, factsP, factsR, AV.facts, RW.facts, inK, and_true, Q.holds', E.i, E.s, E.n, D.nat, E.den, BO.den, UO.den, TO.den, D.toInt_int, D.toList_list, D.ints_ofInts, i64min, i64max, u8min, u8max, u16min, u16max, u32min, u32max, u64min, u64max, i32min, i32max, Om.sub, selI, ints_app, ints_cut, ints_upd, ints_rep, ints_splice, ints_seg, len_ints]
        rw [if_pos ⟨g, g2⟩]
    · refine ⟨tellA sizeP_t2, _, _, _, tellA_ok (allTold'_iff.1 ?_), sizeP_y2, dutiesTold_ok ?_⟩
      · simp only [sizeP_t2, allTold', dutiesTold, factsA, factsC, factsP, factsR, AV.facts, RW.facts, inK, and_true, Q.holds', E.i, E.s, E.n, D.nat, E.den, BO.den, UO.den, TO.den, D.toInt_int, D.toList_list, D.ints_ofInts, i64min, i64max, u8min, u8max, u16min, u16max, u32min, u32max, u64min, u64max, i32min, i32max, Om.sub, selI, ints_app, ints_cut, ints_upd, ints_rep, ints_splice, ints_seg, len_ints]
        omega
      · simp only [sizeP_d2, F40, allTold', dutiesTold, factsA, factsC, factsP, factsR, AV.facts, RW.facts, inK, and_true, Q.holds', E.i, E.s, E.n, D.nat, E.den, BO.den, UO.den, TO.den, D.toInt_int, D.toList_list, D.ints_ofInts, i64min, i64max, u8min, u8max, u16min, u16max, u32min, u32max, u64min, u64max, i32min, i32max, Om.sub, selI, ints_app, ints_cut, ints_upd, ints_rep, ints_splice, ints_seg, len_ints]
        rw [if_neg (by omega)]
  · refine ⟨tellA sizeP_t1, _, _, _, tellA_ok (allTold'_iff.1 ?_), sizeP_y1, dutiesTold_ok ?_⟩
    · simp only [sizeP_t1, allTold', dutiesTold, factsA, factsC, factsP, factsR, AV.facts, RW.facts, inK, and_true, Q.holds', E.i, E.s, E.n, D.nat, E.den, BO.den, UO.den, TO.den, D.toInt_int, D.toList_list, D.ints_ofInts, i64min, i64max, u8min, u8max, u16min, u16max, u32min, u32max, u64min, u64max, i32min, i32max, Om.sub, selI, ints_app, ints_cut, ints_upd, ints_rep, ints_splice, ints_seg, len_ints]
      omega
    · simp only [sizeP_d1, F40, allTold', dutiesTold, factsA, factsC, factsP, factsR, AV.facts, RW.facts, inK, and_true, Q.holds', E.i, E.s, E.n, D.nat, E.den, BO.den, UO.den, TO.den, D.toInt_int, D.toList_list, D.ints_ofInts, i64min, i64max, u8min, u8max, u16min, u16max, u32min, u32max, u64min, u64max, i32min, i32max, Om.sub, selI, ints_app, ints_cut, ints_upd, ints_rep, ints_splice, ints_seg, len_ints]
      rw [if_neg (by omega)]

def sizeR : CSpec := { args := [.sint .i64 (.var 0)], next := 0, rows := [], pre := [], res := .sint .i64 (.fn 40 (.bi .pair (.var 0) (.int 0))), frows := [], same := [] }
abbrev as14 : Q × Bool := ((.le (.int 128) (.var 0)), false)
def sizeR_t0 : List (Q × Bool) := [as9, as10, as14]
def sizeR_d0 : List Duty := [(true, (.int 1), (.fn 40 (.bi .pair (.var 0) (.int 0))))]
theorem sizeR_y0 : endC sizeR [] 1000 (callC Try.prog (tellA sizeR_t0) [] [] [] 3000 40 23 sizeR) = some sizeR_d0 := by kernel_rfl
abbrev as15 : Q × Bool := ((.le (.int 128) (.var 0)), true)
abbrev as16 : Q × Bool := ((.le (.int 128) (.bi (.iop .quo .i64) (.var 0) (.int 128))), false)
def sizeR_t1 : List (Q × Bool) := [as9, as10, as15, as16]
def sizeR_d1 : List Duty := [(true, (.int 2), (.fn 40 (.bi .pair (.var 0) (.int 0))))]
theorem sizeR_y1 : endC sizeR [] 1000 (callC Try.prog (tellA sizeR_t1) [] [] [] 3000 40 23 sizeR) = some sizeR_d1 := by kernel_rfl
abbrev as17 : Q × Bool := ((.le (.int 128) (.bi (.iop .quo .i64) (.var 0) (.int 128))), true)
abbrev as18 : Q × Bool := ((.le (.int 128) (.bi (.iop .quo .i64) (.bi (.iop .quo .i64) (.var 0) (.int 128)) (.int 128))), false)
def sizeR_t2 : List (Q × Bool) := [as9, as10, as15, as17, as18]
def sizeR_d2 : List Duty := [(true, (.int 3), (.fn 40 (.bi .pair (.var 0) (.int 0))))]
theorem sizeR_y2 : endC sizeR [] 1000 (callC Try.prog (tellA sizeR_t2) [] [] [] 3000 40 23 sizeR) = some sizeR_d2 := by kernel_rfl
abbrev as19 : Q × Bool := ((.le (.int 128) (.bi (.iop .quo .i64) (.bi (.iop .quo .i64) (.var 0) (.int 128)) (.int 128))), true)
abbrev as20 : Q × Bool := ((.le (.int 128) (.bi (.iop .quo .i64) (.bi (.iop .quo .i64) (.bi (.iop .quo .i64) (.var 0) (.int 128)) (.int 128)) (.int 128))), false)
def sizeR_t3 : List (Q × Bool) := [as9, as10, as15, as17, as19, as20]
def sizeR_d3 : List Duty := [(true, (.int 4), (.fn 40 (.bi .pair (.var 0) (.int 0))))]
theorem sizeR_y3 : endC sizeR [] 1000 (callC Try.prog (tellA sizeR_t3) [] [] [] 3000 40 23 sizeR) = some sizeR_d3 := by kernel_rfl
abbrev as21 : Q × Bool := ((.le (.int 128) (.bi (.iop .quo .i64) (.bi (.iop .quo .i64) (.bi (.iop .quo .i64) (.var 0) (.int 128)) (.int 128)) (.int 128))), true)
abbrev as22 : Q × Bool := ((.le (.int 128) (.bi (.iop .quo .i64) (.bi (.iop .quo .i64) (.bi (.iop .quo .i64) (.bi (.iop .quo .i64) (.var 0) (.int 128)) (.int 128)) (.int 128)) (.int 128))), false)
def sizeR_t4 : List (Q × Bool) := [as9, as10, as15, as17, as19, as21, as22]
def sizeR_d4 : List Duty := [(true, (.int 5), (.fn 40 (.bi .pair (.var 0) (.int 0))))]
theorem sizeR_y4 : endC sizeR [] 1000 (callC Try.prog (tellA sizeR_t4) [] [] [] 3000 40 23 sizeR) = some sizeR_d4 := by kernel_rfl
def sizeR_t5 : List (Q × Bool) := [as12]
def sizeR_d5 : List Duty := [(true, (.int 0), (.fn 40 (.bi .pair (.var 0) (.int 0))))]
theorem sizeR_y5 : endC sizeR [] 1000 (callC Try.prog (tellA sizeR_t5) [] [] [] 3000 40 23 sizeR) = some sizeR_d5 := by kernel_rfl
def sizeR_t6 : List (Q × Bool) := [as9, as13]
def sizeR_d6 : List Duty := [(true, (.int 0), (.fn 40 (.bi .pair (.var 0) (.int 0))))]
theorem sizeR_y6 : endC sizeR [] 1000 (callC Try.prog (tellA sizeR_t6) [] [] [] 3000 40 23 sizeR) = some sizeR_d6 := by kernel_rfl
theorem sizeR_holds : CHolds Try.prog 23 sizeR F := by
  refine cholds_of sound (tableNil _ _) (specsNil _ _) (oversNil _ _) (fuel := 3000) (depth := 40) (by kernel_rfl) fun d hp hR hA => ?_
  have hp := allTold'_iff.2 hp
  simp only [sizeR, allTold', dutiesTold, factsA, factsC, factsP, factsR, AV.facts, RW.facts, inK, and_true, Q.holds', E.i, E.s, E.n, D.nat, E.den, BO.den, UO.den, TO.den, D.toInt_int, D.toList_list, D.ints_ofInts, i64min, i64max, u8min, u8max, u16min, u16max, u32min, u32max, u64min, u64max, i32min, i32max, Om.sub, selI, ints_app, ints_cut, ints_upd, ints_rep, ints_splice, ints_seg, len_ints] at hp hR hA
  by_cases g : 0 ≤ (d 0).toInt
  · by_cases g2 : (d 0).toInt ≤ 2147483647
    · rcases five (n := (d 0).toInt) g g2 with c | c | c | c | c
      · have q0 : iopI .quo .i64 ((d 0).toInt) 128 = (d 0).toInt / 128 := quo_ediv (by omega) (by omega) (by omega)
        have s : szI (d 0).toInt = 1 := by unfold szI; simp [c]
        refine ⟨tellA sizeR_t0, _, _, _, tellA_ok (allTold'_iff.1 ?_), sizeR_y0, dutiesTold_ok ?_⟩
        · simp only [sizeR_t0, q0, allTold', dutiesTold, factsA, factsC, factsP, factsR, AV.facts, RW.facts, inK, and_true, Q.holds', E.i, E.s, E.n, D.nat, E.den, BO.den, UO.den, TO.den, D.toInt_int, D.toList_list, D.ints_ofInts, i64min, i64max, u8min, u8max, u16min, u16max, u32min, u32max, u64min, u64max, i32min, i32max, Om.sub, selI, ints_app, ints_cut, ints_upd, ints_rep, ints_splice, ints_seg, len_ints]
          omega
        · simp only [sizeR_d0, F40, allTold', dutiesTold, factsA, factsC, factsP, factsR, AV.facts, RW.facts, inK, and_true, Q.holds', E.i, E.s, E.n, D.nat, E.den, BO.den, UO.den, TO.den, D.toInt_int, D.toList_list, D.ints_ofInts, i64min, i64max, u8min, u8max, u16min, u16max, u32min, u32max, u64min, u64max, i32min, i32max, Om.sub, selI, ints_app, ints_cut, ints_upd, ints_rep, ints_splice, ints_seg, len_ints]
          rw [if_pos ⟨g, g2⟩, s]
      · have q0 : iopI .quo .i64 ((d 0).toInt) 128 = (d 0).toInt / 128 := quo_ediv (by omega) (by omega) (by omega)
        have q1 : iopI .quo .i64 ((d 0).toInt / 128) 128 = (d 0).toInt / 128 / 128 := quo_ediv (by omega) (by omega) (by omega)
        have s : szI (d 0).toInt = 2 := by unfold szI; repeat first | rw [if_neg (by omega)] | rw [if_pos (by omega)]
        refine ⟨tellA sizeR_t1, _, _, _, tellA_ok (allTold'_iff.1 ?_), sizeR_y1, dutiesTold_ok ?_⟩
        · simp only [sizeR_t1, q0, q1, allTold', dutiesTold, factsA, factsC, factsP, factsR, AV.facts, RW.facts, inK, and_true, Q.holds', E.i, E.s, E.n, D.nat, E.den, BO.den, UO.den, TO.den, D.toInt_int, D.toList_list, D.ints_ofInts, i64min, i64max, u8min, u8max, u16min, u16max, u32min, u32max, u64min, u64max, i32min, i32max, Om.sub, selI, ints_app, ints_cut, ints_upd, ints_rep, ints_splice, ints_seg, len_ints]
          omega
        · simp only [sizeR_d1, F40, allTold', dutiesTold, factsA, factsC, factsP, factsR, AV.facts, RW.facts, inK, and_true, Q.holds', E.i, E.s, E.n, D.nat, E.den, BO.den, UO.den, TO.den, D.toInt_int, D.toList_list, D.ints_ofInts, i64min, i64max, u8min, u8max, u16min, u16max, u32min, u32max, u64min, u64max, i32min, i32max, Om.sub, selI, ints_app, ints_cut, ints_upd, ints_rep, ints_splice, ints_seg, len_ints]
          rw [if_pos ⟨g, g2⟩, s]
      · have q0 : iopI .quo .i64 ((d 0).toInt) 128 = (d 0).toInt / 128 := quo_ediv (by omega) (by omega) (by omega)
        have q1 : iopI .quo .i64 ((d 0).toInt / 128) 128 = (d 0).toInt / 128 / 128 := quo_ediv (by omega) (by omega) (by omega)
        have q2 : iopI .quo .i64 ((d 0).toInt / 128 / 128) 128 = (d 0).toInt / 128 / 128 / 128 := quo_ediv (by omega) (by omega) (by omega)
        have s : szI (d 0).toInt = 3 := by unfold szI; repeat first | rw [if_neg (by omega)] | rw [if_pos (by omega)]
        refine ⟨tellA sizeR_t2, _, _, _, tellA_ok (allTold'_iff.1 ?_), sizeR_y2, dutiesTold_ok ?_⟩
        · simp only [sizeR_t2, q0, q1, q2, allTold', dutiesTold, factsA, factsC, factsP, factsR, AV.facts, RW.facts, inK, and_true, Q.holds', E.i, E.s, E.n, D.nat, E.den, BO.den, UO.den, TO.den, D.toInt_int, D.toList_list, D.ints_ofInts, i64min, i64max, u8min, u8max, u16min, u16max, u32min, u32max, u64min, u64max, i32min, i32max, Om.sub, selI, ints_app, ints_cut, ints_upd, ints_rep, ints_splice, ints_seg, len_ints]
          omega
        · simp only [sizeR_d2, F40, allTold', dutiesTold, factsA, factsC, factsP, factsR, AV.facts, RW.facts, inK, and_true, Q.holds', E.i, E.s, E.n, D.nat, E.den, BO.den, UO.den, TO.den, D.toInt_int, D.toList_list, D.ints_ofInts, i64min, i64max, u8min, u8max, u16min, u16max, u32min, u32max, u64min, u64max, i32min, i32max, Om.sub, selI, ints_app, ints_cut, ints_upd, ints_rep, ints_splice, ints_seg, len_ints]
          rw [if_pos ⟨g, g2⟩, s]
      · have q0 : iopI .quo .i64 ((d 0).toInt) 128 = (d 0).toInt / 128 := quo_ediv (by omega) (by omega) (by omega)
        have q1 : iopI .quo .i64 ((d 0).toInt / 128) 128 = (d 0).toInt / 128 / 128 := quo_ediv (by omega) (by omega) (by omega)
        have q2 : iopI .quo .i64 ((d 0).toInt / 128 / 128) 128 = (d 0).toInt / 128 / 128 / 128 := quo_ediv (by omega) (by omega) (by omega)
        have q3 : iopI .quo .i64 ((d 0).toInt / 128 / 128 / 128) 128 = (d 0).toInt / 128 / 128 / 128 / 128 := quo_ediv (by omega) (by omega) (by omega)
        have s : szI (d 0).toInt = 4 := by unfold szI; repeat first | rw [if_neg (by omega)] | rw [if_pos (by omega)]
        refine ⟨tellA sizeR_t3, _, _, _, tellA_ok (allTold'_iff.1 ?_), sizeR_y3, dutiesTold_ok ?_⟩
        · simp only [sizeR_t3, q0, q1, q2, q3, allTold', dutiesTold, factsA, factsC, factsP, factsR, AV.facts, RW.facts, inK, and_true, Q.holds', E.i, E.s, E.n, D.nat, E.den, BO.den, UO.den, TO.den, D.toInt_int, D.toList_list, D.ints_ofInts, i64min, i64max, u8min, u8max, u16min, u16max, u32min, u32max, u64min, u64max, i32min, i32max, Om.sub, selI, ints_app, ints_cut, ints_upd, ints_rep, ints_splice, ints_seg, len_ints]
          omega
        · simp only [sizeR_d3, F40, allTold', dutiesTold, factsA, factsC, factsP, factsR, AV.facts, RW.facts, inK, and_true, Q.holds', E.i, E.s, E.n, D.nat, E.den, BO.den, UO.den, TO.den, D.toInt_int, D.toList_list, D.ints_ofInts, i64min, i64max, u8min, u8max, u16min, u16max, u32min, u32max, u64min, u64max, i32min, i32max, Om.sub, selI, ints_app, ints_cut, ints_upd, ints_rep, ints_splice, ints_seg, len_ints]
          rw [if_pos ⟨g, g2⟩, s]
      · have q0 : iopI .quo .i64 ((d 0).toInt) 128 = (d 0).toInt / 128 := quo_ediv (by omega) (by omega) (by omega)
        have q1 : iopI .quo .i64 ((d 0).toInt / 128) 128 = (d 0).toInt / 128 / 128 := quo_ediv (by omega) (by omega) (by omega)
        have q2 : iopI .quo .i64 ((d 0).toInt / 128 / 128) 128 = (d 0).toInt / 128 / 128 / 128 := quo_ediv (by omega) (by omega) (by omega)
        have q3 : iopI .quo .i64 ((d 0).toInt / 128 / 128 / 128) 128 = (d 0).toInt / 128 / 128 / 128 / 128 := quo_ediv (by omega) (by omega) (by omega)
        have q4 : iopI .quo .i64 ((d 0).toInt / 128 / 128 / 128 / 128) 128 = (d 0).toInt / 128 / 128 / 128 / 128 / 128 := quo_ediv (by omega) (by omega) (by omega)
        have s : szI (d 0).toInt = 5 := by unfold szI; repeat first | rw [if_neg (by omega)] | rw [if_pos (by omega)]
        refine ⟨tellA sizeR_t4, _, _, _, tellA_ok (allTold'_iff.1 ?_), sizeR_y4, dutiesTold_ok ?_⟩
        · simp only [sizeR_t4, q0, q1, q2, q3, q4, allTold', dutiesTold, factsA, factsC, factsP, factsR, AV.facts, RW.facts, inK, and_true, Q.holds', E.i, E.s, E.n, D.nat, E.den, BO.den, UO.den, TO.den, D.toInt_int, D.toList_list, D.ints_ofInts, i64min, i64max, u8min, u8max, u16min, u16max, u32min, u32max, u64min, u64max, i32min, i32max, Om.sub, selI, ints_app, ints_cut, ints_upd, ints_rep, ints_splice, ints_seg, len_ints]
          omega
        · simp only [sizeR_d4, F40, allTold', dutiesTold, factsA, factsC, factsP, factsR, AV.facts, RW.facts, inK, and_true, Q.holds', E.i, E.s, E.n, D.nat, E.den, BO.den, UO.den, TO.den, D.toInt_int, D.toList_list, D.ints_ofInts, i64min, i64max, u8min, u8max, u16min, u16max, u32min, u32max, u64min, u64max, i32min, i32max, Om.sub, selI, ints_app, ints_cut, ints_upd, ints_rep, ints_splice, ints_seg, len_ints]
          rw [if_pos ⟨g, g2⟩, s]
    · refine ⟨tellA sizeR_t6, _, _, _, tellA_ok (allTold'_iff.1 ?_), sizeR_y6, dutiesTold_ok ?_⟩
      · simp only [sizeR_t6, allTold', dutiesTold, factsA, factsC, factsP, factsR, AV.facts, RW.facts, inK, and_true, Q.holds', E.i, E.s, E.n, D.nat, E.den, BO.den, UO.den, TO.den, D.toInt_int, D.toList_list, D.ints_ofInts, i64min, i64max, u8min, u8max, u16min, u16max, u32min, u32max, u64min, u64max, i32min, i32max, Om.sub, selI, ints_app, ints_cut, ints_upd, ints_rep, ints_splice, ints_seg, len_ints]
        omega
      · simp only [sizeR_d6, F40, allTold', dutiesTold, factsA, factsC, factsP, factsR, AV.facts, RW.facts, inK, and_true, Q.holds', E.i, E.s, E.n, D.nat, E.den, BO.den, UO.den, TO.den, D.toInt_int, D.toList_list, D.ints_ofInts, i64min, i64max, u8min, u8max, u16min, u16max, u32min, u32max, u64min, u64max, i32min, i32max, Om.sub, selI, ints_app, ints_cut, ints_upd, ints_rep, ints_splice, ints_seg, len_ints]
        rw [if_neg (by omega)]
  · refine ⟨tellA sizeR_t5, _, _, _, tellA_ok (allTold'_iff.1 ?_), sizeR_y5, dutiesTold_ok ?_⟩
    · simp only [sizeR_t5, allTold', dutiesTold, factsA, factsC, factsP, factsR, AV.facts, RW.facts, inK, and_true, Q.holds', E.i, E.s, E.n, D.nat, E.den, BO.den, UO.den, TO.den, D.toInt_int, D.toList_list, D.ints_ofInts, i64min, i64max, u8min, u8max, u16min, u16max, u32min, u32max, u64min, u64max, i32min, i32max, Om.sub, selI, ints_app, ints_cut, ints_upd, ints_rep, ints_splice, ints_seg, len_ints]
      omega
    · simp only [sizeR_d5, F40, allTold', dutiesTold, factsA, factsC, factsP, factsR, AV.facts, RW.facts, inK, and_true, Q.holds', E.i, E.s, E.n, D.nat, E.den, BO.den, UO.den, TO.den, D.toInt_int, D.toList_list, D.ints_ofInts, i64min, i64max, u8min, u8max, u16min, u16max, u32min, u32max, u64min, u64max, i32min, i32max, Om.sub, selI, ints_app, ints_cut, ints_upd, ints_rep, ints_splice, ints_seg, len_ints]
      rw [if_neg (by omega)]

def putR : CSpec := { args := [.sint .i64 (.var 0)], next := 0, rows := [], pre := [(.le (.int 0) (.var 0), true), (.le (.var 0) (.int 2147483647), true)], res := .sslice 1 (.int 0) (.fn 1 (.bi .pair (.var 0) (.int 0))) (.fn 1 (.bi .pair (.var 0) (.int 0))) true, frows := [(1, .seq ⟨5, .u8, .fn 1 (.bi .pair (.var 0) (.int 0)), .fn 3 (.bi .pair (.var 0) (.int 0)), true, false⟩)], same := [] }
def putR_t0 : List (Q × Bool) := [as9, as10, as14]
def putR_d0 : List Duty := [(true, (.int 1), (.fn 1 (.bi .pair (.var 0) (.int 0)))), (true, (.int 1), (.fn 1 (.bi .pair (.var 0) (.int 0)))), (true, (.int 1), (.fn 1 (.bi .pair (.var 0) (.int 0)))), (false, (.bi .app (.un .one (.un (.wrap .u8) (.bi (.iop .rem .i64) (.bi (.iop .shr .i64) (.var 0) (.int 0)) (.int 128)))) (.lits [])), (.fn 3 (.bi .pair (.var 0) (.int 0))))]
theorem putR_y0 : endC putR [(1, 3)] 1000 (callC Try.prog (tellA putR_t0) [] [] [] 3000 40 47 putR) = some putR_d0 := by kernel_rfl
abbrev as23 : Q × Bool := ((.fit .i64 (.bi .add (.bi (.iop .rem .i64) (.bi (.iop .shr .i64) (.var 0) (.int 7)) (.int 128)) (.int 128))), true)
def putR_t1 : List (Q × Bool) := [as9, as10, as15, as16, as23]
def putR_d1 : List Duty := [(true, (.int 2), (.fn 1 (.bi .pair (.var 0) (.int 0)))), (true, (.int 2), (.fn 1 (.bi .pair (.var 0) (.int 0)))), (true, (.int 2), (.fn 1 (.bi .pair (.var 0) (.int 0)))), (false, (.bi .app (.un .one (.un (.wrap .u8) (.bi .add (.bi (.iop .rem .i64) (.bi (.iop .shr .i64) (.var 0) (.int 7)) (.int 128)) (.int 128)))) (.bi .app (.un .one (.un (.wrap .u8) (.bi (.iop .rem .i64) (.bi (.iop .shr .i64) (.var 0) (.int 0)) (.int 128)))) (.lits []))), (.fn 3 (.bi .pair (.var 0) (.int 0))))]
theorem putR_y1 : endC putR [(1, 7)] 1000 (callC Try.prog (tellA putR_t1) [] [] [] 3000 40 47 putR) = some putR_d1 := by kernel_rfl
abbrev as24 : Q × Bool := ((.fit .i64 (.bi .add (.bi (.iop .rem .i64) (.bi (.iop .shr .i64) (.var 0) (.int 14)) (.int 128)) (.int 128))), true)
def putR_t2 : List (Q × Bool) := [as9, as10, as15, as17, as18, as24, as23]
def putR_d2 : List Duty := [(true, (.int 3), (.fn 1 (.bi .pair (.var 0) (.int 0)))), (true, (.int 3), (.fn 1 (.bi .pair (.var 0) (.int 0)))), (true, (.int 3), (.fn 1 (.bi .pair (.var 0) (.int 0)))), (false, (.bi .app (.un .one (.un (.wrap .u8) (.bi .add (.bi (.iop .rem .i64) (.bi (.iop .shr .i64) (.var 0) (.int 14)) (.int 128)) (.int 128)))) (.bi .app (.un .one (.un (.wrap .u8) (.bi .add (.bi (.iop .rem .i64) (.bi (.iop .shr .i64) (.var 0) (.int 7)) (.int 128)) (.int 128)))) (.bi .app (.un .one (.un (.wrap .u8) (.bi (.iop .rem .i64) (.bi (.iop .shr .i64) (.var 0) (.int 0)) (.int 128)))) (.lits [])))), (.fn 3 (.bi .pair (.var 0) (.int 0))))]
theorem putR_y2 : endC putR [(1, 11)] 1000 (callC Try.prog (tellA putR_t2) [] [] [] 3000 40 47 putR) = some putR_d2 := by kernel_rfl
abbrev as25 : Q × Bool := ((.fit .i64 (.bi .add (.bi (.iop .rem .i64) (.bi (.iop .shr .i64) (.var 0) (.int 21)) (.int 128)) (.int 128))), true)
def putR_t3 : List (Q × Bool) := [as9, as10, as15, as17, as19, as20, as25, as24, as23]
def putR_d3 : List Duty := [(true, (.int 4), (.fn 1 (.bi .pair (.var 0) (.int 0)))), (true, (.int 4), (.fn 1 (.bi .pair (.var 0) (.int 0)))), (true, (.int 4), (.fn 1 (.bi .pair (.var 0) (.int 0)))), (false, (.bi .app (.un .one (.un (.wrap .u8) (.bi .add (.bi (.iop .rem .i64) (.bi (.iop .shr .i64) (.var 0) (.int 21)) (.int 128)) (.int 128)))) (.bi .app (.un .one (.un (.wrap .u8) (.bi .add (.bi (.iop .rem .i64) (.bi (.iop .shr .i64) (.var 0) (.int 14)) (.int 128)) (.int 128)))) (.bi .app (.un .one (.un (.wrap .u8) (.bi .add (.bi (.iop .rem .i64) (.bi (.iop .shr .i64) (.var 0) (.int 7)) (.int 128)) (.int 128)))) (.bi .app (.un .one (.un (.wrap .u8) (.bi (.iop .rem .i64) (.bi (.iop .shr .i64) (.var 0) (.int 0)) (.int 128)))) (.lits []))))), (.fn 3 (.bi .pair (.var 0) (.int 0))))]
theorem putR_y3 : endC putR [(1, 15)] 1000 (callC Try.prog (tellA putR_t3) [] [] [] 3000 40 47 putR) = some putR_d3 := by kernel_rfl
abbrev as26 : Q × Bool := ((.fit .i64 (.bi .add (.bi (.iop .rem .i64) (.bi (.iop .shr .i64) (.var 0) (.int 28)) (.int 128)) (.int 128))), true)
def putR_t4 : List (Q × Bool) := [as9, as10, as15, as17, as19, as21, as22, as26, as25, as24, as23]
def putR_d4 : List Duty := [(true, (.int 5), (.fn 1 (.bi .pair (.var 0) (.int 0)))), (true, (.int 5), (.fn 1 (.bi .pair (.var 0) (.int 0)))), (true, (.int 5), (.fn 1 (.bi .pair (.var 0) (.int 0)))), (false, (.bi .app (.un .one (.un (.wrap .u8) (.bi .add (.bi (.iop .rem .i64) (.bi (.iop .shr .i64) (.var 0) (.int 28)) (.int 128)) (.int 128)))) (.bi .app (.un .one (.un (.wrap .u8) (.bi .add (.bi (.iop .rem .i64) (.bi (.iop .shr .i64) (.var 0) (.int 21)) (.int 128)) (.int 128)))) (.bi .app (.un .one (.un (.wrap .u8) (.bi .add (.bi (.iop .rem .i64) (.bi (.iop .shr .i64) (.var 0) (.int 14)) (.int 128)) (.int 128)))) (.bi .app (.un .one (.un (.wrap .u8) (.bi .add (.bi (.iop .rem .i64) (.bi (.iop .shr .i64) (.var 0) (.int 7)) (.int 128)) (.int 128)))) (.bi .app (.un .one (.un (.wrap .u8) (.bi (.iop .rem .i64) (.bi (.iop .shr .i64) (.var 0) (.int 0)) (.int 128)))) (.lits [])))))), (.fn 3 (.bi .pair (.var 0) (.int 0))))]
theorem putR_y4 : endC putR [(1, 19)] 1000 (callC Try.prog (tellA putR_t4) [] [] [] 3000 40 47 putR) = some putR_d4 := by kernel_rfl
theorem putR_holds : CHolds Try.prog 47 putR F := by
  refine cholds_of sound (tableNil _ _) (specsNil _ _) (oversNil _ _) (fuel := 3000) (depth := 40) (by kernel_rfl) fun d hp hR hA => ?_
  have hp := allTold'_iff.2 hp
  simp only [putR, allTold', dutiesTold, factsA, factsC, factsP, factsR, AV.facts, RW.facts, inK, and_true, Q.holds', E.i, E.s, E.n, D.nat, E.den, BO.den, UO.den, TO.den, D.toInt_int, D.toList_list, D.ints_ofInts, i64min, i64max, u8min, u8max, u16min, u16max, u32min, u32max, u64min, u64max, i32min, i32max, Om.sub, selI, ints_app, ints_cut, ints_upd, ints_rep, ints_splice, ints_seg, len_ints] at hp hR hA
  rcases five (n := (d 0).toInt) (by omega) (by omega) with c | c | c | c | c
  · have h0 : iopI .shr .i64 (d 0).toInt 0 = (d 0).toInt := by
      have e := shr_ediv (d 0).toInt 0 (by omega)
      rw [show ((0 : Nat) : Int) = 0 from rfl, show (2 : Int) ^ 0 = 1 by decide] at e
      rw [e]
      try omega
    have r0 : iopI .rem .i64 ((d 0).toInt) 128 = ((d 0).toInt) % 128 := rem_emod _ (by omega)
    have w0 : IntKind.u8.wrap (((d 0).toInt) % 128) = ((d 0).toInt) % 128 := w8 (by omega) (by omega)
    have s : szI (d 0).toInt = 1 := by unfold szI; simp [c]
    have p := put1 (n := (d 0).toInt) (by omega) (by omega)
    have q0 : iopI .quo .i64 ((d 0).toInt) 128 = (d 0).toInt / 128 := quo_ediv (by omega) (by omega) (by omega)
    refine ⟨tellA putR_t0, _, _, _, tellA_ok (allTold'_iff.1 ?_), putR_y0, dutiesTold_ok ?_⟩
    · simp only [putR_t0, q0, h0, r0, w0, allTold', dutiesTold, factsA, factsC, factsP, factsR, AV.facts, RW.facts, inK, and_true, Q.holds', E.i, E.s, E.n, D.nat, E.den, BO.den, UO.den, TO.den, D.toInt_int, D.toList_list, D.ints_ofInts, i64min, i64max, u8min, u8max, u16min, u16max, u32min, u32max, u64min, u64max, i32min, i32max, Om.sub, selI, ints_app, ints_cut, ints_upd, ints_rep, ints_splice, ints_seg, len_ints]
      omega
    · simp only [putR_d0, F1, F3, allTold', dutiesTold, factsA, factsC, factsP, factsR, AV.facts, RW.facts, inK, and_true, Q.holds', E.i, E.s, E.n, D.nat, E.den, BO.den, UO.den, TO.den, D.toInt_int, D.toList_list, D.ints_ofInts, i64min, i64max, u8min, u8max, u16min, u16max, u32min, u32max, u64min, u64max, i32min, i32max, Om.sub, selI, ints_app, ints_cut, ints_upd, ints_rep, ints_splice, ints_seg, len_ints]
      simp only [h0, r0, w0, s, p]
      and_intros <;> first | rfl | omega | (simp [ints_list]; first | done | omega | exact ⟨by omega, rfl⟩)
  · have h0 : iopI .shr .i64 (d 0).toInt 0 = (d 0).toInt := by
      have e := shr_ediv (d 0).toInt 0 (by omega)
      rw [show ((0 : Nat) : Int) = 0 from rfl, show (2 : Int) ^ 0 = 1 by decide] at e
      rw [e]
      try omega
    have r0 : iopI .rem .i64 ((d 0).toInt) 128 = ((d 0).toInt) % 128 := rem_emod _ (by omega)
    have w0 : IntKind.u8.wrap (((d 0).toInt) % 128) = ((d 0).toInt) % 128 := w8 (by omega) (by omega)
    have h1 : iopI .shr .i64 (d 0).toInt 7 = (d 0).toInt / 128 := by
      have e := shr_ediv (d 0).toInt 7 (by omega)
      rw [show ((7 : Nat) : Int) = 7 from rfl, show (2 : Int) ^ 7 = 128 by decide] at e
      rw [e]
      try omega
    have r1 : iopI .rem .i64 ((d 0).toInt / 128) 128 = ((d 0).toInt / 128) % 128 := rem_emod _ (by omega)
    have w1 : IntKind.u8.wrap (((d 0).toInt / 128) % 128 + 128) = ((d 0).toInt / 128) % 128 + 128 := w8 (by omega) (by omega)
    have s : szI (d 0).toInt = 2 := by unfold szI; repeat first | rw [if_neg (by omega)] | rw [if_pos (by omega)]
    have p := put2 (n := (d 0).toInt) (by omega) (by omega)
    have q0 : iopI .quo .i64 ((d 0).toInt) 128 = (d 0).toInt / 128 := quo_ediv (by omega) (by omega) (by omega)
    have q1 : iopI .quo .i64 ((d 0).toInt / 128) 128 = (d 0).toInt / 128 / 128 := quo_ediv (by omega) (by omega) (by omega)
    refine ⟨tellA putR_t1, _, _, _, tellA_ok (allTold'_iff.1 ?_), putR_y1, dutiesTold_ok ?_⟩
    · simp only [putR_t1, q0, q1, h0, r0, w0, h1, r1, w1, allTold', dutiesTold, factsA, factsC, factsP, factsR, AV.facts, RW.facts, inK, and_true, Q.holds', E.i, E.s, E.n, D.nat, E.den, BO.den, UO.den, TO.den, D.toInt_int, D.toList_list, D.ints_ofInts, i64min, i64max, u8min, u8max, u16min, u16max, u32min, u32max, u64min, u64max, i32min, i32max, Om.sub, selI, ints_app, ints_cut, ints_upd, ints_rep, ints_splice, ints_seg, len_ints]
      omega
    · simp only [putR_d1, F1, F3, allTold', dutiesTold, factsA, factsC, factsP, factsR, AV.facts, RW.facts, inK, and_true, Q.holds', E.i, E.s, E.n, D.nat, E.den, BO.den, UO.den, TO.den, D.toInt_int, D.toList_list, D.ints_ofInts, i64min, i64max, u8min, u8max, u16min, u16max, u32min, u32max, u64min, u64max, i32min, i32max, Om.sub, selI, ints_app, ints_cut, ints_upd, ints_rep, ints_splice, ints_seg, len_ints]
      simp only [h0, r0, w0, h1, r1, w1, s, p]
      and_intros <;> first | rfl | omega | (simp [ints_list]; first | done | omega | exact ⟨by omega, rfl⟩)
  · have h0 : iopI .shr .i64 (d 0).toInt 0 = (d 0).toInt := by
      have e := shr_ediv (d 0).toInt 0 (by omega)
      rw [show ((0 : Nat) : Int) = 0 from rfl, show (2 : Int) ^ 0 = 1 by decide] at e
      rw [e]
      try omega
    have r0 : iopI .rem .i64 ((d 0).toInt) 128 = ((d 0).toInt) % 128 := rem_emod _ (by omega)
    have w0 : IntKind.u8.wrap (((d 0).toInt) % 128) = ((d 0).toInt) % 128 := w8 (by omega) (by omega)
    have h1 : iopI .shr .i64 (d 0).toInt 7 = (d 0).toInt / 128 := by
      have e := shr_ediv (d 0).toInt 7 (by omega)
      rw [show ((7 : Nat) : Int) = 7 from rfl, show (2 : Int) ^ 7 = 128 by decide] at e
      rw [e]
      try omega
    have r1 : iopI .rem .i64 ((d 0).toInt / 128) 128 = ((d 0).toInt / 128) % 128 := rem_emod _ (by omega)
    have w1 : IntKind.u8.wrap (((d 0).toInt / 128) % 128 + 128) = ((d 0).toInt / 128) % 128 + 128 := w8 (by omega) (by omega)
    have h2 : iopI .shr .i64 (d 0).toInt 14 = (d 0).toInt / 128 / 128 := by
      have e := shr_ediv (d 0).toInt 14 (by omega)
      rw [show ((14 : Nat) : Int) = 14 from rfl, show (2 : Int) ^ 14 = 16384 by decide] at e
      rw [e]
      try omega
    have r2 : iopI .rem .i64 ((d 0).toInt / 128 / 128) 128 = ((d 0).toInt / 128 / 128) % 128 := rem_emod _ (by omega)
    have w2 : IntKind.u8.wrap (((d 0).toInt / 128 / 128) % 128 + 128) = ((d 0).toInt / 128 / 128) % 128 + 128 := w8 (by omega) (by omega)
    have s : szI (d 0).toInt = 3 := by unfold szI; repeat first | rw [if_neg (by omega)] | rw [if_pos (by omega)]
    have p := put3 (n := (d 0).toInt) (by omega) (by omega)
    have q0 : iopI .quo .i64 ((d 0).toInt) 128 = (d 0).toInt / 128 := quo_ediv (by omega) (by omega) (by omega)
    have q1 : iopI .quo .i64 ((d 0).toInt / 128) 128 = (d 0).toInt / 128 / 128 := quo_ediv (by omega) (by omega) (by omega)
    have q2 : iopI .quo .i64 ((d 0).toInt / 128 / 128) 128 = (d 0).toInt / 128 / 128 / 128 := quo_ediv (by omega) (by omega) (by omega)
    refine ⟨tellA putR_t2, _, _, _, tellA_ok (allTold'_iff.1 ?_), putR_y2, dutiesTold_ok ?_⟩
    · simp only [putR_t2, q0, q1, q2, h0, r0, w0, h1, r1, w1, h2, r2, w2, allTold', dutiesTold, factsA, factsC, factsP, factsR, AV.facts, RW.facts, inK, and_true, Q.holds', E.i, E.s, E.n, D.nat, E.den, BO.den, UO.den, TO.den, D.toInt_int, D.toList_list, D.ints_ofInts, i64min, i64max, u8min, u8max, u16min, u16max, u32min, u32max, u64min, u64max, i32min, i32max, Om.sub, selI, ints_app, ints_cut, ints_upd, ints_rep, ints_splice, ints_seg, len_ints]
      omega
    · simp only [putR_d2, F1, F3, allTold', dutiesTold, factsA, factsC, factsP, factsR, AV.facts, RW.facts, inK, and_true, Q.holds', E.i, E.s, E.n, D.nat, E.den, BO.den, UO.den, TO.den, D.toInt_int, D.toList_list, D.ints_ofInts, i64min, i64max, u8min, u8max, u16min, u16max, u32min, u32max, u64min, u64max, i32min, i32max, Om.sub, selI, ints_app, ints_cut, ints_upd, ints_rep, ints_splice, ints_seg, len_ints]
      simp only [h0, r0, w0, h1, r1, w1, h2, r2, w2, s, p]
      and_intros <;> first | rfl | omega | (simp [ints_list]; first | done | omega | exact ⟨by omega, rfl⟩)
  · have h0 : iopI .shr .i64 (d 0).toInt 0 = (d 0).toInt := by
      have e := shr_ediv (d 0).toInt 0 (by omega)
      rw [show ((0 : Nat) : Int) = 0 from rfl, show (2 : Int) ^ 0 = 1 by decide] at e
      rw [e]
      try omega
    have r0 : iopI .rem .i64 ((d 0).toInt) 128 = ((d 0).toInt) % 128 := rem_emod _ (by omega)
    have w0 : IntKind.u8.wrap (((d 0).toInt) % 128) = ((d 0).toInt) % 128 := w8 (by omega) (by omega)
    have h1 : iopI .shr .i64 (d 0).toInt 7 = (d 0).toInt / 128 := by
      have e := shr_ediv (d 0).toInt 7 (by omega)
      rw [show ((7 : Nat) : Int) = 7 from rfl, show (2 : Int) ^ 7 = 128 by decide] at e
      rw [e]
      try omega
    have r1 : iopI .rem .i64 ((d 0).toInt / 128) 128 = ((d 0).toInt / 128) % 128 := rem_emod _ (by omega)
    have w1 : IntKind.u8.wrap (((d 0).toInt / 128) % 128 + 128) = ((d 0).toInt / 128) % 128 + 128 := w8 (by omega) (by omega)
    have h2 : iopI .shr .i64 (d 0).toInt 14 = (d 0).toInt / 128 / 128 := by
      have e := shr_ediv (d 0).toInt 14 (by omega)
      rw [show ((14 : Nat) : Int) = 14 from rfl, show (2 : Int) ^ 14 = 16384 by decide] at e
      rw [e]
      try omega
    have r2 : iopI .rem .i64 ((d 0).toInt / 128 / 128) 128 = ((d 0).toInt / 128 / 128) % 128 := rem_emod _ (by omega)
    have w2 : IntKind.u8.wrap (((d 0).toInt / 128 / 128) % 128 + 128) = ((d 0).toInt / 128 / 128) % 128 + 128 := w8 (by omega) (by omega)
    have h3 : iopI .shr .i64 (d 0).toInt 21 = (d 0).toInt / 128 / 128 / 128 := by
      have e := shr_ediv (d 0).toInt 21 (by omega)
      rw [show ((21 : Nat) : Int) = 21 from rfl, show (2 : Int) ^ 21 = 2097152 by decide] at e
      rw [e]
      try omega
    have r3 : iopI .rem .i64 ((d 0).toInt / 128 / 128 / 128) 128 = ((d 0).toInt / 128 / 128 / 128) % 128 := rem_emod _ (by omega)
    have w3 : IntKind.u8.wrap (((d 0).toInt / 128 / 128 / 128) % 128 + 128) = ((d 0).toInt / 128 / 128 / 128) % 128 + 128 := w8 (by omega) (by omega)
    have s : szI (d 0).toInt = 4 := by unfold szI; repeat first | rw [if_neg (by omega)] | rw [if_pos (by omega)]
    have p := put4 (n := (d 0).toInt) (by omega) (by omega)
    have q0 : iopI .quo .i64 ((d 0).toInt) 128 = (d 0).toInt / 128 := quo_ediv (by omega) (by omega) (by omega)
    have q1 : iopI .quo .i64 ((d 0).toInt / 128) 128 = (d 0).toInt / 128 / 128 := quo_ediv (by omega) (by omega) (by omega)
    have q2 : iopI .quo .i64 ((d 0).toInt / 128 / 128) 128 = (d 0).toInt / 128 / 128 / 128 := quo_ediv (by omega) (by omega) (by omega)
    have q3 : iopI .quo .i64 ((d 0).toInt / 128 / 128 / 128) 128 = (d 0).toInt / 128 / 128 / 128 / 128 := quo_ediv (by omega) (by omega) (by omega)
    refine ⟨tellA putR_t3, _, _, _, tellA_ok (allTold'_iff.1 ?_), putR_y3, dutiesTold_ok ?_⟩
    · simp only [putR_t3, q0, q1, q2, q3, h0, r0, w0, h1, r1, w1, h2, r2, w2, h3, r3, w3, allTold', dutiesTold, factsA, factsC, factsP, factsR, AV.facts, RW.facts, inK, and_true, Q.holds', E.i, E.s, E.n, D.nat, E.den, BO.den, UO.den, TO.den, D.toInt_int, D.toList_list, D.ints_ofInts, i64min, i64max, u8min, u8max, u16min, u16max, u32min, u32max, u64min, u64max, i32min, i32max, Om.sub, selI, ints_app, ints_cut, ints_upd, ints_rep, ints_splice, ints_seg, len_ints]
      omega
    · simp only [putR_d3, F1, F3, allTold', dutiesTold, factsA, factsC, factsP, factsR, AV.facts, RW.facts, inK, and_true, Q.holds', E.i, E.s, E.n, D.nat, E.den, BO.den, UO.den, TO.den, D.toInt_int, D.toList_list, D.ints_ofInts, i64min, i64max, u8min, u8max, u16min, u16max, u32min, u32max, u64min, u64max, i32min, i32max, Om.sub, selI, ints_app, ints_cut, ints_upd, ints_rep, ints_splice, ints_seg, len_ints]
      simp only [h0, r0, w0, h1, r1, w1, h2, r2, w2, h3, r3, w3, s, p]
      and_intros <;> first | rfl | omega | (simp [ints_list]; first | done | omega | exact ⟨by omega, rfl⟩)
  · have h0 : iopI .shr .i64 (d 0).toInt 0 = (d 0).toInt := by
      have e := shr_ediv (d 0).toInt 0 (by omega)
      rw [show ((0 : Nat) : Int) = 0 from rfl, show (2 : Int) ^ 0 = 1 by decide] at e
      rw [e]
      try omega
    have r0 : iopI .rem .i64 ((d 0).toInt) 128 = ((d 0).toInt) % 128 := rem_emod _ (by omega)
    have w0 : IntKind.u8.wrap (((d 0).toInt) % 128) = ((d 0).toInt) % 128 := w8 (by omega) (by omega)
    have h1 : iopI .shr .i64 (d 0).toInt 7 = (d 0).toInt / 128 := by
      have e := shr_ediv (d 0).toInt 7 (by omega)
      rw [show ((7 : Nat) : Int) = 7 from rfl, show (2 : Int) ^ 7 = 128 by decide] at e
      rw [e]
      try omega
    have r1 : iopI .rem .i64 ((d 0).toInt / 128) 128 = ((d 0).toInt / 128) % 128 := rem_emod _ (by omega)
    have w1 : IntKind.u8.wrap (((d 0).toInt / 128) % 128 + 128) = ((d 0).toInt / 128) % 128 + 128 := w8 (by omega) (by omega)
    have h2 : iopI .shr .i64 (d 0).toInt 14 = (d 0).toInt / 128 / 128 := by
      have e := shr_ediv (d 0).toInt 14 (by omega)
      rw [show ((14 : Nat) : Int) = 14 from rfl, show (2 : Int) ^ 14 = 16384 by decide] at e
      rw [e]
      try omega
    have r2 : iopI .rem .i64 ((d 0).toInt / 128 / 128) 128 = ((d 0).toInt / 128 / 128) % 128 := rem_emod _ (by omega)
    have w2 : IntKind.u8.wrap (((d 0).toInt / 128 / 128) % 128 + 128) = ((d 0).toInt / 128 / 128) % 128 + 128 := w8 (by omega) (by omega)
    have h3 : iopI .shr .i64 (d 0).toInt 21 = (d 0).toInt / 128 / 128 / 128 := by
      have e := shr_ediv (d 0).toInt 21 (by omega)
      rw [show ((21 : Nat) : Int) = 21 from rfl, show (2 : Int) ^ 21 = 2097152 by decide] at e
      rw [e]
      try omega
    have r3 : iopI .rem .i64 ((d 0).toInt / 128 / 128 / 128) 128 = ((d 0).toInt / 128 / 128 / 128) % 128 := rem_emod _ (by omega)
    have w3 : IntKind.u8.wrap (((d 0).toInt / 128 / 128 / 128) % 128 + 128) = ((d 0).toInt / 128 / 128 / 128) % 128 + 128 := w8 (by omega) (by omega)
    have h4 : iopI .shr .i64 (d 0).toInt 28 = (d 0).toInt / 128 / 128 / 128 / 128 := by
      have e := shr_ediv (d 0).toInt 28 (by omega)
      rw [show ((28 : Nat) : Int) = 28 from rfl, show (2 : Int) ^ 28 = 268435456 by decide] at e
      rw [e]
      try omega
    have r4 : iopI .rem .i64 ((d 0).toInt / 128 / 128 / 128 / 128) 128 = ((d 0).toInt / 128 / 128 / 128 / 128) % 128 := rem_emod _ (by omega)
    have w4 : IntKind.u8.wrap (((d 0).toInt / 128 / 128 / 128 / 128) % 128 + 128) = ((d 0).toInt / 128 / 128 / 128 / 128) % 128 + 128 := w8 (by omega) (by omega)
    have s : szI (d 0).toInt = 5 := by unfold szI; repeat first | rw [if_neg (by omega)] | rw [if_pos (by omega)]
    have p := put5 (n := (d 0).toInt) (by omega) (by omega)
    have q0 : iopI .quo .i64 ((d 0).toInt) 128 = (d 0).toInt / 128 := quo_ediv (by omega) (by omega) (by omega)
    have q1 : iopI .quo .i64 ((d 0).toInt / 128) 128 = (d 0).toInt / 128 / 128 := quo_ediv (by omega) (by omega) (by omega)
    have q2 : iopI .quo .i64 ((d 0).toInt / 128 / 128) 128 = (d 0).toInt / 128 / 128 / 128 := quo_ediv (by omega) (by omega) (by omega)
    have q3 : iopI .quo .i64 ((d 0).toInt / 128 / 128 / 128) 128 = (d 0).toInt / 128 / 128 / 128 / 128 := quo_ediv (by omega) (by omega) (by omega)
    have q4 : iopI .quo .i64 ((d 0).toInt / 128 / 128 / 128 / 128) 128 = (d 0).toInt / 128 / 128 / 128 / 128 / 128 := quo_ediv (by omega) (by omega) (by omega)
    refine ⟨tellA putR_t4, _, _, _, tellA_ok (allTold'_iff.1 ?_), putR_y4, dutiesTold_ok ?_⟩
    · simp only [putR_t4, q0, q1, q2, q3, q4, h0, r0, w0, h1, r1, w1, h2, r2, w2, h3, r3, w3, h4, r4, w4, allTold', dutiesTold, factsA, factsC, factsP, factsR, AV.facts, RW.facts, inK, and_true, Q.holds', E.i, E.s, E.n, D.nat, E.den, BO.den, UO.den, TO.den, D.toInt_int, D.toList_list, D.ints_ofInts, i64min, i64max, u8min, u8max, u16min, u16max, u32min, u32max, u64min, u64max, i32min, i32max, Om.sub, selI, ints_app, ints_cut, ints_upd, ints_rep, ints_splice, ints_seg, len_ints]
      omega
    · simp only [putR_d4, F1, F3, allTold', dutiesTold, factsA, factsC, factsP, factsR, AV.facts, RW.facts, inK, and_true, Q.holds', E.i, E.s, E.n, D.nat, E.den, BO.den, UO.den, TO.den, D.toInt_int, D.toList_list, D.ints_ofInts, i64min, i64max, u8min, u8max, u16min, u16max, u32min, u32max, u64min, u64max, i32min, i32max, Om.sub, selI, ints_app, ints_cut, ints_upd, ints_rep, ints_splice, ints_seg, len_ints]
      simp only [h0, r0, w0, h1, r1, w1, h2, r2, w2, h3, r3, w3, h4, r4, w4, s, p]
      and_intros <;> first | rfl | omega | (simp [ints_list]; first | done | omega | exact ⟨by omega, rfl⟩)

def putBad : CSpec := { args := [.sint .i64 (.var 0)], next := 0, rows := [], pre := [(.eq (.fn 40 (.bi .pair (.var 0) (.int 0))) (.int 0), true)], res := .nilslice, frows := [], same := [] }
abbrev as27 : Q × Bool := ((.fit .i64 (.bi .add (.fn 40 (.bi .pair (.var 0) (.int 0))) (.int (-1)))), true)
abbrev as28 : Q × Bool := ((.le (.int 0) (.bi .add (.fn 40 (.bi .pair (.var 0) (.int 0))) (.int (-1)))), false)
def putBad_t0 : List (Q × Bool) := [as27, as28]
def putBad_d0 : List Duty := []
theorem putBad_y0 : endC putBad [] 1000 (callC Try.prog (tellA putBad_t0) [] [(23, sizeR)] [] 3000 40 47 putBad) = some putBad_d0 := by kernel_rfl
theorem putBad_holds : CHolds Try.prog 47 putBad F := by
  refine cholds_of sound (tableNil _ _) (specsCons sizeR_holds (specsNil _ _)) (oversNil _ _) (fuel := 3000) (depth := 40) (by kernel_rfl) fun d hp hR hA => ?_
  have hp := allTold'_iff.2 hp
  simp only [putBad, allTold', dutiesTold, factsA, factsC, factsP, factsR, AV.facts, RW.facts, inK, and_true, Q.holds', E.i, E.s, E.n, D.nat, E.den, BO.den, UO.den, TO.den, D.toInt_int, D.toList_list, D.ints_ofInts, i64min, i64max, u8min, u8max, u16min, u16max, u32min, u32max, u64min, u64max, i32min, i32max, Om.sub, selI, ints_app, ints_cut, ints_upd, ints_rep, ints_splice, ints_seg, len_ints] at hp hR hA
  simp only [F40, allTold', dutiesTold, factsA, factsC, factsP, factsR, AV.facts, RW.facts, inK, and_true, Q.holds', E.i, E.s, E.n, D.nat, E.den, BO.den, UO.den, TO.den, D.toInt_int, D.toList_list, D.ints_ofInts, i64min, i64max, u8min, u8max, u16min, u16max, u32min, u32max, u64min, u64max, i32min, i32max, Om.sub, selI, ints_app, ints_cut, ints_upd, ints_rep, ints_splice, ints_seg, len_ints] at hp
  refine ⟨tellA putBad_t0, _, _, _, tellA_ok (allTold'_iff.1 ?_), putBad_y0, dutiesTold_ok ?_⟩
  · simp only [putBad_t0, F40, allTold', dutiesTold, factsA, factsC, factsP, factsR, AV.facts, RW.facts, inK, and_true, Q.holds', E.i, E.s, E.n, D.nat, E.den, BO.den, UO.den, TO.den, D.toInt_int, D.toList_list, D.ints_ofInts, i64min, i64max, u8min, u8max, u16min, u16max, u32min, u32max, u64min, u64max, i32min, i32max, Om.sub, selI, ints_app, ints_cut, ints_upd, ints_rep, ints_splice, ints_seg, len_ints]
    rw [hp]
    omega
  · simp only [putBad_d0, allTold', dutiesTold, factsA, factsC, factsP, factsR, AV.facts, RW.facts, inK, and_true, Q.holds', E.i, E.s, E.n, D.nat, E.den, BO.den, UO.den, TO.den, D.toInt_int, D.toList_list, D.ints_ofInts, i64min, i64max, u8min, u8max, u16min, u16max, u32min, u32max, u64min, u64max, i32min, i32max, Om.sub, selI, ints_app, ints_cut, ints_upd, ints_rep, ints_splice, ints_seg, len_ints]

def tabB : List LEntry := []
def specsB : List (FuncId × CSpec) := [(46, partsC)]
def oversB : Overs := []
theorem tabB_ok : TableOK Try.prog tabB F := tableNil _ _
theorem specsB_ok : SpecsOK Try.prog specsB F := specsCons partsC_holds (specsNil _ _)
theorem oversB_ok : OversOK Try.prog oversB F := oversNil _ _
end Go.Proofs.Ytoglpfjcdeaggaa.Wa
