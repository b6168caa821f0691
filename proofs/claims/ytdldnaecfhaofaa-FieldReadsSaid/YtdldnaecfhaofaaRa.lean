/-
  Contracts of this seat: what loops and calls leave, for all inputs. No condition.
-/
import Derived.Test.YtdldnaecfhaofaaSycp
import Derived.Test.YtdldnaecfhaofaaCo
set_option linter.unusedSimpArgs false
set_option linter.unusedVariables false
namespace Go.Proofs.Ytdldnaecfhaofaa.Ra
open Go.RowKit Go.Ev Go.Proofs.Ytdldnaecfhaofaa.Co

def putN : Nat → Int → List Int → List Int
  | 0, _, acc => acc
  | f + 1, q, acc => if q = 0 then acc else putN f (q / 128) ((q % 128 + 128) :: acc)
/-- A number as bytes. -/
def putL (n : Int) : List Int := putN 4 (n / 128) [n % 128]
def szI (n : Int) : Int := if n < 128 then 1 else if n < 16384 then 2 else if n < 2097152 then 3 else if n < 268435456 then 4 else 5
/-- 0: a number, which, of how many bytes; 1: cut short; 2: begun by a nought; 3: too great. -/
def goL : Nat → Int → List Int → Int × Int × Int
  | _, _, [] => (1, 0, 0)
  | k, n, c :: l => if c < 128 then (if n * 128 + c ≤ 2147483647 then (0, n * 128 + c, 1) else (3, 0, 0)) else
    match k with
    | 0 => (3, 0, 0)
    | k + 1 => ((goL k (n * 128 + (c - 128)) l).1, (goL k (n * 128 + (c - 128)) l).2.1, (goL k (n * 128 + (c - 128)) l).2.2 + 1)
abbrev txRa0 : E := (.bi .sub (.var 2) (.bi .add (.var 5) (.int 1)))
abbrev txRa1 : E := (.bi .sel (.var 4) (.bi .add (.var 5) (.int 1)))
abbrev txRa2 : E := (.bi .sub (.var 2) (.bi .add (.var 5) (.int 2)))
abbrev txRa3 : E := (.bi .sel (.var 4) (.bi .add (.var 5) (.int 2)))
abbrev txRa4 : E := (.bi .sub (.var 2) (.bi .add (.var 5) (.int 3)))
abbrev txRa5 : E := (.bi .sel (.var 4) (.bi .add (.var 5) (.int 3)))
abbrev txRa6 : E := (.bi .sub (.var 2) (.bi .add (.var 5) (.int 4)))
abbrev txRa7 : E := (.bi .sel (.var 4) (.bi .add (.var 5) (.int 4)))
abbrev txRa8 : E := (.bi .pair (.var 5) (.bi .pair (.var 2) (.int 0)))
abbrev txRa9 : E := (.bi .pair (.var 8) (.bi .pair (.int 5) (.int 0)))
abbrev txRa10 : E := (.bi .pair (.var 7) (.bi .pair (.int 3) (.int 0)))
abbrev txRa11 : E := (.bi .pair (.var 10) (.bi .pair (.var 7) (.int 0)))
abbrev txRa12 : E := (.bi .pair (.var 9) (.bi .pair (.var 10) (.int 0)))
abbrev txRa13 : E := (.bi (.iop .rem .u8) (.bi .sel (.var 4) (.var 5)) (.int 128))
abbrev txRa14 : E := (.bi .pair (.var 10) (.bi .pair (.var 7) txRa9))
abbrev txRa15 : E := (.bi .pair (.var 10) (.bi .pair (.int 0) txRa10))
abbrev txRa16 : E := (.bi .pair (.var 2) (.bi .pair (.var 9) txRa11))
abbrev txRa17 : E := (.bi .pair (.var 5) (.bi .pair (.var 2) txRa12))
abbrev txRa18 : E := (.bi .add (.var 5) (.fn 22 (.bi .pair (.var 4) txRa8)))
abbrev txRa19 : E := (.bi .pair (.var 2) (.bi .pair (.var 9) txRa14))
abbrev txRa20 : E := (.bi .pair (.var 2) (.bi .pair (.var 9) txRa15))
abbrev txRa21 : E := (.bi .pair (.var 4) (.bi .pair (.var 5) txRa16))
abbrev txRa22 : E := (.bi .sel (.fn 60 (.bi .pair (.var 4) txRa17)) (.int 0))
abbrev txRa23 : E := (.bi .sel (.fn 60 (.bi .pair (.var 4) txRa17)) (.int 1))
abbrev txRa24 : E := (.bi .sel (.fn 60 (.bi .pair (.var 4) txRa17)) (.int 2))
abbrev txRa25 : E := (.bi .sel (.fn 60 (.bi .pair (.var 4) txRa17)) (.int 3))
abbrev txRa26 : E := (.bi .sel (.fn 60 (.bi .pair (.var 4) txRa17)) (.int 4))
abbrev txRa27 : E := (.bi .sel (.fn 60 (.bi .pair (.var 4) txRa17)) (.int 5))
abbrev txRa28 : E := (.bi .sel (.fn 60 (.bi .pair (.var 4) txRa17)) (.int 6))
abbrev txRa29 : E := (.bi .sel (.fn 60 (.bi .pair (.var 4) txRa17)) (.int 7))
abbrev txRa30 : E := (.bi .sel (.fn 60 (.bi .pair (.var 4) txRa17)) (.int 8))
abbrev txRa31 : E := (.bi .sel (.fn 60 (.bi .pair (.var 4) txRa17)) (.int 9))
abbrev txRa32 : E := (.bi .sel (.fn 60 (.bi .pair (.var 4) txRa17)) (.int 10))
abbrev txRa33 : E := (.bi .sel (.fn 60 (.bi .pair (.var 4) txRa17)) (.int 11))
abbrev txRa34 : E := (.bi .sel (.fn 60 (.bi .pair (.var 4) txRa17)) (.int 12))
abbrev txRa35 : E := (.bi .sel (.fn 60 (.bi .pair (.var 4) txRa17)) (.int 13))
abbrev txRa36 : E := (.bi .sel (.fn 60 (.bi .pair (.var 4) txRa17)) (.int 14))
abbrev txRa37 : E := (.bi .sel (.fn 60 (.bi .pair (.var 4) txRa17)) (.int 15))
abbrev txRa38 : E := (.bi .pair (.var 4) (.bi .pair (.var 5) txRa19))
abbrev txRa39 : E := (.bi .pair (.var 4) (.bi .pair (.var 5) txRa20))
abbrev txRa40 : E := (.bi .add txRa18 (.fn 21 (.bi .pair (.var 4) txRa8)))
abbrev txRa41 : E := (.bi (.iop .or .u64) (.bi (.iop .shl .u64) txRa13 (.int 7)) (.bi (.iop .rem .u8) txRa1 (.int 128)))
abbrev txRa42 : E := (.bi (.iop .or .u64) (.bi (.iop .shl .u64) txRa41 (.int 7)) (.bi (.iop .rem .u8) txRa3 (.int 128)))
abbrev txRa43 : E := (.bi (.iop .or .u64) (.bi (.iop .shl .u64) txRa42 (.int 7)) (.bi (.iop .rem .u8) txRa5 (.int 128)))
abbrev txRa44 : E := (.bi (.iop .or .u64) (.bi (.iop .shl .u64) txRa43 (.int 7)) (.bi (.iop .rem .u8) txRa7 (.int 128)))
def numL : List Int → Int × Int × Int
  | [] => (1, 0, 0)
  | c :: l => if c = 128 then (2, 0, 0) else goL 4 0 (c :: l)
def errI (c : Int) : Int := if c = 3 then 5 else 4
def atI (c a t : Int) : Int := if c = 1 then t else a

def fiveI (n : Int) : List Int := List.replicate (5 - szI n).toNat 0 ++ putL n
def markI (i : Int) : Int := 160 + i % 90
def lentI (l : List Int) : List Int := l ++ [markI l.length, markI (l.length + 1), markI (l.length + 2)]
/-- The lengths of the fourth fields, all together. -/
def lensI : List D → Int
  | [] => 0
  | x :: l => ((x.toList[3]?.getD (D.int 0)).toList.length : Int) + lensI l
/-- A number that is read: the number, where the reader stands then, its fault. -/
def rdS (x : List Int) (a t e f lo hi ab : Int) : Int × Int × Int × Int :=
  if e = 0 then
    if (numL (prt x a t)).1 = 0 then
      if hi < (numL (prt x a t)).2.1 then (0, a, ab, a)
      else if (numL (prt x a t)).2.1 < lo then (0, a, 5, a)
      else ((numL (prt x a t)).2.1, a + (numL (prt x a t)).2.2, e, f)
    else (0, a, errI (numL (prt x a t)).1, atI (numL (prt x a t)).1 a t)
  else (0, a, e, f)
/-- Bytes that are read: how many, where the reader stands then, its fault. -/
def rdB (x : List Int) (a t e f mo : Int) : Int × Int × Int × Int :=
  if e = 0 then
    if (numL (prt x a t)).1 = 0 then
      if mo < (numL (prt x a t)).2.1 then (0, a, 3, a)
      else if t - (a + (numL (prt x a t)).2.2) < (numL (prt x a t)).2.1 then (0, a, 4, t)
      else ((numL (prt x a t)).2.1, a + (numL (prt x a t)).2.2 + (numL (prt x a t)).2.1, e, f)
    else (0, a, errI (numL (prt x a t)).1, atI (numL (prt x a t)).1 a t)
  else (0, a, e, f)
def rdI (x : List Int) (a t e f : Int) : List Int × Int × Int × Int :=
  if e = 0 then
    if t - a < 16 then (List.replicate 16 0, a, 4, t)
    else (List.drop a.toNat (List.take (a + 16).toNat x), a + 16, e, f)
  else (List.replicate 16 0, a, e, f)
def rdE (a t e f : Int) : Int × Int := if e = 0 then if a < t then (4, a) else (e, f) else (e, f)
/-- 40: how many bytes a number has, 0: it is none. 30: the lengths of what lies in records, from a place on. 1: how many bytes a number has. 2: its bytes, at the end of five. 3: its bytes. 7: Pick. 20, 21, 22: what stands at a place: how it is, which number, of how many bytes; 23, 24: the fault. -/
def F : Nat → D → D
  | 1 => fun a => .int (szI (argD a 0).toInt)
  | 2 => fun a => D.ofInts (fiveI (argD a 0).toInt)
  | 3 => fun a => D.ofInts (putL (argD a 0).toInt)
  | 7 => fun a => .int ((argD a 0).toInt % (argD a 1).toInt)
  | 20 => fun a => .int (numL (prt (argD a 0).ints (argD a 1).toInt (argD a 2).toInt)).1
  | 21 => fun a => .int (numL (prt (argD a 0).ints (argD a 1).toInt (argD a 2).toInt)).2.1
  | 22 => fun a => .int (numL (prt (argD a 0).ints (argD a 1).toInt (argD a 2).toInt)).2.2
  | 23 => fun a => .int (errI (numL (prt (argD a 0).ints (argD a 1).toInt (argD a 2).toInt)).1)
  | 24 => fun a => .int (atI (numL (prt (argD a 0).ints (argD a 1).toInt (argD a 2).toInt)).1 (argD a 1).toInt (argD a 2).toInt)
  | 40 => fun a => .int (if 0 ≤ (argD a 0).toInt ∧ (argD a 0).toInt ≤ 2147483647 then szI (argD a 0).toInt else 0)
  | 6 => fun a => D.ofInts (lentI (prt (argD a 0).ints (argD a 1).toInt (argD a 2).toInt))
  | 30 => fun a => .int (lensI (((argD a 0).toList.take 41).drop (argD a 1).toInt.toNat))
  | 50 => fun a => .int (rdS (argD a 0).ints (argD a 1).toInt (argD a 2).toInt (argD a 3).toInt (argD a 4).toInt (argD a 5).toInt (argD a 6).toInt (argD a 7).toInt).1
  | 51 => fun a => .int (rdS (argD a 0).ints (argD a 1).toInt (argD a 2).toInt (argD a 3).toInt (argD a 4).toInt (argD a 5).toInt (argD a 6).toInt (argD a 7).toInt).2.1
  | 52 => fun a => .int (rdS (argD a 0).ints (argD a 1).toInt (argD a 2).toInt (argD a 3).toInt (argD a 4).toInt (argD a 5).toInt (argD a 6).toInt (argD a 7).toInt).2.2.1
  | 53 => fun a => .int (rdS (argD a 0).ints (argD a 1).toInt (argD a 2).toInt (argD a 3).toInt (argD a 4).toInt (argD a 5).toInt (argD a 6).toInt (argD a 7).toInt).2.2.2
  | 54 => fun a => .int (rdB (argD a 0).ints (argD a 1).toInt (argD a 2).toInt (argD a 3).toInt (argD a 4).toInt (argD a 5).toInt).1
  | 55 => fun a => .int (rdB (argD a 0).ints (argD a 1).toInt (argD a 2).toInt (argD a 3).toInt (argD a 4).toInt (argD a 5).toInt).2.1
  | 56 => fun a => .int (rdB (argD a 0).ints (argD a 1).toInt (argD a 2).toInt (argD a 3).toInt (argD a 4).toInt (argD a 5).toInt).2.2.1
  | 57 => fun a => .int (rdB (argD a 0).ints (argD a 1).toInt (argD a 2).toInt (argD a 3).toInt (argD a 4).toInt (argD a 5).toInt).2.2.2
  | 58 => fun a => D.ofInts (List.drop ((rdB (argD a 0).ints (argD a 1).toInt (argD a 2).toInt (argD a 3).toInt (argD a 4).toInt (argD a 5).toInt).2.1 - (rdB (argD a 0).ints (argD a 1).toInt (argD a 2).toInt (argD a 3).toInt (argD a 4).toInt (argD a 5).toInt).1).toNat (List.take (rdB (argD a 0).ints (argD a 1).toInt (argD a 2).toInt (argD a 3).toInt (argD a 4).toInt (argD a 5).toInt).2.1.toNat (argD a 0).ints))
  | 60 => fun a => D.ofInts (rdI (argD a 0).ints (argD a 1).toInt (argD a 2).toInt (argD a 3).toInt (argD a 4).toInt).1
  | 61 => fun a => .int (rdI (argD a 0).ints (argD a 1).toInt (argD a 2).toInt (argD a 3).toInt (argD a 4).toInt).2.1
  | 62 => fun a => .int (rdI (argD a 0).ints (argD a 1).toInt (argD a 2).toInt (argD a 3).toInt (argD a 4).toInt).2.2.1
  | 63 => fun a => .int (rdI (argD a 0).ints (argD a 1).toInt (argD a 2).toInt (argD a 3).toInt (argD a 4).toInt).2.2.2
  | 64 => fun a => .int (rdE (argD a 0).toInt (argD a 1).toInt (argD a 2).toInt (argD a 3).toInt).1
  | 65 => fun a => .int (rdE (argD a 0).toInt (argD a 1).toInt (argD a 2).toInt (argD a 3).toInt).2
  | 98 => fun a => argD a 0
  | _ => fun x => x
theorem go_last {k : Nat} {n c : Int} {l : List Int} (h : c < 128) (g : n * 128 + c ≤ 2147483647) : goL k n (c :: l) = (0, n * 128 + c, 1) := by
  unfold goL; rw [if_pos h, if_pos g]
theorem go_over {k : Nat} {n c : Int} {l : List Int} (h : c < 128) (g : ¬ n * 128 + c ≤ 2147483647) : goL k n (c :: l) = (3, 0, 0) := by
  unfold goL; rw [if_pos h, if_neg g]
theorem go_step {k : Nat} {n c : Int} {l : List Int} (h : 128 ≤ c) : goL (k + 1) n (c :: l) = ((goL k (n * 128 + (c - 128)) l).1, (goL k (n * 128 + (c - 128)) l).2.1, (goL k (n * 128 + (c - 128)) l).2.2 + 1) := by
  rw [goL, if_neg (by omega)]
theorem go_end {n c : Int} {l : List Int} (h : 128 ≤ c) : goL 0 n (c :: l) = (3, 0, 0) := by
  rw [goL, if_neg (by omega)]
theorem num_go {c : Int} {l : List Int} (h : ¬ c = 128) : numL (c :: l) = goL 4 0 (c :: l) := by
  rw [numL, if_neg h]
theorem or7 {n c : Int} (h0 : 0 ≤ n) (h : n < 1099511627776) (c0 : 0 ≤ c) (c1 : c < 128) : iopI .or .u64 (iopI .shl .u64 n 7) c = n * 128 + c := by
  obtain ⟨a, rfl⟩ := Int.eq_ofNat_of_zero_le h0
  obtain ⟨b, rfl⟩ := Int.eq_ofNat_of_zero_le c0
  have e1 : iopI .shl .u64 (a : Int) 7 = ((a * 128 : Nat) : Int) := by
    show IntKind.u64.wrap ((a : Int) * 2 ^ (min (7 : Int).toNat 64)) = _
    rw [show ((a : Int) * 2 ^ (min (7 : Int).toNat 64)) = ((a * 128 : Nat) : Int) by rw [show (min (7 : Int).toNat 64) = 7 from rfl]; push_cast; omega]
    exact wrap_fit (by simp only [u64min, u64max]; omega)
  rw [e1]
  show IntKind.u64.wrap ((BitVec.ofInt 64 ((a * 128 : Nat) : Int) ||| BitVec.ofInt 64 (b : Int)).toNat : Int) = _
  rw [BitVec.ofInt_natCast, BitVec.ofInt_natCast, BitVec.toNat_or, BitVec.toNat_ofNat, BitVec.toNat_ofNat, Nat.mod_eq_of_lt (by omega), Nat.mod_eq_of_lt (by omega)]
  rw [show a * 128 = a <<< 7 by rw [Nat.shiftLeft_eq], ← Nat.shiftLeft_add_eq_or_of_lt (by omega), Nat.shiftLeft_eq]
  rw [wrap_fit (by simp only [u64min, u64max]; omega)]
  push_cast; omega
theorem get_in {l : List Int} (h : ∀ c ∈ l, 0 ≤ c ∧ c ≤ 255) (j : Nat) : 0 ≤ (l[j]?).getD 0 ∧ (l[j]?).getD 0 ≤ 255 := by
  cases hz : l[j]? with
  | none => simp
  | some c => exact h c (List.mem_of_getElem? hz)
/-- What stands at a place. -/
theorem num_at {x : List Int} {o t : Int} (ho : 0 ≤ o) (ht : t ≤ x.length) (hx : ∀ c ∈ x, 0 ≤ c ∧ c ≤ 255) :
    ∃ c0 c1 c2 c3 c4 : Int, c0 = (x[o.toNat]?).getD 0 ∧ c1 = (x[(o + 1).toNat]?).getD 0 ∧ c2 = (x[(o + 2).toNat]?).getD 0 ∧ c3 = (x[(o + 3).toNat]?).getD 0 ∧ c4 = (x[(o + 4).toNat]?).getD 0 ∧
      (0 ≤ c0 ∧ c0 ≤ 255) ∧ (0 ≤ c1 ∧ c1 ≤ 255) ∧ (0 ≤ c2 ∧ c2 ≤ 255) ∧ (0 ≤ c3 ∧ c3 ≤ 255) ∧ (0 ≤ c4 ∧ c4 ≤ 255) ∧
      ((t ≤ o ∧ (numL (prt x o t)).1 = 1)
      ∨ (o < t ∧ c0 = 128 ∧ (numL (prt x o t)).1 = 2)
      ∨ (o < t ∧ c0 < 128 ∧ numL (prt x o t) = (0, c0, 1))
      ∨ (o < t ∧ 128 < c0 ∧ t ≤ o + 1 ∧ (numL (prt x o t)).1 = 1)
      ∨ (o + 1 < t ∧ 128 < c0 ∧ c1 < 128 ∧ numL (prt x o t) = (0, (c0 - 128) * 128 + c1, 2))
      ∨ (o + 1 < t ∧ 128 < c0 ∧ 128 ≤ c1 ∧ t ≤ o + 2 ∧ (numL (prt x o t)).1 = 1)
      ∨ (o + 2 < t ∧ 128 < c0 ∧ 128 ≤ c1 ∧ c2 < 128 ∧ numL (prt x o t) = (0, ((c0 - 128) * 128 + (c1 - 128)) * 128 + c2, 3))
      ∨ (o + 2 < t ∧ 128 < c0 ∧ 128 ≤ c1 ∧ 128 ≤ c2 ∧ t ≤ o + 3 ∧ (numL (prt x o t)).1 = 1)
      ∨ (o + 3 < t ∧ 128 < c0 ∧ 128 ≤ c1 ∧ 128 ≤ c2 ∧ c3 < 128 ∧ numL (prt x o t) = (0, (((c0 - 128) * 128 + (c1 - 128)) * 128 + (c2 - 128)) * 128 + c3, 4))
      ∨ (o + 3 < t ∧ 128 < c0 ∧ 128 ≤ c1 ∧ 128 ≤ c2 ∧ 128 ≤ c3 ∧ t ≤ o + 4 ∧ (numL (prt x o t)).1 = 1)
      ∨ (o + 4 < t ∧ 128 < c0 ∧ 128 ≤ c1 ∧ 128 ≤ c2 ∧ 128 ≤ c3 ∧ c4 < 128 ∧ ((((c0 - 128) * 128 + (c1 - 128)) * 128 + (c2 - 128)) * 128 + (c3 - 128)) * 128 + c4 ≤ 2147483647 ∧ numL (prt x o t) = (0, ((((c0 - 128) * 128 + (c1 - 128)) * 128 + (c2 - 128)) * 128 + (c3 - 128)) * 128 + c4, 5))
      ∨ (o + 4 < t ∧ 128 < c0 ∧ 128 ≤ c1 ∧ 128 ≤ c2 ∧ 128 ≤ c3 ∧ c4 < 128 ∧ 2147483647 < ((((c0 - 128) * 128 + (c1 - 128)) * 128 + (c2 - 128)) * 128 + (c3 - 128)) * 128 + c4 ∧ (numL (prt x o t)).1 = 3)
      ∨ (o + 4 < t ∧ 128 < c0 ∧ 128 ≤ c1 ∧ 128 ≤ c2 ∧ 128 ≤ c3 ∧ 128 ≤ c4 ∧ (numL (prt x o t)).1 = 3)) := by
  refine ⟨_, _, _, _, _, rfl, rfl, rfl, rfl, rfl, get_in hx _, get_in hx _, get_in hx _, get_in hx _, get_in hx _, ?_⟩
  have b0 := get_in hx o.toNat
  have b1 := get_in hx (o + 1).toNat
  have b2 := get_in hx (o + 2).toNat
  have b3 := get_in hx (o + 3).toNat
  have b4 := get_in hx (o + 4).toNat
  by_cases t0 : t ≤ o
  · exact .inl ⟨t0, by rw [prt_nil (by omega) (by omega)]; rfl⟩
  have p0 := prt_step (x := x) (o := o) (t := t) (by omega) (by omega) (by omega)
  generalize (x[o.toNat]?).getD 0 = c0 at *
  by_cases z : c0 = 128
  · exact .inr (.inl ⟨by omega, z, by rw [p0, z]; rfl⟩)
  by_cases l0 : c0 < 128
  · exact .inr (.inr (.inl ⟨by omega, l0, by rw [p0, num_go z, go_last l0 (by omega)]; simp⟩))
  by_cases t1 : t ≤ o + 1
  · exact .inr (.inr (.inr (.inl ⟨by omega, by omega, t1, by rw [p0, prt_nil (by omega) (by omega), num_go z, go_step (by omega)]; rfl⟩)))
  have p1 := prt_step (x := x) (o := o + 1) (t := t) (by omega) (by omega) (by omega)
  rw [show o + 1 + 1 = o + 2 by omega] at p1
  generalize (x[(o + 1).toNat]?).getD 0 = c1 at *
  by_cases l1 : c1 < 128
  · exact .inr (.inr (.inr (.inr (.inl ⟨by omega, by omega, l1, by rw [p0, p1, num_go z, go_step (by omega), go_last l1 (by omega)]; simp⟩))))
  by_cases t2 : t ≤ o + 2
  · exact .inr (.inr (.inr (.inr (.inr (.inl ⟨by omega, by omega, by omega, t2, by rw [p0, p1, prt_nil (by omega) (by omega), num_go z, go_step (by omega), go_step (by omega)]; rfl⟩)))))
  have p2 := prt_step (x := x) (o := o + 2) (t := t) (by omega) (by omega) (by omega)
  rw [show o + 2 + 1 = o + 3 by omega] at p2
  generalize (x[(o + 2).toNat]?).getD 0 = c2 at *
  by_cases l2 : c2 < 128
  · exact .inr (.inr (.inr (.inr (.inr (.inr (.inl ⟨by omega, by omega, by omega, l2, by rw [p0, p1, p2, num_go z, go_step (by omega), go_step (by omega), go_last l2 (by omega)]; simp⟩))))))
  by_cases t3 : t ≤ o + 3
  · exact .inr (.inr (.inr (.inr (.inr (.inr (.inr (.inl ⟨by omega, by omega, by omega, by omega, t3, by rw [p0, p1, p2, prt_nil (by omega) (by omega), num_go z, go_step (by omega), go_step (by omega), go_step (by omega)]; rfl⟩)))))))
  have p3 := prt_step (x := x) (o := o + 3) (t := t) (by omega) (by omega) (by omega)
  rw [show o + 3 + 1 = o + 4 by omega] at p3
  generalize (x[(o + 3).toNat]?).getD 0 = c3 at *
  by_cases l3 : c3 < 128
  · exact .inr (.inr (.inr (.inr (.inr (.inr (.inr (.inr (.inl ⟨by omega, by omega, by omega, by omega, l3, by rw [p0, p1, p2, p3, num_go z, go_step (by omega), go_step (by omega), go_step (by omega), go_last l3 (by omega)]; simp⟩))))))))
  by_cases t4 : t ≤ o + 4
  · exact .inr (.inr (.inr (.inr (.inr (.inr (.inr (.inr (.inr (.inl ⟨by omega, by omega, by omega, by omega, by omega, t4, by rw [p0, p1, p2, p3, prt_nil (by omega) (by omega), num_go z, go_step (by omega), go_step (by omega), go_step (by omega), go_step (by omega)]; rfl⟩)))))))))
  have p4 := prt_step (x := x) (o := o + 4) (t := t) (by omega) (by omega) (by omega)
  rw [show o + 4 + 1 = o + 5 by omega] at p4
  generalize (x[(o + 4).toNat]?).getD 0 = c4 at *
  by_cases l4 : c4 < 128
  · by_cases m : ((((c0 - 128) * 128 + (c1 - 128)) * 128 + (c2 - 128)) * 128 + (c3 - 128)) * 128 + c4 ≤ 2147483647
    · exact .inr (.inr (.inr (.inr (.inr (.inr (.inr (.inr (.inr (.inr (.inl ⟨by omega, by omega, by omega, by omega, by omega, l4, m, by rw [p0, p1, p2, p3, p4, num_go z, go_step (by omega), go_step (by omega), go_step (by omega), go_step (by omega), go_last l4 (by omega)]; simp⟩))))))))))
    · exact .inr (.inr (.inr (.inr (.inr (.inr (.inr (.inr (.inr (.inr (.inr (.inl ⟨by omega, by omega, by omega, by omega, by omega, l4, by omega, by rw [p0, p1, p2, p3, p4, num_go z, go_step (by omega), go_step (by omega), go_step (by omega), go_step (by omega), go_over l4 (by omega)]⟩)))))))))))
  · exact .inr (.inr (.inr (.inr (.inr (.inr (.inr (.inr (.inr (.inr (.inr (.inr ⟨by omega, by omega, by omega, by omega, by omega, by omega, by rw [p0, p1, p2, p3, p4, num_go z, go_step (by omega), go_step (by omega), go_step (by omega), go_step (by omega), go_end (by omega)]⟩)))))))))))
theorem w8 {x : Int} (h0 : 0 ≤ x) (h1 : x ≤ 255) : IntKind.u8.wrap x = x := wrap_fit (by simp only [u8min, u8max]; omega)
theorem a8 {x y : Int} (h0 : 0 ≤ x + y) (h1 : x + y ≤ 255) : iopI .add .u8 x y = x + y := w8 h0 h1
theorem F1 (n : D) : F 1 (.list [n, .int 0]) = .int (szI n.toInt) := rfl
theorem F2 (n : D) : F 2 (.list [n, .int 0]) = D.ofInts (fiveI n.toInt) := rfl
theorem F3 (n : D) : F 3 (.list [n, .int 0]) = D.ofInts (putL n.toInt) := rfl
theorem F7 (i n : D) : F 7 (.list [i, .list [n, .int 0]]) = .int (i.toInt % n.toInt) := rfl
theorem F20 (x o t : D) : F 20 (.list [x, .list [o, .list [t, .int 0]]]) = .int (numL (prt x.ints o.toInt t.toInt)).1 := rfl
theorem F21 (x o t : D) : F 21 (.list [x, .list [o, .list [t, .int 0]]]) = .int (numL (prt x.ints o.toInt t.toInt)).2.1 := rfl
theorem F22 (x o t : D) : F 22 (.list [x, .list [o, .list [t, .int 0]]]) = .int (numL (prt x.ints o.toInt t.toInt)).2.2 := rfl
theorem F23 (x o t : D) : F 23 (.list [x, .list [o, .list [t, .int 0]]]) = .int (errI (numL (prt x.ints o.toInt t.toInt)).1) := rfl
theorem F98 (x : D) : F 98 (.list [x, .int 0]) = x := rfl
theorem F24 (x o t : D) : F 24 (.list [x, .list [o, .list [t, .int 0]]]) = .int (atI (numL (prt x.ints o.toInt t.toInt)).1 o.toInt t.toInt) := rfl
theorem F40 (n : D) : F 40 (.list [n, .int 0]) = .int (if 0 ≤ n.toInt ∧ n.toInt ≤ 2147483647 then szI n.toInt else 0) := rfl
theorem F6 (x o t : D) : F 6 (.list [x, .list [o, .list [t, .int 0]]]) = D.ofInts (lentI (prt x.ints o.toInt t.toInt)) := rfl
theorem F30 (x i : D) : F 30 (.list [x, .list [i, .int 0]]) = .int (lensI ((x.toList.take 41).drop i.toInt.toNat)) := rfl
theorem lens_nn : ∀ l : List D, 0 ≤ lensI l
  | [] => by simp [lensI]
  | x :: l => by have := lens_nn l; simp only [lensI]; omega
theorem lens_end {l : List D} {i : Nat} (h : l.length ≤ i ∨ 41 ≤ i) : lensI ((l.take 41).drop i) = 0 := by
  rw [List.drop_of_length_le (by rw [List.length_take]; omega)]; rfl
theorem lens_step {l : List D} {i : Nat} (h : i < l.length) (h2 : i < 41) : lensI ((l.take 41).drop i) = ((((l[i]?.getD (D.int 0)).toList)[3]?.getD (D.int 0)).toList.length : Int) + lensI ((l.take 41).drop (i + 1)) := by
  have h3 : i < (l.take 41).length := by rw [List.length_take]; omega
  rw [List.drop_eq_getElem_cons h3]
  simp only [lensI]
  rw [List.getElem_take, List.getElem?_eq_getElem h]
  rfl
theorem shr_ediv (x : Int) (j : Nat) (h : j ≤ 64) : iopI .shr .i64 x (j : Int) = x / 2 ^ j := by
  simp only [iopI]
  rw [show min (j : Int).toNat (IntKind.bits .i64) = j by show min (j : Int).toNat 64 = j; omega, Int.fdiv_eq_ediv_of_nonneg _ (by exact Int.le_of_lt (Int.pow_pos (by omega)))]
theorem F50 (x a t e f lo hi ab : D) : F 50 (.list [x, .list [a, .list [t, .list [e, .list [f, .list [lo, .list [hi, .list [ab, .int 0]]]]]]]]) = .int (rdS x.ints a.toInt t.toInt e.toInt f.toInt lo.toInt hi.toInt ab.toInt).1 := rfl
theorem F54 (x a t e f mo : D) : F 54 (.list [x, .list [a, .list [t, .list [e, .list [f, .list [mo, .int 0]]]]]]) = .int (rdB x.ints a.toInt t.toInt e.toInt f.toInt mo.toInt).1 := rfl
theorem F51 (x a t e f lo hi ab : D) : F 51 (.list [x, .list [a, .list [t, .list [e, .list [f, .list [lo, .list [hi, .list [ab, .int 0]]]]]]]]) = .int (rdS x.ints a.toInt t.toInt e.toInt f.toInt lo.toInt hi.toInt ab.toInt).2.1 := rfl
theorem F55 (x a t e f mo : D) : F 55 (.list [x, .list [a, .list [t, .list [e, .list [f, .list [mo, .int 0]]]]]]) = .int (rdB x.ints a.toInt t.toInt e.toInt f.toInt mo.toInt).2.1 := rfl
theorem F52 (x a t e f lo hi ab : D) : F 52 (.list [x, .list [a, .list [t, .list [e, .list [f, .list [lo, .list [hi, .list [ab, .int 0]]]]]]]]) = .int (rdS x.ints a.toInt t.toInt e.toInt f.toInt lo.toInt hi.toInt ab.toInt).2.2.1 := rfl
theorem F56 (x a t e f mo : D) : F 56 (.list [x, .list [a, .list [t, .list [e, .list [f, .list [mo, .int 0]]]]]]) = .int (rdB x.ints a.toInt t.toInt e.toInt f.toInt mo.toInt).2.2.1 := rfl
theorem F53 (x a t e f lo hi ab : D) : F 53 (.list [x, .list [a, .list [t, .list [e, .list [f, .list [lo, .list [hi, .list [ab, .int 0]]]]]]]]) = .int (rdS x.ints a.toInt t.toInt e.toInt f.toInt lo.toInt hi.toInt ab.toInt).2.2.2 := rfl
theorem F57 (x a t e f mo : D) : F 57 (.list [x, .list [a, .list [t, .list [e, .list [f, .list [mo, .int 0]]]]]]) = .int (rdB x.ints a.toInt t.toInt e.toInt f.toInt mo.toInt).2.2.2 := rfl
theorem F58 (x a t e f mo : D) : F 58 (.list [x, .list [a, .list [t, .list [e, .list [f, .list [mo, .int 0]]]]]]) = D.ofInts (List.drop ((rdB x.ints a.toInt t.toInt e.toInt f.toInt mo.toInt).2.1 - (rdB x.ints a.toInt t.toInt e.toInt f.toInt mo.toInt).1).toNat (List.take (rdB x.ints a.toInt t.toInt e.toInt f.toInt mo.toInt).2.1.toNat x.ints)) := rfl
theorem F60 (x a t e f : D) : F 60 (.list [x, .list [a, .list [t, .list [e, .list [f, .int 0]]]]]) = D.ofInts (rdI x.ints a.toInt t.toInt e.toInt f.toInt).1 := rfl
theorem F61 (x a t e f : D) : F 61 (.list [x, .list [a, .list [t, .list [e, .list [f, .int 0]]]]]) = .int (rdI x.ints a.toInt t.toInt e.toInt f.toInt).2.1 := rfl
theorem F62 (x a t e f : D) : F 62 (.list [x, .list [a, .list [t, .list [e, .list [f, .int 0]]]]]) = .int (rdI x.ints a.toInt t.toInt e.toInt f.toInt).2.2.1 := rfl
theorem F63 (x a t e f : D) : F 63 (.list [x, .list [a, .list [t, .list [e, .list [f, .int 0]]]]]) = .int (rdI x.ints a.toInt t.toInt e.toInt f.toInt).2.2.2 := rfl
theorem F64 (a t e f : D) : F 64 (.list [a, .list [t, .list [e, .list [f, .int 0]]]]) = .int (rdE a.toInt t.toInt e.toInt f.toInt).1 := rfl
theorem F65 (a t e f : D) : F 65 (.list [a, .list [t, .list [e, .list [f, .int 0]]]]) = .int (rdE a.toInt t.toInt e.toInt f.toInt).2 := rfl
theorem num_val {x : List Int} {o t : Int} (ho : 0 ≤ o) (ht : t ≤ x.length) (hx : ∀ c ∈ x, 0 ≤ c ∧ c ≤ 255) (h : (numL (prt x o t)).1 = 0) :
    0 ≤ (numL (prt x o t)).2.1 ∧ (numL (prt x o t)).2.1 ≤ 2147483647 ∧ 1 ≤ (numL (prt x o t)).2.2 ∧ (numL (prt x o t)).2.2 ≤ 5 ∧ o + (numL (prt x o t)).2.2 ≤ t := by
  obtain ⟨c0, c1, c2, c3, c4, _, _, _, _, _, g0, g1, g2, g3, g4, hn⟩ := num_at (x := x) (o := o) (t := t) ho ht hx
  rcases hn with hn | hn | hn | hn | hn | hn | hn | hn | hn | hn | hn | hn | hn
  · omega
  · omega
  · rw [hn.2.2]; show 0 ≤ c0 ∧ c0 ≤ 2147483647 ∧ (1 : Int) ≤ 1 ∧ (1 : Int) ≤ 5 ∧ o + 1 ≤ t; omega
  · omega
  · rw [hn.2.2.2]; show 0 ≤ (c0 - 128) * 128 + c1 ∧ (c0 - 128) * 128 + c1 ≤ 2147483647 ∧ (1 : Int) ≤ 2 ∧ (2 : Int) ≤ 5 ∧ o + 2 ≤ t; omega
  · omega
  · rw [hn.2.2.2.2]; show 0 ≤ ((c0 - 128) * 128 + (c1 - 128)) * 128 + c2 ∧ ((c0 - 128) * 128 + (c1 - 128)) * 128 + c2 ≤ 2147483647 ∧ (1 : Int) ≤ 3 ∧ (3 : Int) ≤ 5 ∧ o + 3 ≤ t; omega
  · omega
  · rw [hn.2.2.2.2.2]; show 0 ≤ (((c0 - 128) * 128 + (c1 - 128)) * 128 + (c2 - 128)) * 128 + c3 ∧ (((c0 - 128) * 128 + (c1 - 128)) * 128 + (c2 - 128)) * 128 + c3 ≤ 2147483647 ∧ (1 : Int) ≤ 4 ∧ (4 : Int) ≤ 5 ∧ o + 4 ≤ t; omega
  · omega
  · rw [hn.2.2.2.2.2.2.2]; show 0 ≤ ((((c0 - 128) * 128 + (c1 - 128)) * 128 + (c2 - 128)) * 128 + (c3 - 128)) * 128 + c4 ∧ ((((c0 - 128) * 128 + (c1 - 128)) * 128 + (c2 - 128)) * 128 + (c3 - 128)) * 128 + c4 ≤ 2147483647 ∧ (1 : Int) ≤ 5 ∧ (5 : Int) ≤ 5 ∧ o + 5 ≤ t; omega
  · omega
  · omega
theorem rdS_in {x : List Int} {a t e f lo hi ab : Int} (ho : 0 ≤ a) (ha : a ≤ t) (ht : t ≤ x.length) (hx : ∀ c ∈ x, 0 ≤ c ∧ c ≤ 255) : a ≤ (rdS x a t e f lo hi ab).2.1 ∧ (rdS x a t e f lo hi ab).2.1 ≤ t := by
  unfold rdS
  by_cases h : (numL (prt x a t)).1 = 0
  · have := num_val ho ht hx h
    repeat' split
    all_goals (simp only; omega)
  · repeat' split
    all_goals (simp only; omega)
theorem rdB_in {x : List Int} {a t e f mo : Int} (ho : 0 ≤ a) (ha : a ≤ t) (ht : t ≤ x.length) (hx : ∀ c ∈ x, 0 ≤ c ∧ c ≤ 255) : a ≤ (rdB x a t e f mo).2.1 ∧ (rdB x a t e f mo).2.1 ≤ t ∧ 0 ≤ (rdB x a t e f mo).1 ∧ (rdB x a t e f mo).1 ≤ (rdB x a t e f mo).2.1 := by
  unfold rdB
  by_cases h : (numL (prt x a t)).1 = 0
  · have := num_val ho ht hx h
    repeat' split
    all_goals (simp only; omega)
  · repeat' split
    all_goals (simp only; omega)
theorem rdI_in {x : List Int} {a t e f : Int} (ho : 0 ≤ a) (ha : a ≤ t) : a ≤ (rdI x a t e f).2.1 ∧ (rdI x a t e f).2.1 ≤ t := by
  unfold rdI
  repeat' split
  all_goals (simp only; omega)
theorem rdS_err {x : List Int} {a t e f lo hi ab : Int} (h : ¬ e = 0) : rdS x a t e f lo hi ab = (0, a, e, f) := if_neg h
theorem rdS_bad {x : List Int} {a t e f lo hi ab : Int} (h : e = 0) (k : ¬ (numL (prt x a t)).1 = 0) : rdS x a t e f lo hi ab = (0, a, errI (numL (prt x a t)).1, atI (numL (prt x a t)).1 a t) := by unfold rdS; rw [if_pos h, if_neg k]
theorem rdS_hi {x : List Int} {a t e f lo hi ab : Int} (h : e = 0) (k : (numL (prt x a t)).1 = 0) (g : hi < (numL (prt x a t)).2.1) : rdS x a t e f lo hi ab = (0, a, ab, a) := by unfold rdS; rw [if_pos h, if_pos k, if_pos g]
theorem rdS_lo {x : List Int} {a t e f lo hi ab : Int} (h : e = 0) (k : (numL (prt x a t)).1 = 0) (g : ¬ hi < (numL (prt x a t)).2.1) (g2 : (numL (prt x a t)).2.1 < lo) : rdS x a t e f lo hi ab = (0, a, 5, a) := by unfold rdS; rw [if_pos h, if_pos k, if_neg g, if_pos g2]
theorem rdS_l5 {x : List Int} {a t e f lo hi : Int} (h : e = 0) (k : (numL (prt x a t)).1 = 0) (g2 : (numL (prt x a t)).2.1 < lo) : rdS x a t e f lo hi 5 = (0, a, 5, a) := by
  by_cases g : hi < (numL (prt x a t)).2.1
  · exact rdS_hi h k g
  · exact rdS_lo h k g g2
theorem rdS_ok {x : List Int} {a t e f lo hi ab : Int} (h : e = 0) (k : (numL (prt x a t)).1 = 0) (g : ¬ hi < (numL (prt x a t)).2.1) (g2 : ¬ (numL (prt x a t)).2.1 < lo) : rdS x a t e f lo hi ab = ((numL (prt x a t)).2.1, a + (numL (prt x a t)).2.2, e, f) := by unfold rdS; rw [if_pos h, if_pos k, if_neg g, if_neg g2]
theorem rdB_err {x : List Int} {a t e f mo : Int} (h : ¬ e = 0) : rdB x a t e f mo = (0, a, e, f) := if_neg h
theorem rdB_bad {x : List Int} {a t e f mo : Int} (h : e = 0) (k : ¬ (numL (prt x a t)).1 = 0) : rdB x a t e f mo = (0, a, errI (numL (prt x a t)).1, atI (numL (prt x a t)).1 a t) := by unfold rdB; rw [if_pos h, if_neg k]
theorem rdB_hi {x : List Int} {a t e f mo : Int} (h : e = 0) (k : (numL (prt x a t)).1 = 0) (g : mo < (numL (prt x a t)).2.1) : rdB x a t e f mo = (0, a, 3, a) := by unfold rdB; rw [if_pos h, if_pos k, if_pos g]
theorem rdB_few {x : List Int} {a t e f mo : Int} (h : e = 0) (k : (numL (prt x a t)).1 = 0) (g : ¬ mo < (numL (prt x a t)).2.1) (g2 : t - (a + (numL (prt x a t)).2.2) < (numL (prt x a t)).2.1) : rdB x a t e f mo = (0, a, 4, t) := by unfold rdB; rw [if_pos h, if_pos k, if_neg g, if_pos g2]
theorem rdB_ok {x : List Int} {a t e f mo : Int} (h : e = 0) (k : (numL (prt x a t)).1 = 0) (g : ¬ mo < (numL (prt x a t)).2.1) (g2 : ¬ t - (a + (numL (prt x a t)).2.2) < (numL (prt x a t)).2.1) : rdB x a t e f mo = ((numL (prt x a t)).2.1, a + (numL (prt x a t)).2.2 + (numL (prt x a t)).2.1, e, f) := by unfold rdB; rw [if_pos h, if_pos k, if_neg g, if_neg g2]
theorem rdB_fine {x : List Int} {a t e f mo : Int} (h : (rdB x a t e f mo).2.2.1 = 0) : e = 0 ∧ (numL (prt x a t)).1 = 0 ∧ ¬ mo < (numL (prt x a t)).2.1 ∧ ¬ t - (a + (numL (prt x a t)).2.2) < (numL (prt x a t)).2.1 := by
  by_cases e0 : e = 0
  · by_cases k0 : (numL (prt x a t)).1 = 0
    · by_cases g : mo < (numL (prt x a t)).2.1
      · rw [rdB_hi e0 k0 g] at h; cases h
      · by_cases g2 : t - (a + (numL (prt x a t)).2.2) < (numL (prt x a t)).2.1
        · rw [rdB_few e0 k0 g g2] at h; cases h
        · exact ⟨e0, k0, g, g2⟩
    · rw [rdB_bad e0 k0] at h
      simp only [errI] at h
      split at h <;> cases h
  · rw [rdB_err e0] at h; exact absurd h e0
theorem cut0 (a : Int) (x : List Int) : [] = List.drop (a - 0).toNat (List.take a.toNat x) := by
  rw [Int.sub_zero, List.drop_of_length_le (by rw [List.length_take]; omega)]
theorem cutC {a b c e : Int} {x : List Int} (h : a = c) (k : b = e) : List.drop a.toNat (List.take b.toNat x) = List.drop c.toNat (List.take e.toNat x) := by rw [h, k]
theorem cut16 {a b : Int} {x : List Int} (j : Int) (h : 0 ≤ a) (h0 : 0 ≤ j) (h1 : j < 16) (hb : b = a + j) : x[b.toNat]?.getD 0 = (List.drop a.toNat (List.take (a + 16).toNat x))[j.toNat]?.getD 0 := by
  rw [List.getElem?_drop, List.getElem?_take, if_pos (by omega), hb, show a.toNat + j.toNat = (a + j).toNat by omega]
theorem rdI_err {x : List Int} {a t e f : Int} (h : ¬ e = 0) : rdI x a t e f = (List.replicate 16 0, a, e, f) := if_neg h
theorem rdI_few {x : List Int} {a t e f : Int} (h : e = 0) (g : t - a < 16) : rdI x a t e f = (List.replicate 16 0, a, 4, t) := by unfold rdI; rw [if_pos h, if_pos g]
theorem rdI_ok {x : List Int} {a t e f : Int} (h : e = 0) (g : ¬ t - a < 16) : rdI x a t e f = (List.drop a.toNat (List.take (a + 16).toNat x), a + 16, e, f) := by unfold rdI; rw [if_pos h, if_neg g]
theorem rdE_err {a t e f : Int} (h : ¬ e = 0) : rdE a t e f = (e, f) := if_neg h
theorem rdE_more {a t e f : Int} (h : e = 0) (g : a < t) : rdE a t e f = (4, a) := by unfold rdE; rw [if_pos h, if_pos g]
theorem rdE_ok {a t e f : Int} (h : e = 0) (g : ¬ a < t) : rdE a t e f = (e, f) := by unfold rdE; rw [if_pos h, if_neg g]

def numberC : CSpec := { args := [.ptr 1 0], next := 2, rows := [(1, .cells 53 0 false false [.ptr 1 0, .sslice 3 (.int 0) (.var 2) (.var 3) true, .sint .i64 (.var 5), .sint .i64 (.var 9), .sint .i64 (.var 10)]), (3, .eseq ⟨.u8, .var 6, .var 4⟩)], pre := [(.le (.int 0) (.var 5), true), (.le (.var 5) (.var 2), true), (.le (.var 2) (.var 6), true), (.le (.var 2) (.var 3), true), (.le (.var 3) (.int 1000000), true), (.eq (.fn 20 (.bi .pair (.var 4) txRa8)) (.int 0), true)], res := .sint .i64 (.fn 21 (.bi .pair (.var 4) txRa8)), frows := [(1, .cells 53 0 false false [.ptr 1 0, .sslice 3 (.int 0) (.var 2) (.var 3) true, .sint .i64 txRa18, .sint .i64 (.var 9), .sint .i64 (.var 10)])], same := [1, 3] }
abbrev asRa0 : Q × Bool := ((.fit .i64 (.var 2)), true)
abbrev asRa1 : Q × Bool := ((.fit .i64 (.bi .sub (.var 2) (.var 5))), true)
abbrev asRa2 : Q × Bool := ((.le (.int 1) (.bi .sub (.var 2) (.var 5))), true)
abbrev asRa3 : Q × Bool := ((.fit .i64 (.bi .add (.var 5) (.int 1))), true)
abbrev asRa4 : Q × Bool := ((.le (.int 0) (.var 5)), true)
abbrev asRa5 : Q × Bool := ((.le (.var 5) (.bi .add (.var 5) (.int 1))), true)
abbrev asRa6 : Q × Bool := ((.le (.bi .add (.var 5) (.int 1)) (.var 3)), true)
abbrev asRa7 : Q × Bool := ((.le (.var 6) (.var 5)), false)
abbrev asRa8 : Q × Bool := ((.eq (.bi .sel (.var 4) (.var 5)) (.int 128)), false)
abbrev asRa9 : Q × Bool := ((.le (.int 128) (.bi .sel (.var 4) (.var 5))), false)
abbrev asRa10 : Q × Bool := ((.le txRa13 (.int 2147483647)), true)
abbrev asRa11 : Q × Bool := ((.fit .i64 txRa13), true)
def numberC_t0 : List (Q × Bool) := [asRa0, asRa1, asRa2, asRa3, asRa4, asRa5, asRa6, asRa7, asRa8, asRa9, asRa10, asRa11]
def numberC_d0 : List Duty := [(true, txRa13, (.fn 21 (.bi .pair (.var 4) txRa8))), (true, (.bi .add (.var 5) (.int 1)), txRa18)]
theorem numberC_y0 : endC numberC [(1, 1), (3, 3)] 1000 (callC Try.prog (tellA numberC_t0) [] [] [] 3000 40 34 numberC) = some numberC_d0 := by kernel_rfl
abbrev asRa12 : Q × Bool := ((.le (.int 128) (.bi .sel (.var 4) (.var 5))), true)
abbrev asRa13 : Q × Bool := ((.fit .i64 txRa0), true)
abbrev asRa14 : Q × Bool := ((.le (.int 1) txRa0), true)
abbrev asRa15 : Q × Bool := ((.fit .i64 (.bi .add (.var 5) (.int 2))), true)
abbrev asRa16 : Q × Bool := ((.le (.int 0) (.bi .add (.var 5) (.int 1))), true)
abbrev asRa17 : Q × Bool := ((.le (.bi .add (.var 5) (.int 1)) (.bi .add (.var 5) (.int 2))), true)
abbrev asRa18 : Q × Bool := ((.le (.bi .add (.var 5) (.int 2)) (.var 3)), true)
abbrev asRa19 : Q × Bool := ((.le (.bi .sub (.bi .add (.var 5) (.int 2)) (.bi .add (.var 5) (.int 1))) (.int 0)), false)
abbrev asRa20 : Q × Bool := ((.le (.var 6) (.bi .add (.var 5) (.int 1))), false)
abbrev asRa21 : Q × Bool := ((.le (.int 128) txRa1), false)
abbrev asRa22 : Q × Bool := ((.le txRa41 (.int 2147483647)), true)
abbrev asRa23 : Q × Bool := ((.fit .i64 txRa41), true)
def numberC_t1 : List (Q × Bool) := [asRa0, asRa1, asRa2, asRa3, asRa4, asRa5, asRa6, asRa7, asRa8, asRa12, asRa13, asRa14, asRa15, asRa16, asRa17, asRa18, asRa19, asRa20, asRa21, asRa22, asRa23]
def numberC_d1 : List Duty := [(true, txRa41, (.fn 21 (.bi .pair (.var 4) txRa8))), (true, (.bi .add (.var 5) (.int 2)), txRa18)]
theorem numberC_y1 : endC numberC [(1, 1), (3, 3)] 1000 (callC Try.prog (tellA numberC_t1) [] [] [] 3000 40 34 numberC) = some numberC_d1 := by kernel_rfl
abbrev asRa24 : Q × Bool := ((.le (.int 128) txRa1), true)
abbrev asRa25 : Q × Bool := ((.fit .i64 txRa2), true)
abbrev asRa26 : Q × Bool := ((.le (.int 1) txRa2), true)
abbrev asRa27 : Q × Bool := ((.fit .i64 (.bi .add (.var 5) (.int 3))), true)
abbrev asRa28 : Q × Bool := ((.le (.int 0) (.bi .add (.var 5) (.int 2))), true)
abbrev asRa29 : Q × Bool := ((.le (.bi .add (.var 5) (.int 2)) (.bi .add (.var 5) (.int 3))), true)
abbrev asRa30 : Q × Bool := ((.le (.bi .add (.var 5) (.int 3)) (.var 3)), true)
abbrev asRa31 : Q × Bool := ((.le (.bi .sub (.bi .add (.var 5) (.int 3)) (.bi .add (.var 5) (.int 2))) (.int 0)), false)
abbrev asRa32 : Q × Bool := ((.le (.var 6) (.bi .add (.var 5) (.int 2))), false)
abbrev asRa33 : Q × Bool := ((.le (.int 128) txRa3), false)
abbrev asRa34 : Q × Bool := ((.le txRa42 (.int 2147483647)), true)
abbrev asRa35 : Q × Bool := ((.fit .i64 txRa42), true)
def numberC_t2 : List (Q × Bool) := [asRa0, asRa1, asRa2, asRa3, asRa4, asRa5, asRa6, asRa7, asRa8, asRa12, asRa13, asRa14, asRa15, asRa16, asRa17, asRa18, asRa19, asRa20, asRa24, asRa25, asRa26, asRa27, asRa28, asRa29, asRa30, asRa31, asRa32, asRa33, asRa34, asRa35]
def numberC_d2 : List Duty := [(true, txRa42, (.fn 21 (.bi .pair (.var 4) txRa8))), (true, (.bi .add (.var 5) (.int 3)), txRa18)]
theorem numberC_y2 : endC numberC [(1, 1), (3, 3)] 1000 (callC Try.prog (tellA numberC_t2) [] [] [] 3000 40 34 numberC) = some numberC_d2 := by kernel_rfl
abbrev asRa36 : Q × Bool := ((.le (.int 128) txRa3), true)
abbrev asRa37 : Q × Bool := ((.fit .i64 txRa4), true)
abbrev asRa38 : Q × Bool := ((.le (.int 1) txRa4), true)
abbrev asRa39 : Q × Bool := ((.fit .i64 (.bi .add (.var 5) (.int 4))), true)
abbrev asRa40 : Q × Bool := ((.le (.int 0) (.bi .add (.var 5) (.int 3))), true)
abbrev asRa41 : Q × Bool := ((.le (.bi .add (.var 5) (.int 3)) (.bi .add (.var 5) (.int 4))), true)
abbrev asRa42 : Q × Bool := ((.le (.bi .add (.var 5) (.int 4)) (.var 3)), true)
abbrev asRa43 : Q × Bool := ((.le (.bi .sub (.bi .add (.var 5) (.int 4)) (.bi .add (.var 5) (.int 3))) (.int 0)), false)
abbrev asRa44 : Q × Bool := ((.le (.var 6) (.bi .add (.var 5) (.int 3))), false)
abbrev asRa45 : Q × Bool := ((.le (.int 128) txRa5), false)
abbrev asRa46 : Q × Bool := ((.le txRa43 (.int 2147483647)), true)
abbrev asRa47 : Q × Bool := ((.fit .i64 txRa43), true)
def numberC_t3 : List (Q × Bool) := [asRa0, asRa1, asRa2, asRa3, asRa4, asRa5, asRa6, asRa7, asRa8, asRa12, asRa13, asRa14, asRa15, asRa16, asRa17, asRa18, asRa19, asRa20, asRa24, asRa25, asRa26, asRa27, asRa28, asRa29, asRa30, asRa31, asRa32, asRa36, asRa37, asRa38, asRa39, asRa40, asRa41, asRa42, asRa43, asRa44, asRa45, asRa46, asRa47]
def numberC_d3 : List Duty := [(true, txRa43, (.fn 21 (.bi .pair (.var 4) txRa8))), (true, (.bi .add (.var 5) (.int 4)), txRa18)]
theorem numberC_y3 : endC numberC [(1, 1), (3, 3)] 1000 (callC Try.prog (tellA numberC_t3) [] [] [] 3000 40 34 numberC) = some numberC_d3 := by kernel_rfl
abbrev asRa48 : Q × Bool := ((.le (.int 128) txRa5), true)
abbrev asRa49 : Q × Bool := ((.fit .i64 txRa6), true)
abbrev asRa50 : Q × Bool := ((.le (.int 1) txRa6), true)
abbrev asRa51 : Q × Bool := ((.fit .i64 (.bi .add (.var 5) (.int 5))), true)
abbrev asRa52 : Q × Bool := ((.le (.int 0) (.bi .add (.var 5) (.int 4))), true)
abbrev asRa53 : Q × Bool := ((.le (.bi .add (.var 5) (.int 4)) (.bi .add (.var 5) (.int 5))), true)
abbrev asRa54 : Q × Bool := ((.le (.bi .add (.var 5) (.int 5)) (.var 3)), true)
abbrev asRa55 : Q × Bool := ((.le (.bi .sub (.bi .add (.var 5) (.int 5)) (.bi .add (.var 5) (.int 4))) (.int 0)), false)
abbrev asRa56 : Q × Bool := ((.le (.var 6) (.bi .add (.var 5) (.int 4))), false)
abbrev asRa57 : Q × Bool := ((.le (.int 128) txRa7), false)
abbrev asRa58 : Q × Bool := ((.le txRa44 (.int 2147483647)), true)
abbrev asRa59 : Q × Bool := ((.fit .i64 txRa44), true)
def numberC_t4 : List (Q × Bool) := [asRa0, asRa1, asRa2, asRa3, asRa4, asRa5, asRa6, asRa7, asRa8, asRa12, asRa13, asRa14, asRa15, asRa16, asRa17, asRa18, asRa19, asRa20, asRa24, asRa25, asRa26, asRa27, asRa28, asRa29, asRa30, asRa31, asRa32, asRa36, asRa37, asRa38, asRa39, asRa40, asRa41, asRa42, asRa43, asRa44, asRa48, asRa49, asRa50, asRa51, asRa52, asRa53, asRa54, asRa55, asRa56, asRa57, asRa58, asRa59]
def numberC_d4 : List Duty := [(true, txRa44, (.fn 21 (.bi .pair (.var 4) txRa8))), (true, (.bi .add (.var 5) (.int 5)), txRa18)]
theorem numberC_y4 : endC numberC [(1, 1), (3, 3)] 1000 (callC Try.prog (tellA numberC_t4) [] [] [] 3000 40 34 numberC) = some numberC_d4 := by kernel_rfl
theorem numberC_holds : CHolds Try.prog 34 numberC F := by
  refine cholds_of sound (tableNil _ _) (specsNil _ _) (oversNil _ _) (fuel := 3000) (depth := 40) (by kernel_rfl) fun d hp hR hA => ?_
  have hp := allTold'_iff.2 hp
  simp only [numberC, allTold', dutiesTold, factsA, factsC, factsP, factsR, AV.facts, RW.facts, inK, and_true, Q.holds', E.i, E.s, E.n, D.nat, E.den, BO.den, UO.den, TO.den, D.toInt_int, D.toList_list, D.ints_ofInts, i64min, i64max, u8min, u8max, u16min, u16max, u32min, u32max, u64min, u64max, i32min, i32max, Om.sub, selI, ints_app, ints_cut, ints_upd, ints_rep, ints_splice, ints_seg, len_ints] at hp hR hA
  have hx : ∀ c ∈ (d 4).ints, 0 ≤ c ∧ c ≤ 255 := hR.2.2
  obtain ⟨c0, c1, c2, c3, c4, h0, h1, h2, h3, h4, g0, g1, g2, g3, g4, hn⟩ := num_at (x := (d 4).ints) (o := (d 5).toInt) (t := (d 2).toInt) (by omega) (by omega) hx
  simp only [F20, allTold', dutiesTold, factsA, factsC, factsP, factsR, AV.facts, RW.facts, inK, and_true, Q.holds', E.i, E.s, E.n, D.nat, E.den, BO.den, UO.den, TO.den, D.toInt_int, D.toList_list, D.ints_ofInts, i64min, i64max, u8min, u8max, u16min, u16max, u32min, u32max, u64min, u64max, i32min, i32max, Om.sub, selI, ints_app, ints_cut, ints_upd, ints_rep, ints_splice, ints_seg, len_ints] at hp
  rcases hn with hn | hn | hn | hn | hn | hn | hn | hn | hn | hn | hn | hn | hn
  · exfalso
    rw [hn.2] at hp
    omega
  · exfalso
    rw [hn.2.2] at hp
    omega
  · have hv := hn.2.2
    have r0 : iopI .rem .u8 c0 128 = c0 := by rw [rem_emod _ (by omega)]; omega
    refine ⟨tellA numberC_t0, _, _, _, tellA_ok (allTold'_iff.1 ?_), numberC_y0, dutiesTold_ok ?_⟩
    · simp only [numberC_t0, allTold', dutiesTold, factsA, factsC, factsP, factsR, AV.facts, RW.facts, inK, and_true, Q.holds', E.i, E.s, E.n, D.nat, E.den, BO.den, UO.den, TO.den, D.toInt_int, D.toList_list, D.ints_ofInts, i64min, i64max, u8min, u8max, u16min, u16max, u32min, u32max, u64min, u64max, i32min, i32max, Om.sub, selI, ints_app, ints_cut, ints_upd, ints_rep, ints_splice, ints_seg, len_ints]
      try simp only [← h0, ← h1, ← h2, ← h3, ← h4, r0]
      and_intros <;> first | omega | trivial
    · simp only [numberC_d0, F20, F21, F22, F23, F24, allTold', dutiesTold, factsA, factsC, factsP, factsR, AV.facts, RW.facts, inK, and_true, Q.holds', E.i, E.s, E.n, D.nat, E.den, BO.den, UO.den, TO.den, D.toInt_int, D.toList_list, D.ints_ofInts, i64min, i64max, u8min, u8max, u16min, u16max, u32min, u32max, u64min, u64max, i32min, i32max, Om.sub, selI, ints_app, ints_cut, ints_upd, ints_rep, ints_splice, ints_seg, len_ints]
      try simp only [← h0, ← h1, ← h2, ← h3, ← h4, r0, hv]
      first | done | omega | (and_intros <;> first | rfl | omega | trivial)
  · exfalso
    rw [hn.2.2.2] at hp
    omega
  · have hv := hn.2.2.2
    have r0 : iopI .rem .u8 c0 128 = c0 - 128 := by rw [rem_emod _ (by omega)]; omega
    have r1 : iopI .rem .u8 c1 128 = c1 := by rw [rem_emod _ (by omega)]; omega
    have e1 : iopI .or .u64 (iopI .shl .u64 (c0 - 128) 7) c1 = (c0 - 128) * 128 + c1 := or7 (by omega) (by omega) (by omega) (by omega)
    refine ⟨tellA numberC_t1, _, _, _, tellA_ok (allTold'_iff.1 ?_), numberC_y1, dutiesTold_ok ?_⟩
    · simp only [numberC_t1, allTold', dutiesTold, factsA, factsC, factsP, factsR, AV.facts, RW.facts, inK, and_true, Q.holds', E.i, E.s, E.n, D.nat, E.den, BO.den, UO.den, TO.den, D.toInt_int, D.toList_list, D.ints_ofInts, i64min, i64max, u8min, u8max, u16min, u16max, u32min, u32max, u64min, u64max, i32min, i32max, Om.sub, selI, ints_app, ints_cut, ints_upd, ints_rep, ints_splice, ints_seg, len_ints]
      try simp only [← h0, ← h1, ← h2, ← h3, ← h4, r0, r1, e1]
      and_intros <;> first | omega | trivial
    · simp only [numberC_d1, F20, F21, F22, F23, F24, allTold', dutiesTold, factsA, factsC, factsP, factsR, AV.facts, RW.facts, inK, and_true, Q.holds', E.i, E.s, E.n, D.nat, E.den, BO.den, UO.den, TO.den, D.toInt_int, D.toList_list, D.ints_ofInts, i64min, i64max, u8min, u8max, u16min, u16max, u32min, u32max, u64min, u64max, i32min, i32max, Om.sub, selI, ints_app, ints_cut, ints_upd, ints_rep, ints_splice, ints_seg, len_ints]
      try simp only [← h0, ← h1, ← h2, ← h3, ← h4, r0, r1, e1, hv]
      first | done | omega | (and_intros <;> first | rfl | omega | trivial)
  · exfalso
    rw [hn.2.2.2.2] at hp
    omega
  · have hv := hn.2.2.2.2
    have r0 : iopI .rem .u8 c0 128 = c0 - 128 := by rw [rem_emod _ (by omega)]; omega
    have r1 : iopI .rem .u8 c1 128 = c1 - 128 := by rw [rem_emod _ (by omega)]; omega
    have r2 : iopI .rem .u8 c2 128 = c2 := by rw [rem_emod _ (by omega)]; omega
    have e1 : iopI .or .u64 (iopI .shl .u64 (c0 - 128) 7) (c1 - 128) = (c0 - 128) * 128 + (c1 - 128) := or7 (by omega) (by omega) (by omega) (by omega)
    have e2 : iopI .or .u64 (iopI .shl .u64 ((c0 - 128) * 128 + (c1 - 128)) 7) c2 = ((c0 - 128) * 128 + (c1 - 128)) * 128 + c2 := or7 (by omega) (by omega) (by omega) (by omega)
    refine ⟨tellA numberC_t2, _, _, _, tellA_ok (allTold'_iff.1 ?_), numberC_y2, dutiesTold_ok ?_⟩
    · simp only [numberC_t2, allTold', dutiesTold, factsA, factsC, factsP, factsR, AV.facts, RW.facts, inK, and_true, Q.holds', E.i, E.s, E.n, D.nat, E.den, BO.den, UO.den, TO.den, D.toInt_int, D.toList_list, D.ints_ofInts, i64min, i64max, u8min, u8max, u16min, u16max, u32min, u32max, u64min, u64max, i32min, i32max, Om.sub, selI, ints_app, ints_cut, ints_upd, ints_rep, ints_splice, ints_seg, len_ints]
      try simp only [← h0, ← h1, ← h2, ← h3, ← h4, r0, r1, r2, e1, e2]
      and_intros <;> first | omega | trivial
    · simp only [numberC_d2, F20, F21, F22, F23, F24, allTold', dutiesTold, factsA, factsC, factsP, factsR, AV.facts, RW.facts, inK, and_true, Q.holds', E.i, E.s, E.n, D.nat, E.den, BO.den, UO.den, TO.den, D.toInt_int, D.toList_list, D.ints_ofInts, i64min, i64max, u8min, u8max, u16min, u16max, u32min, u32max, u64min, u64max, i32min, i32max, Om.sub, selI, ints_app, ints_cut, ints_upd, ints_rep, ints_splice, ints_seg, len_ints]
      try simp only [← h0, ← h1, ← h2, ← h3, ← h4, r0, r1, r2, e1, e2, hv]
      first | done | omega | (and_intros <;> first | rfl | omega | trivial)
  · exfalso
    rw [hn.2.2.2.2.2] at hp
    omega
  · have hv := hn.2.2.2.2.2
    have r0 : iopI .rem .u8 c0 128 = c0 - 128 := by rw [rem_emod _ (by omega)]; omega
    have r1 : iopI .rem .u8 c1 128 = c1 - 128 := by rw [rem_emod _ (by omega)]; omega
    have r2 : iopI .rem .u8 c2 128 = c2 - 128 := by rw [rem_emod _ (by omega)]; omega
    have r3 : iopI .rem .u8 c3 128 = c3 := by rw [rem_emod _ (by omega)]; omega
    have e1 : iopI .or .u64 (iopI .shl .u64 (c0 - 128) 7) (c1 - 128) = (c0 - 128) * 128 + (c1 - 128) := or7 (by omega) (by omega) (by omega) (by omega)
    have e2 : iopI .or .u64 (iopI .shl .u64 ((c0 - 128) * 128 + (c1 - 128)) 7) (c2 - 128) = ((c0 - 128) * 128 + (c1 - 128)) * 128 + (c2 - 128) := or7 (by omega) (by omega) (by omega) (by omega)
    have e3 : iopI .or .u64 (iopI .shl .u64 (((c0 - 128) * 128 + (c1 - 128)) * 128 + (c2 - 128)) 7) c3 = (((c0 - 128) * 128 + (c1 - 128)) * 128 + (c2 - 128)) * 128 + c3 := or7 (by omega) (by omega) (by omega) (by omega)
    refine ⟨tellA numberC_t3, _, _, _, tellA_ok (allTold'_iff.1 ?_), numberC_y3, dutiesTold_ok ?_⟩
    · simp only [numberC_t3, allTold', dutiesTold, factsA, factsC, factsP, factsR, AV.facts, RW.facts, inK, and_true, Q.holds', E.i, E.s, E.n, D.nat, E.den, BO.den, UO.den, TO.den, D.toInt_int, D.toList_list, D.ints_ofInts, i64min, i64max, u8min, u8max, u16min, u16max, u32min, u32max, u64min, u64max, i32min, i32max, Om.sub, selI, ints_app, ints_cut, ints_upd, ints_rep, ints_splice, ints_seg, len_ints]
      try simp only [← h0, ← h1, ← h2, ← h3, ← h4, r0, r1, r2, r3, e1, e2, e3]
      and_intros <;> first | omega | trivial
    · simp only [numberC_d3, F20, F21, F22, F23, F24, allTold', dutiesTold, factsA, factsC, factsP, factsR, AV.facts, RW.facts, inK, and_true, Q.holds', E.i, E.s, E.n, D.nat, E.den, BO.den, UO.den, TO.den, D.toInt_int, D.toList_list, D.ints_ofInts, i64min, i64max, u8min, u8max, u16min, u16max, u32min, u32max, u64min, u64max, i32min, i32max, Om.sub, selI, ints_app, ints_cut, ints_upd, ints_rep, ints_splice, ints_seg, len_ints]
      try simp only [← h0, ← h1, ← h2, ← h3, ← h4, r0, r1, r2, r3, e1, e2, e3, hv]
      first | done | omega | (and_intros <;> first | rfl | omega | trivial)
  · exfalso
    rw [hn.2.2.2.2.2.2] at hp
    omega
  · have hv := hn.2.2.2.2.2.2.2
    have r0 : iopI .rem .u8 c0 128 = c0 - 128 := by rw [rem_emod _ (by omega)]; omega
    have r1 : iopI .rem .u8 c1 128 = c1 - 128 := by rw [rem_emod _ (by omega)]; omega
    have r2 : iopI .rem .u8 c2 128 = c2 - 128 := by rw [rem_emod _ (by omega)]; omega
    have r3 : iopI .rem .u8 c3 128 = c3 - 128 := by rw [rem_emod _ (by omega)]; omega
    have r4 : iopI .rem .u8 c4 128 = c4 := by rw [rem_emod _ (by omega)]; omega
    have e1 : iopI .or .u64 (iopI .shl .u64 (c0 - 128) 7) (c1 - 128) = (c0 - 128) * 128 + (c1 - 128) := or7 (by omega) (by omega) (by omega) (by omega)
    have e2 : iopI .or .u64 (iopI .shl .u64 ((c0 - 128) * 128 + (c1 - 128)) 7) (c2 - 128) = ((c0 - 128) * 128 + (c1 - 128)) * 128 + (c2 - 128) := or7 (by omega) (by omega) (by omega) (by omega)
    have e3 : iopI .or .u64 (iopI .shl .u64 (((c0 - 128) * 128 + (c1 - 128)) * 128 + (c2 - 128)) 7) (c3 - 128) = (((c0 - 128) * 128 + (c1 - 128)) * 128 + (c2 - 128)) * 128 + (c3 - 128) := or7 (by omega) (by omega) (by omega) (by omega)
    have e4 : iopI .or .u64 (iopI .shl .u64 ((((c0 - 128) * 128 + (c1 - 128)) * 128 + (c2 - 128)) * 128 + (c3 - 128)) 7) c4 = ((((c0 - 128) * 128 + (c1 - 128)) * 128 + (c2 - 128)) * 128 + (c3 - 128)) * 128 + c4 := or7 (by omega) (by omega) (by omega) (by omega)
    refine ⟨tellA numberC_t4, _, _, _, tellA_ok (allTold'_iff.1 ?_), numberC_y4, dutiesTold_ok ?_⟩
    · simp only [numberC_t4, allTold', dutiesTold, factsA, factsC, factsP, factsR, AV.facts, RW.facts, inK, and_true, Q.holds', E.i, E.s, E.n, D.nat, E.den, BO.den, UO.den, TO.den, D.toInt_int, D.toList_list, D.ints_ofInts, i64min, i64max, u8min, u8max, u16min, u16max, u32min, u32max, u64min, u64max, i32min, i32max, Om.sub, selI, ints_app, ints_cut, ints_upd, ints_rep, ints_splice, ints_seg, len_ints]
      try simp only [← h0, ← h1, ← h2, ← h3, ← h4, r0, r1, r2, r3, r4, e1, e2, e3, e4]
      and_intros <;> first | omega | trivial
    · simp only [numberC_d4, F20, F21, F22, F23, F24, allTold', dutiesTold, factsA, factsC, factsP, factsR, AV.facts, RW.facts, inK, and_true, Q.holds', E.i, E.s, E.n, D.nat, E.den, BO.den, UO.den, TO.den, D.toInt_int, D.toList_list, D.ints_ofInts, i64min, i64max, u8min, u8max, u16min, u16max, u32min, u32max, u64min, u64max, i32min, i32max, Om.sub, selI, ints_app, ints_cut, ints_upd, ints_rep, ints_splice, ints_seg, len_ints]
      try simp only [← h0, ← h1, ← h2, ← h3, ← h4, r0, r1, r2, r3, r4, e1, e2, e3, e4, hv]
      first | done | omega | (and_intros <;> first | rfl | omega | trivial)
  · exfalso
    rw [hn.2.2.2.2.2.2.2] at hp
    omega
  · exfalso
    rw [hn.2.2.2.2.2.2] at hp
    omega

def awakeC : CSpec := ⟨[], 0, [], [], .bool true, [], []⟩
set_option maxRecDepth 100000 in
theorem awakeC_y : endC awakeC [] 1000 (callW Try.prog F noAsk [] [] [] 8000 80 5 awakeC) = some [] := by kernel_rfl
theorem awakeC_holds : CHolds Try.prog 5 awakeC F := choldsW_of sound (tableNil _ _) (specsNil _ _) (oversNil _ _) (by kernel_rfl) fun d _ _ _ => ⟨noAsk, [], 1000, [], noAsk_ok _, awakeC_y, fun p hp => by cases hp⟩

def intP : CSpec := { args := [.ptr 1 0, .sint .i64 (.var 7), .sint .i64 (.var 8)], next := 2, rows := [(1, .cells 53 0 false false [.ptr 1 0, .sslice 3 (.int 0) (.var 2) (.var 3) true, .sint .i64 (.var 5), .sint .i64 (.var 9), .sint .i64 (.var 10)]), (3, .eseq ⟨.u8, .var 6, .var 4⟩)], pre := [(.le (.int 0) (.var 5), true), (.le (.var 5) (.var 2), true), (.le (.var 2) (.var 6), true), (.le (.var 2) (.var 3), true), (.le (.var 3) (.int 1000000), true)], res := .sint .i64 (.fn 50 txRa38), frows := [(1, .cells 53 0 false false [.ptr 1 0, .sslice 3 (.int 0) (.var 2) (.var 3) true, .sint .i64 (.fn 51 txRa38), .sint .i64 (.fn 52 txRa38), .sint .i64 (.fn 53 txRa38)])], same := [1, 3] }
abbrev asRa60 : Q × Bool := ((.eq (.var 9) (.int 0)), false)
def intP_t0 : List (Q × Bool) := [asRa60]
def intP_d0 : List Duty := [(true, (.int 0), (.fn 50 txRa38)), (true, (.var 5), (.fn 51 txRa38)), (true, (.var 9), (.fn 52 txRa38)), (true, (.var 10), (.fn 53 txRa38))]
theorem intP_y0 : endC intP [(1, 1), (3, 3)] 1000 (callC Try.prog (tellA intP_t0) [] [(34, numberC)] [] 3000 40 11 intP) = some intP_d0 := by kernel_rfl
abbrev asRa61 : Q × Bool := ((.eq (.var 9) (.int 0)), true)
abbrev asRa62 : Q × Bool := ((.le (.var 5) (.var 2)), true)
abbrev asRa63 : Q × Bool := ((.le (.var 2) (.var 6)), true)
abbrev asRa64 : Q × Bool := ((.le (.var 2) (.var 3)), true)
abbrev asRa65 : Q × Bool := ((.le (.var 3) (.int 1000000)), true)
abbrev asRa66 : Q × Bool := ((.eq (.fn 20 (.bi .pair (.var 4) txRa8)) (.int 0)), false)
abbrev asRa67 : Q × Bool := ((.le (.int 1) (.bi .sub (.var 2) (.var 5))), false)
def intP_t1 : List (Q × Bool) := [asRa61, asRa4, asRa62, asRa63, asRa64, asRa65, asRa66, asRa0, asRa1, asRa67]
def intP_d1 : List Duty := [(true, (.int 0), (.fn 50 txRa38)), (true, (.var 5), (.fn 51 txRa38)), (true, (.int 4), (.fn 52 txRa38)), (true, (.var 2), (.fn 53 txRa38))]
theorem intP_y1 : endC intP [(1, 1), (3, 3)] 1000 (callC Try.prog (tellA intP_t1) [] [(34, numberC)] [] 3000 40 11 intP) = some intP_d1 := by kernel_rfl
abbrev asRa68 : Q × Bool := ((.eq (.bi .sel (.var 4) (.var 5)) (.int 128)), true)
def intP_t2 : List (Q × Bool) := [asRa61, asRa4, asRa62, asRa63, asRa64, asRa65, asRa66, asRa0, asRa1, asRa2, asRa3, asRa5, asRa6, asRa7, asRa68]
def intP_d2 : List Duty := [(true, (.int 0), (.fn 50 txRa38)), (true, (.var 5), (.fn 51 txRa38)), (true, (.int 4), (.fn 52 txRa38)), (true, (.var 5), (.fn 53 txRa38))]
theorem intP_y2 : endC intP [(1, 1), (3, 3)] 1000 (callC Try.prog (tellA intP_t2) [] [(34, numberC)] [] 3000 40 11 intP) = some intP_d2 := by kernel_rfl
abbrev asRa69 : Q × Bool := ((.le (.int 1) txRa0), false)
def intP_t3 : List (Q × Bool) := [asRa61, asRa4, asRa62, asRa63, asRa64, asRa65, asRa66, asRa0, asRa1, asRa2, asRa3, asRa5, asRa6, asRa7, asRa8, asRa12, asRa13, asRa69]
def intP_d3 : List Duty := [(true, (.int 0), (.fn 50 txRa38)), (true, (.var 5), (.fn 51 txRa38)), (true, (.int 4), (.fn 52 txRa38)), (true, (.var 2), (.fn 53 txRa38))]
theorem intP_y3 : endC intP [(1, 1), (3, 3)] 1000 (callC Try.prog (tellA intP_t3) [] [(34, numberC)] [] 3000 40 11 intP) = some intP_d3 := by kernel_rfl
abbrev asRa70 : Q × Bool := ((.le (.int 1) txRa2), false)
def intP_t4 : List (Q × Bool) := [asRa61, asRa4, asRa62, asRa63, asRa64, asRa65, asRa66, asRa0, asRa1, asRa2, asRa3, asRa5, asRa6, asRa7, asRa8, asRa12, asRa13, asRa14, asRa15, asRa16, asRa17, asRa18, asRa19, asRa20, asRa24, asRa25, asRa70]
def intP_d4 : List Duty := [(true, (.int 0), (.fn 50 txRa38)), (true, (.var 5), (.fn 51 txRa38)), (true, (.int 4), (.fn 52 txRa38)), (true, (.var 2), (.fn 53 txRa38))]
theorem intP_y4 : endC intP [(1, 1), (3, 3)] 1000 (callC Try.prog (tellA intP_t4) [] [(34, numberC)] [] 3000 40 11 intP) = some intP_d4 := by kernel_rfl
abbrev asRa71 : Q × Bool := ((.le (.int 1) txRa4), false)
def intP_t5 : List (Q × Bool) := [asRa61, asRa4, asRa62, asRa63, asRa64, asRa65, asRa66, asRa0, asRa1, asRa2, asRa3, asRa5, asRa6, asRa7, asRa8, asRa12, asRa13, asRa14, asRa15, asRa16, asRa17, asRa18, asRa19, asRa20, asRa24, asRa25, asRa26, asRa27, asRa28, asRa29, asRa30, asRa31, asRa32, asRa36, asRa37, asRa71]
def intP_d5 : List Duty := [(true, (.int 0), (.fn 50 txRa38)), (true, (.var 5), (.fn 51 txRa38)), (true, (.int 4), (.fn 52 txRa38)), (true, (.var 2), (.fn 53 txRa38))]
theorem intP_y5 : endC intP [(1, 1), (3, 3)] 1000 (callC Try.prog (tellA intP_t5) [] [(34, numberC)] [] 3000 40 11 intP) = some intP_d5 := by kernel_rfl
abbrev asRa72 : Q × Bool := ((.le (.int 1) txRa6), false)
def intP_t6 : List (Q × Bool) := [asRa61, asRa4, asRa62, asRa63, asRa64, asRa65, asRa66, asRa0, asRa1, asRa2, asRa3, asRa5, asRa6, asRa7, asRa8, asRa12, asRa13, asRa14, asRa15, asRa16, asRa17, asRa18, asRa19, asRa20, asRa24, asRa25, asRa26, asRa27, asRa28, asRa29, asRa30, asRa31, asRa32, asRa36, asRa37, asRa38, asRa39, asRa40, asRa41, asRa42, asRa43, asRa44, asRa48, asRa49, asRa72]
def intP_d6 : List Duty := [(true, (.int 0), (.fn 50 txRa38)), (true, (.var 5), (.fn 51 txRa38)), (true, (.int 4), (.fn 52 txRa38)), (true, (.var 2), (.fn 53 txRa38))]
theorem intP_y6 : endC intP [(1, 1), (3, 3)] 1000 (callC Try.prog (tellA intP_t6) [] [(34, numberC)] [] 3000 40 11 intP) = some intP_d6 := by kernel_rfl
abbrev asRa73 : Q × Bool := ((.le (.int 128) txRa7), true)
def intP_t7 : List (Q × Bool) := [asRa61, asRa4, asRa62, asRa63, asRa64, asRa65, asRa66, asRa0, asRa1, asRa2, asRa3, asRa5, asRa6, asRa7, asRa8, asRa12, asRa13, asRa14, asRa15, asRa16, asRa17, asRa18, asRa19, asRa20, asRa24, asRa25, asRa26, asRa27, asRa28, asRa29, asRa30, asRa31, asRa32, asRa36, asRa37, asRa38, asRa39, asRa40, asRa41, asRa42, asRa43, asRa44, asRa48, asRa49, asRa50, asRa51, asRa52, asRa53, asRa54, asRa55, asRa56, asRa73]
def intP_d7 : List Duty := [(true, (.int 0), (.fn 50 txRa38)), (true, (.var 5), (.fn 51 txRa38)), (true, (.int 5), (.fn 52 txRa38)), (true, (.var 5), (.fn 53 txRa38))]
theorem intP_y7 : endC intP [(1, 1), (3, 3)] 1000 (callC Try.prog (tellA intP_t7) [] [(34, numberC)] [] 3000 40 11 intP) = some intP_d7 := by kernel_rfl
abbrev asRa74 : Q × Bool := ((.le txRa44 (.int 2147483647)), false)
def intP_t8 : List (Q × Bool) := [asRa61, asRa4, asRa62, asRa63, asRa64, asRa65, asRa66, asRa0, asRa1, asRa2, asRa3, asRa5, asRa6, asRa7, asRa8, asRa12, asRa13, asRa14, asRa15, asRa16, asRa17, asRa18, asRa19, asRa20, asRa24, asRa25, asRa26, asRa27, asRa28, asRa29, asRa30, asRa31, asRa32, asRa36, asRa37, asRa38, asRa39, asRa40, asRa41, asRa42, asRa43, asRa44, asRa48, asRa49, asRa50, asRa51, asRa52, asRa53, asRa54, asRa55, asRa56, asRa57, asRa74]
def intP_d8 : List Duty := [(true, (.int 0), (.fn 50 txRa38)), (true, (.var 5), (.fn 51 txRa38)), (true, (.int 5), (.fn 52 txRa38)), (true, (.var 5), (.fn 53 txRa38))]
theorem intP_y8 : endC intP [(1, 1), (3, 3)] 1000 (callC Try.prog (tellA intP_t8) [] [(34, numberC)] [] 3000 40 11 intP) = some intP_d8 := by kernel_rfl
abbrev asRa75 : Q × Bool := ((.eq (.fn 20 (.bi .pair (.var 4) txRa8)) (.int 0)), true)
abbrev asRa76 : Q × Bool := ((.le (.var 7) (.fn 21 (.bi .pair (.var 4) txRa8))), false)
def intP_t9 : List (Q × Bool) := [asRa61, asRa4, asRa62, asRa63, asRa64, asRa65, asRa75, asRa76]
def intP_d9 : List Duty := [(true, (.int 0), (.fn 50 txRa38)), (true, (.var 5), (.fn 51 txRa38)), (true, (.int 5), (.fn 52 txRa38)), (true, (.var 5), (.fn 53 txRa38))]
theorem intP_y9 : endC intP [(1, 1), (3, 3)] 1000 (callC Try.prog (tellA intP_t9) [] [(34, numberC)] [] 3000 40 11 intP) = some intP_d9 := by kernel_rfl
abbrev asRa77 : Q × Bool := ((.le (.var 7) (.fn 21 (.bi .pair (.var 4) txRa8))), true)
abbrev asRa78 : Q × Bool := ((.le (.fn 21 (.bi .pair (.var 4) txRa8)) (.var 8)), false)
def intP_t10 : List (Q × Bool) := [asRa61, asRa4, asRa62, asRa63, asRa64, asRa65, asRa75, asRa77, asRa78]
def intP_d10 : List Duty := [(true, (.int 0), (.fn 50 txRa38)), (true, (.var 5), (.fn 51 txRa38)), (true, (.int 5), (.fn 52 txRa38)), (true, (.var 5), (.fn 53 txRa38))]
theorem intP_y10 : endC intP [(1, 1), (3, 3)] 1000 (callC Try.prog (tellA intP_t10) [] [(34, numberC)] [] 3000 40 11 intP) = some intP_d10 := by kernel_rfl
abbrev asRa79 : Q × Bool := ((.le (.fn 21 (.bi .pair (.var 4) txRa8)) (.var 8)), true)
def intP_t11 : List (Q × Bool) := [asRa61, asRa4, asRa62, asRa63, asRa64, asRa65, asRa75, asRa77, asRa79]
def intP_d11 : List Duty := [(true, (.fn 21 (.bi .pair (.var 4) txRa8)), (.fn 50 txRa38)), (true, txRa18, (.fn 51 txRa38)), (true, (.var 9), (.fn 52 txRa38)), (true, (.var 10), (.fn 53 txRa38))]
theorem intP_y11 : endC intP [(1, 1), (3, 3)] 1000 (callC Try.prog (tellA intP_t11) [] [(34, numberC)] [] 3000 40 11 intP) = some intP_d11 := by kernel_rfl
theorem intP_holds : CHolds Try.prog 11 intP F := by
  refine cholds_of sound (tableNil _ _) (specsCons numberC_holds (specsNil _ _)) (oversNil _ _) (fuel := 3000) (depth := 40) (by kernel_rfl) fun d hp hR hA => ?_
  have hp := allTold'_iff.2 hp
  simp only [intP, allTold', dutiesTold, factsA, factsC, factsP, factsR, AV.facts, RW.facts, inK, and_true, Q.holds', E.i, E.s, E.n, D.nat, E.den, BO.den, UO.den, TO.den, D.toInt_int, D.toList_list, D.ints_ofInts, i64min, i64max, u8min, u8max, u16min, u16max, u32min, u32max, u64min, u64max, i32min, i32max, Om.sub, selI, ints_app, ints_cut, ints_upd, ints_rep, ints_splice, ints_seg, len_ints] at hp hR hA
  by_cases e0 : (d 9).toInt = 0
  · by_cases k0 : (numL (prt (d 4).ints (d 5).toInt (d 2).toInt)).1 = 0
    · have nv := num_val (x := (d 4).ints) (o := (d 5).toInt) (t := (d 2).toInt) (by omega) (by omega) hR.2.2 k0
      by_cases lo : (numL (prt (d 4).ints (d 5).toInt (d 2).toInt)).2.1 < (d 7).toInt
      · refine ⟨tellA intP_t9, _, _, _, tellA_ok (allTold'_iff.1 ?_), intP_y9, dutiesTold_ok ?_⟩
        · simp only [intP_t9, F20, F21, F22, allTold', dutiesTold, factsA, factsC, factsP, factsR, AV.facts, RW.facts, inK, and_true, Q.holds', E.i, E.s, E.n, D.nat, E.den, BO.den, UO.den, TO.den, D.toInt_int, D.toList_list, D.ints_ofInts, i64min, i64max, u8min, u8max, u16min, u16max, u32min, u32max, u64min, u64max, i32min, i32max, Om.sub, selI, ints_app, ints_cut, ints_upd, ints_rep, ints_splice, ints_seg, len_ints]
          first | done | omega | (and_intros <;> first | omega | trivial)
        · simp only [intP_d9, F21, F22, F50, F51, F52, F53, allTold', dutiesTold, factsA, factsC, factsP, factsR, AV.facts, RW.facts, inK, and_true, Q.holds', E.i, E.s, E.n, D.nat, E.den, BO.den, UO.den, TO.den, D.toInt_int, D.toList_list, D.ints_ofInts, i64min, i64max, u8min, u8max, u16min, u16max, u32min, u32max, u64min, u64max, i32min, i32max, Om.sub, selI, ints_app, ints_cut, ints_upd, ints_rep, ints_splice, ints_seg, len_ints]
          simp only [rdS_l5 e0 k0 lo]
          first | done | omega | (and_intros <;> first | rfl | omega | exact cut0 _ _ | exact cutC (by omega) (by omega) | trivial)
      · by_cases hi : (d 8).toInt < (numL (prt (d 4).ints (d 5).toInt (d 2).toInt)).2.1
        · refine ⟨tellA intP_t10, _, _, _, tellA_ok (allTold'_iff.1 ?_), intP_y10, dutiesTold_ok ?_⟩
          · simp only [intP_t10, F20, F21, F22, allTold', dutiesTold, factsA, factsC, factsP, factsR, AV.facts, RW.facts, inK, and_true, Q.holds', E.i, E.s, E.n, D.nat, E.den, BO.den, UO.den, TO.den, D.toInt_int, D.toList_list, D.ints_ofInts, i64min, i64max, u8min, u8max, u16min, u16max, u32min, u32max, u64min, u64max, i32min, i32max, Om.sub, selI, ints_app, ints_cut, ints_upd, ints_rep, ints_splice, ints_seg, len_ints]
            first | done | omega | (and_intros <;> first | omega | trivial)
          · simp only [intP_d10, F21, F22, F50, F51, F52, F53, allTold', dutiesTold, factsA, factsC, factsP, factsR, AV.facts, RW.facts, inK, and_true, Q.holds', E.i, E.s, E.n, D.nat, E.den, BO.den, UO.den, TO.den, D.toInt_int, D.toList_list, D.ints_ofInts, i64min, i64max, u8min, u8max, u16min, u16max, u32min, u32max, u64min, u64max, i32min, i32max, Om.sub, selI, ints_app, ints_cut, ints_upd, ints_rep, ints_splice, ints_seg, len_ints]
            simp only [rdS_hi e0 k0 hi]
            first | done | omega | (and_intros <;> first | rfl | omega | exact cut0 _ _ | exact cutC (by omega) (by omega) | trivial)
        · refine ⟨tellA intP_t11, _, _, _, tellA_ok (allTold'_iff.1 ?_), intP_y11, dutiesTold_ok ?_⟩
          · simp only [intP_t11, F20, F21, F22, allTold', dutiesTold, factsA, factsC, factsP, factsR, AV.facts, RW.facts, inK, and_true, Q.holds', E.i, E.s, E.n, D.nat, E.den, BO.den, UO.den, TO.den, D.toInt_int, D.toList_list, D.ints_ofInts, i64min, i64max, u8min, u8max, u16min, u16max, u32min, u32max, u64min, u64max, i32min, i32max, Om.sub, selI, ints_app, ints_cut, ints_upd, ints_rep, ints_splice, ints_seg, len_ints]
            first | done | omega | (and_intros <;> first | omega | trivial)
          · simp only [intP_d11, F21, F22, F50, F51, F52, F53, allTold', dutiesTold, factsA, factsC, factsP, factsR, AV.facts, RW.facts, inK, and_true, Q.holds', E.i, E.s, E.n, D.nat, E.den, BO.den, UO.den, TO.den, D.toInt_int, D.toList_list, D.ints_ofInts, i64min, i64max, u8min, u8max, u16min, u16max, u32min, u32max, u64min, u64max, i32min, i32max, Om.sub, selI, ints_app, ints_cut, ints_upd, ints_rep, ints_splice, ints_seg, len_ints]
            simp only [rdS_ok e0 k0 hi lo]
            first | done | omega | (and_intros <;> first | rfl | omega | exact cut0 _ _ | exact cutC (by omega) (by omega) | trivial)
    · have hx : ∀ c ∈ (d 4).ints, 0 ≤ c ∧ c ≤ 255 := hR.2.2
      obtain ⟨c0, c1, c2, c3, c4, h0, h1, h2, h3, h4, g0, g1, g2, g3, g4, hn⟩ := num_at (x := (d 4).ints) (o := (d 5).toInt) (t := (d 2).toInt) (by omega) (by omega) hx
      rcases hn with hn | hn | hn | hn | hn | hn | hn | hn | hn | hn | hn | hn | hn
      · have hv := hn.2
        refine ⟨tellA intP_t1, _, _, _, tellA_ok (allTold'_iff.1 ?_), intP_y1, dutiesTold_ok ?_⟩
        · simp only [intP_t1, F20, allTold', dutiesTold, factsA, factsC, factsP, factsR, AV.facts, RW.facts, inK, and_true, Q.holds', E.i, E.s, E.n, D.nat, E.den, BO.den, UO.den, TO.den, D.toInt_int, D.toList_list, D.ints_ofInts, i64min, i64max, u8min, u8max, u16min, u16max, u32min, u32max, u64min, u64max, i32min, i32max, Om.sub, selI, ints_app, ints_cut, ints_upd, ints_rep, ints_splice, ints_seg, len_ints]
          try simp only [← h0, ← h1, ← h2, ← h3, ← h4]
          and_intros <;> first | omega | trivial
        · simp only [intP_d1, F50, F51, F52, F53, F23, F24, allTold', dutiesTold, factsA, factsC, factsP, factsR, AV.facts, RW.facts, inK, and_true, Q.holds', E.i, E.s, E.n, D.nat, E.den, BO.den, UO.den, TO.den, D.toInt_int, D.toList_list, D.ints_ofInts, i64min, i64max, u8min, u8max, u16min, u16max, u32min, u32max, u64min, u64max, i32min, i32max, Om.sub, selI, ints_app, ints_cut, ints_upd, ints_rep, ints_splice, ints_seg, len_ints]
          try simp only [rdS_bad e0 k0, if_pos e0, if_neg k0, hv, ← h0, ← h1, ← h2, ← h3, ← h4]
          first | done | omega | (and_intros <;> first | rfl | omega | exact cut0 _ _ | trivial)
      · have hv := hn.2.2
        refine ⟨tellA intP_t2, _, _, _, tellA_ok (allTold'_iff.1 ?_), intP_y2, dutiesTold_ok ?_⟩
        · simp only [intP_t2, F20, allTold', dutiesTold, factsA, factsC, factsP, factsR, AV.facts, RW.facts, inK, and_true, Q.holds', E.i, E.s, E.n, D.nat, E.den, BO.den, UO.den, TO.den, D.toInt_int, D.toList_list, D.ints_ofInts, i64min, i64max, u8min, u8max, u16min, u16max, u32min, u32max, u64min, u64max, i32min, i32max, Om.sub, selI, ints_app, ints_cut, ints_upd, ints_rep, ints_splice, ints_seg, len_ints]
          try simp only [← h0, ← h1, ← h2, ← h3, ← h4]
          and_intros <;> first | omega | trivial
        · simp only [intP_d2, F50, F51, F52, F53, F23, F24, allTold', dutiesTold, factsA, factsC, factsP, factsR, AV.facts, RW.facts, inK, and_true, Q.holds', E.i, E.s, E.n, D.nat, E.den, BO.den, UO.den, TO.den, D.toInt_int, D.toList_list, D.ints_ofInts, i64min, i64max, u8min, u8max, u16min, u16max, u32min, u32max, u64min, u64max, i32min, i32max, Om.sub, selI, ints_app, ints_cut, ints_upd, ints_rep, ints_splice, ints_seg, len_ints]
          try simp only [rdS_bad e0 k0, if_pos e0, if_neg k0, hv, ← h0, ← h1, ← h2, ← h3, ← h4]
          first | done | omega | (and_intros <;> first | rfl | omega | exact cut0 _ _ | trivial)
      · exfalso
        rw [hn.2.2] at k0
        exact k0 rfl
      · have hv := hn.2.2.2
        have r0 : iopI .rem .u8 c0 128 = c0 - 128 := by rw [rem_emod _ (by omega)]; omega
        refine ⟨tellA intP_t3, _, _, _, tellA_ok (allTold'_iff.1 ?_), intP_y3, dutiesTold_ok ?_⟩
        · simp only [intP_t3, F20, allTold', dutiesTold, factsA, factsC, factsP, factsR, AV.facts, RW.facts, inK, and_true, Q.holds', E.i, E.s, E.n, D.nat, E.den, BO.den, UO.den, TO.den, D.toInt_int, D.toList_list, D.ints_ofInts, i64min, i64max, u8min, u8max, u16min, u16max, u32min, u32max, u64min, u64max, i32min, i32max, Om.sub, selI, ints_app, ints_cut, ints_upd, ints_rep, ints_splice, ints_seg, len_ints]
          try simp only [← h0, ← h1, ← h2, ← h3, ← h4, r0]
          and_intros <;> first | omega | trivial
        · simp only [intP_d3, F50, F51, F52, F53, F23, F24, allTold', dutiesTold, factsA, factsC, factsP, factsR, AV.facts, RW.facts, inK, and_true, Q.holds', E.i, E.s, E.n, D.nat, E.den, BO.den, UO.den, TO.den, D.toInt_int, D.toList_list, D.ints_ofInts, i64min, i64max, u8min, u8max, u16min, u16max, u32min, u32max, u64min, u64max, i32min, i32max, Om.sub, selI, ints_app, ints_cut, ints_upd, ints_rep, ints_splice, ints_seg, len_ints]
          try simp only [rdS_bad e0 k0, if_pos e0, if_neg k0, hv, ← h0, ← h1, ← h2, ← h3, ← h4, r0]
          first | done | omega | (and_intros <;> first | rfl | omega | exact cut0 _ _ | trivial)
      · exfalso
        rw [hn.2.2.2] at k0
        exact k0 rfl
      · have hv := hn.2.2.2.2
        have r0 : iopI .rem .u8 c0 128 = c0 - 128 := by rw [rem_emod _ (by omega)]; omega
        have r1 : iopI .rem .u8 c1 128 = c1 - 128 := by rw [rem_emod _ (by omega)]; omega
        have e1 : iopI .or .u64 (iopI .shl .u64 (c0 - 128) 7) (c1 - 128) = (c0 - 128) * 128 + (c1 - 128) := or7 (by omega) (by omega) (by omega) (by omega)
        refine ⟨tellA intP_t4, _, _, _, tellA_ok (allTold'_iff.1 ?_), intP_y4, dutiesTold_ok ?_⟩
        · simp only [intP_t4, F20, allTold', dutiesTold, factsA, factsC, factsP, factsR, AV.facts, RW.facts, inK, and_true, Q.holds', E.i, E.s, E.n, D.nat, E.den, BO.den, UO.den, TO.den, D.toInt_int, D.toList_list, D.ints_ofInts, i64min, i64max, u8min, u8max, u16min, u16max, u32min, u32max, u64min, u64max, i32min, i32max, Om.sub, selI, ints_app, ints_cut, ints_upd, ints_rep, ints_splice, ints_seg, len_ints]
          try simp only [← h0, ← h1, ← h2, ← h3, ← h4, r0, r1, e1]
          and_intros <;> first | omega | trivial
        · simp only [intP_d4, F50, F51, F52, F53, F23, F24, allTold', dutiesTold, factsA, factsC, factsP, factsR, AV.facts, RW.facts, inK, and_true, Q.holds', E.i, E.s, E.n, D.nat, E.den, BO.den, UO.den, TO.den, D.toInt_int, D.toList_list, D.ints_ofInts, i64min, i64max, u8min, u8max, u16min, u16max, u32min, u32max, u64min, u64max, i32min, i32max, Om.sub, selI, ints_app, ints_cut, ints_upd, ints_rep, ints_splice, ints_seg, len_ints]
          try simp only [rdS_bad e0 k0, if_pos e0, if_neg k0, hv, ← h0, ← h1, ← h2, ← h3, ← h4, r0, r1, e1]
          first | done | omega | (and_intros <;> first | rfl | omega | exact cut0 _ _ | trivial)
      · exfalso
        rw [hn.2.2.2.2] at k0
        exact k0 rfl
      · have hv := hn.2.2.2.2.2
        have r0 : iopI .rem .u8 c0 128 = c0 - 128 := by rw [rem_emod _ (by omega)]; omega
        have r1 : iopI .rem .u8 c1 128 = c1 - 128 := by rw [rem_emod _ (by omega)]; omega
        have r2 : iopI .rem .u8 c2 128 = c2 - 128 := by rw [rem_emod _ (by omega)]; omega
        have e1 : iopI .or .u64 (iopI .shl .u64 (c0 - 128) 7) (c1 - 128) = (c0 - 128) * 128 + (c1 - 128) := or7 (by omega) (by omega) (by omega) (by omega)
        have e2 : iopI .or .u64 (iopI .shl .u64 ((c0 - 128) * 128 + (c1 - 128)) 7) (c2 - 128) = ((c0 - 128) * 128 + (c1 - 128)) * 128 + (c2 - 128) := or7 (by omega) (by omega) (by omega) (by omega)
        refine ⟨tellA intP_t5, _, _, _, tellA_ok (allTold'_iff.1 ?_), intP_y5, dutiesTold_ok ?_⟩
        · simp only [intP_t5, F20, allTold', dutiesTold, factsA, factsC, factsP, factsR, AV.facts, RW.facts, inK, and_true, Q.holds', E.i, E.s, E.n, D.nat, E.den, BO.den, UO.den, TO.den, D.toInt_int, D.toList_list, D.ints_ofInts, i64min, i64max, u8min, u8max, u16min, u16max, u32min, u32max, u64min, u64max, i32min, i32max, Om.sub, selI, ints_app, ints_cut, ints_upd, ints_rep, ints_splice, ints_seg, len_ints]
          try simp only [← h0, ← h1, ← h2, ← h3, ← h4, r0, r1, r2, e1, e2]
          and_intros <;> first | omega | trivial
        · simp only [intP_d5, F50, F51, F52, F53, F23, F24, allTold', dutiesTold, factsA, factsC, factsP, factsR, AV.facts, RW.facts, inK, and_true, Q.holds', E.i, E.s, E.n, D.nat, E.den, BO.den, UO.den, TO.den, D.toInt_int, D.toList_list, D.ints_ofInts, i64min, i64max, u8min, u8max, u16min, u16max, u32min, u32max, u64min, u64max, i32min, i32max, Om.sub, selI, ints_app, ints_cut, ints_upd, ints_rep, ints_splice, ints_seg, len_ints]
          try simp only [rdS_bad e0 k0, if_pos e0, if_neg k0, hv, ← h0, ← h1, ← h2, ← h3, ← h4, r0, r1, r2, e1, e2]
          first | done | omega | (and_intros <;> first | rfl | omega | exact cut0 _ _ | trivial)
      · exfalso
        rw [hn.2.2.2.2.2] at k0
        exact k0 rfl
      · have hv := hn.2.2.2.2.2.2
        have r0 : iopI .rem .u8 c0 128 = c0 - 128 := by rw [rem_emod _ (by omega)]; omega
        have r1 : iopI .rem .u8 c1 128 = c1 - 128 := by rw [rem_emod _ (by omega)]; omega
        have r2 : iopI .rem .u8 c2 128 = c2 - 128 := by rw [rem_emod _ (by omega)]; omega
        have r3 : iopI .rem .u8 c3 128 = c3 - 128 := by rw [rem_emod _ (by omega)]; omega
        have e1 : iopI .or .u64 (iopI .shl .u64 (c0 - 128) 7) (c1 - 128) = (c0 - 128) * 128 + (c1 - 128) := or7 (by omega) (by omega) (by omega) (by omega)
        have e2 : iopI .or .u64 (iopI .shl .u64 ((c0 - 128) * 128 + (c1 - 128)) 7) (c2 - 128) = ((c0 - 128) * 128 + (c1 - 128)) * 128 + (c2 - 128) := or7 (by omega) (by omega) (by omega) (by omega)
        have e3 : iopI .or .u64 (iopI .shl .u64 (((c0 - 128) * 128 + (c1 - 128)) * 128 + (c2 - 128)) 7) (c3 - 128) = (((c0 - 128) * 128 + (c1 - 128)) * 128 + (c2 - 128)) * 128 + (c3 - 128) := or7 (by omega) (by omega) (by omega) (by omega)
        refine ⟨tellA intP_t6, _, _, _, tellA_ok (allTold'_iff.1 ?_), intP_y6, dutiesTold_ok ?_⟩
        · simp only [intP_t6, F20, allTold', dutiesTold, factsA, factsC, factsP, factsR, AV.facts, RW.facts, inK, and_true, Q.holds', E.i, E.s, E.n, D.nat, E.den, BO.den, UO.den, TO.den, D.toInt_int, D.toList_list, D.ints_ofInts, i64min, i64max, u8min, u8max, u16min, u16max, u32min, u32max, u64min, u64max, i32min, i32max, Om.sub, selI, ints_app, ints_cut, ints_upd, ints_rep, ints_splice, ints_seg, len_ints]
          try simp only [← h0, ← h1, ← h2, ← h3, ← h4, r0, r1, r2, r3, e1, e2, e3]
          and_intros <;> first | omega | trivial
        · simp only [intP_d6, F50, F51, F52, F53, F23, F24, allTold', dutiesTold, factsA, factsC, factsP, factsR, AV.facts, RW.facts, inK, and_true, Q.holds', E.i, E.s, E.n, D.nat, E.den, BO.den, UO.den, TO.den, D.toInt_int, D.toList_list, D.ints_ofInts, i64min, i64max, u8min, u8max, u16min, u16max, u32min, u32max, u64min, u64max, i32min, i32max, Om.sub, selI, ints_app, ints_cut, ints_upd, ints_rep, ints_splice, ints_seg, len_ints]
          try simp only [rdS_bad e0 k0, if_pos e0, if_neg k0, hv, ← h0, ← h1, ← h2, ← h3, ← h4, r0, r1, r2, r3, e1, e2, e3]
          first | done | omega | (and_intros <;> first | rfl | omega | exact cut0 _ _ | trivial)
      · exfalso
        rw [hn.2.2.2.2.2.2.2] at k0
        exact k0 rfl
      · have hv := hn.2.2.2.2.2.2.2
        have r0 : iopI .rem .u8 c0 128 = c0 - 128 := by rw [rem_emod _ (by omega)]; omega
        have r1 : iopI .rem .u8 c1 128 = c1 - 128 := by rw [rem_emod _ (by omega)]; omega
        have r2 : iopI .rem .u8 c2 128 = c2 - 128 := by rw [rem_emod _ (by omega)]; omega
        have r3 : iopI .rem .u8 c3 128 = c3 - 128 := by rw [rem_emod _ (by omega)]; omega
        have r4 : iopI .rem .u8 c4 128 = c4 := by rw [rem_emod _ (by omega)]; omega
        have e1 : iopI .or .u64 (iopI .shl .u64 (c0 - 128) 7) (c1 - 128) = (c0 - 128) * 128 + (c1 - 128) := or7 (by omega) (by omega) (by omega) (by omega)
        have e2 : iopI .or .u64 (iopI .shl .u64 ((c0 - 128) * 128 + (c1 - 128)) 7) (c2 - 128) = ((c0 - 128) * 128 + (c1 - 128)) * 128 + (c2 - 128) := or7 (by omega) (by omega) (by omega) (by omega)
        have e3 : iopI .or .u64 (iopI .shl .u64 (((c0 - 128) * 128 + (c1 - 128)) * 128 + (c2 - 128)) 7) (c3 - 128) = (((c0 - 128) * 128 + (c1 - 128)) * 128 + (c2 - 128)) * 128 + (c3 - 128) := or7 (by omega) (by omega) (by omega) (by omega)
        have e4 : iopI .or .u64 (iopI .shl .u64 ((((c0 - 128) * 128 + (c1 - 128)) * 128 + (c2 - 128)) * 128 + (c3 - 128)) 7) c4 = ((((c0 - 128) * 128 + (c1 - 128)) * 128 + (c2 - 128)) * 128 + (c3 - 128)) * 128 + c4 := or7 (by omega) (by omega) (by omega) (by omega)
        refine ⟨tellA intP_t8, _, _, _, tellA_ok (allTold'_iff.1 ?_), intP_y8, dutiesTold_ok ?_⟩
        · simp only [intP_t8, F20, allTold', dutiesTold, factsA, factsC, factsP, factsR, AV.facts, RW.facts, inK, and_true, Q.holds', E.i, E.s, E.n, D.nat, E.den, BO.den, UO.den, TO.den, D.toInt_int, D.toList_list, D.ints_ofInts, i64min, i64max, u8min, u8max, u16min, u16max, u32min, u32max, u64min, u64max, i32min, i32max, Om.sub, selI, ints_app, ints_cut, ints_upd, ints_rep, ints_splice, ints_seg, len_ints]
          try simp only [← h0, ← h1, ← h2, ← h3, ← h4, r0, r1, r2, r3, r4, e1, e2, e3, e4]
          and_intros <;> first | omega | trivial
        · simp only [intP_d8, F50, F51, F52, F53, F23, F24, allTold', dutiesTold, factsA, factsC, factsP, factsR, AV.facts, RW.facts, inK, and_true, Q.holds', E.i, E.s, E.n, D.nat, E.den, BO.den, UO.den, TO.den, D.toInt_int, D.toList_list, D.ints_ofInts, i64min, i64max, u8min, u8max, u16min, u16max, u32min, u32max, u64min, u64max, i32min, i32max, Om.sub, selI, ints_app, ints_cut, ints_upd, ints_rep, ints_splice, ints_seg, len_ints]
          try simp only [rdS_bad e0 k0, if_pos e0, if_neg k0, hv, ← h0, ← h1, ← h2, ← h3, ← h4, r0, r1, r2, r3, r4, e1, e2, e3, e4]
          first | done | omega | (and_intros <;> first | rfl | omega | exact cut0 _ _ | trivial)
      · have hv := hn.2.2.2.2.2.2
        have r0 : iopI .rem .u8 c0 128 = c0 - 128 := by rw [rem_emod _ (by omega)]; omega
        have r1 : iopI .rem .u8 c1 128 = c1 - 128 := by rw [rem_emod _ (by omega)]; omega
        have r2 : iopI .rem .u8 c2 128 = c2 - 128 := by rw [rem_emod _ (by omega)]; omega
        have r3 : iopI .rem .u8 c3 128 = c3 - 128 := by rw [rem_emod _ (by omega)]; omega
        have r4 : iopI .rem .u8 c4 128 = c4 - 128 := by rw [rem_emod _ (by omega)]; omega
        have e1 : iopI .or .u64 (iopI .shl .u64 (c0 - 128) 7) (c1 - 128) = (c0 - 128) * 128 + (c1 - 128) := or7 (by omega) (by omega) (by omega) (by omega)
        have e2 : iopI .or .u64 (iopI .shl .u64 ((c0 - 128) * 128 + (c1 - 128)) 7) (c2 - 128) = ((c0 - 128) * 128 + (c1 - 128)) * 128 + (c2 - 128) := or7 (by omega) (by omega) (by omega) (by omega)
        have e3 : iopI .or .u64 (iopI .shl .u64 (((c0 - 128) * 128 + (c1 - 128)) * 128 + (c2 - 128)) 7) (c3 - 128) = (((c0 - 128) * 128 + (c1 - 128)) * 128 + (c2 - 128)) * 128 + (c3 - 128) := or7 (by omega) (by omega) (by omega) (by omega)
        have e4 : iopI .or .u64 (iopI .shl .u64 ((((c0 - 128) * 128 + (c1 - 128)) * 128 + (c2 - 128)) * 128 + (c3 - 128)) 7) (c4 - 128) = ((((c0 - 128) * 128 + (c1 - 128)) * 128 + (c2 - 128)) * 128 + (c3 - 128)) * 128 + (c4 - 128) := or7 (by omega) (by omega) (by omega) (by omega)
        refine ⟨tellA intP_t7, _, _, _, tellA_ok (allTold'_iff.1 ?_), intP_y7, dutiesTold_ok ?_⟩
        · simp only [intP_t7, F20, allTold', dutiesTold, factsA, factsC, factsP, factsR, AV.facts, RW.facts, inK, and_true, Q.holds', E.i, E.s, E.n, D.nat, E.den, BO.den, UO.den, TO.den, D.toInt_int, D.toList_list, D.ints_ofInts, i64min, i64max, u8min, u8max, u16min, u16max, u32min, u32max, u64min, u64max, i32min, i32max, Om.sub, selI, ints_app, ints_cut, ints_upd, ints_rep, ints_splice, ints_seg, len_ints]
          try simp only [← h0, ← h1, ← h2, ← h3, ← h4, r0, r1, r2, r3, r4, e1, e2, e3, e4]
          and_intros <;> first | omega | trivial
        · simp only [intP_d7, F50, F51, F52, F53, F23, F24, allTold', dutiesTold, factsA, factsC, factsP, factsR, AV.facts, RW.facts, inK, and_true, Q.holds', E.i, E.s, E.n, D.nat, E.den, BO.den, UO.den, TO.den, D.toInt_int, D.toList_list, D.ints_ofInts, i64min, i64max, u8min, u8max, u16min, u16max, u32min, u32max, u64min, u64max, i32min, i32max, Om.sub, selI, ints_app, ints_cut, ints_upd, ints_rep, ints_splice, ints_seg, len_ints]
          try simp only [rdS_bad e0 k0, if_pos e0, if_neg k0, hv, ← h0, ← h1, ← h2, ← h3, ← h4, r0, r1, r2, r3, r4, e1, e2, e3, e4]
          first | done | omega | (and_intros <;> first | rfl | omega | exact cut0 _ _ | trivial)
  · refine ⟨tellA intP_t0, _, _, _, tellA_ok (allTold'_iff.1 ?_), intP_y0, dutiesTold_ok ?_⟩
    · simp only [intP_t0, F20, F21, F22, allTold', dutiesTold, factsA, factsC, factsP, factsR, AV.facts, RW.facts, inK, and_true, Q.holds', E.i, E.s, E.n, D.nat, E.den, BO.den, UO.den, TO.den, D.toInt_int, D.toList_list, D.ints_ofInts, i64min, i64max, u8min, u8max, u16min, u16max, u32min, u32max, u64min, u64max, i32min, i32max, Om.sub, selI, ints_app, ints_cut, ints_upd, ints_rep, ints_splice, ints_seg, len_ints]
      first | done | omega | (and_intros <;> first | omega | trivial)
    · simp only [intP_d0, F21, F22, F50, F51, F52, F53, allTold', dutiesTold, factsA, factsC, factsP, factsR, AV.facts, RW.facts, inK, and_true, Q.holds', E.i, E.s, E.n, D.nat, E.den, BO.den, UO.den, TO.den, D.toInt_int, D.toList_list, D.ints_ofInts, i64min, i64max, u8min, u8max, u16min, u16max, u32min, u32max, u64min, u64max, i32min, i32max, Om.sub, selI, ints_app, ints_cut, ints_upd, ints_rep, ints_splice, ints_seg, len_ints]
      simp only [rdS_err e0]
      first | done | omega | (and_intros <;> first | rfl | omega | exact cut0 _ _ | exact cutC (by omega) (by omega) | trivial)

def countP : CSpec := { args := [.ptr 1 0, .sint .i64 (.var 7)], next := 2, rows := [(1, .cells 53 0 false false [.ptr 1 0, .sslice 3 (.int 0) (.var 2) (.var 3) true, .sint .i64 (.var 5), .sint .i64 (.var 9), .sint .i64 (.var 10)]), (3, .eseq ⟨.u8, .var 6, .var 4⟩)], pre := [(.le (.int 0) (.var 5), true), (.le (.var 5) (.var 2), true), (.le (.var 2) (.var 6), true), (.le (.var 2) (.var 3), true), (.le (.var 3) (.int 1000000), true)], res := .sint .i64 (.fn 50 txRa39), frows := [(1, .cells 53 0 false false [.ptr 1 0, .sslice 3 (.int 0) (.var 2) (.var 3) true, .sint .i64 (.fn 51 txRa39), .sint .i64 (.fn 52 txRa39), .sint .i64 (.fn 53 txRa39)])], same := [1, 3] }
def countP_t0 : List (Q × Bool) := [asRa60]
def countP_d0 : List Duty := [(true, (.int 0), (.fn 50 txRa39)), (true, (.var 5), (.fn 51 txRa39)), (true, (.var 9), (.fn 52 txRa39)), (true, (.var 10), (.fn 53 txRa39))]
theorem countP_y0 : endC countP [(1, 1), (3, 3)] 1000 (callC Try.prog (tellA countP_t0) [] [(34, numberC)] [] 3000 40 20 countP) = some countP_d0 := by kernel_rfl
def countP_t1 : List (Q × Bool) := [asRa61, asRa4, asRa62, asRa63, asRa64, asRa65, asRa66, asRa0, asRa1, asRa67]
def countP_d1 : List Duty := [(true, (.int 0), (.fn 50 txRa39)), (true, (.var 5), (.fn 51 txRa39)), (true, (.int 4), (.fn 52 txRa39)), (true, (.var 2), (.fn 53 txRa39))]
theorem countP_y1 : endC countP [(1, 1), (3, 3)] 1000 (callC Try.prog (tellA countP_t1) [] [(34, numberC)] [] 3000 40 20 countP) = some countP_d1 := by kernel_rfl
def countP_t2 : List (Q × Bool) := [asRa61, asRa4, asRa62, asRa63, asRa64, asRa65, asRa66, asRa0, asRa1, asRa2, asRa3, asRa5, asRa6, asRa7, asRa68]
def countP_d2 : List Duty := [(true, (.int 0), (.fn 50 txRa39)), (true, (.var 5), (.fn 51 txRa39)), (true, (.int 4), (.fn 52 txRa39)), (true, (.var 5), (.fn 53 txRa39))]
theorem countP_y2 : endC countP [(1, 1), (3, 3)] 1000 (callC Try.prog (tellA countP_t2) [] [(34, numberC)] [] 3000 40 20 countP) = some countP_d2 := by kernel_rfl
def countP_t3 : List (Q × Bool) := [asRa61, asRa4, asRa62, asRa63, asRa64, asRa65, asRa66, asRa0, asRa1, asRa2, asRa3, asRa5, asRa6, asRa7, asRa8, asRa12, asRa13, asRa69]
def countP_d3 : List Duty := [(true, (.int 0), (.fn 50 txRa39)), (true, (.var 5), (.fn 51 txRa39)), (true, (.int 4), (.fn 52 txRa39)), (true, (.var 2), (.fn 53 txRa39))]
theorem countP_y3 : endC countP [(1, 1), (3, 3)] 1000 (callC Try.prog (tellA countP_t3) [] [(34, numberC)] [] 3000 40 20 countP) = some countP_d3 := by kernel_rfl
def countP_t4 : List (Q × Bool) := [asRa61, asRa4, asRa62, asRa63, asRa64, asRa65, asRa66, asRa0, asRa1, asRa2, asRa3, asRa5, asRa6, asRa7, asRa8, asRa12, asRa13, asRa14, asRa15, asRa16, asRa17, asRa18, asRa19, asRa20, asRa24, asRa25, asRa70]
def countP_d4 : List Duty := [(true, (.int 0), (.fn 50 txRa39)), (true, (.var 5), (.fn 51 txRa39)), (true, (.int 4), (.fn 52 txRa39)), (true, (.var 2), (.fn 53 txRa39))]
theorem countP_y4 : endC countP [(1, 1), (3, 3)] 1000 (callC Try.prog (tellA countP_t4) [] [(34, numberC)] [] 3000 40 20 countP) = some countP_d4 := by kernel_rfl
def countP_t5 : List (Q × Bool) := [asRa61, asRa4, asRa62, asRa63, asRa64, asRa65, asRa66, asRa0, asRa1, asRa2, asRa3, asRa5, asRa6, asRa7, asRa8, asRa12, asRa13, asRa14, asRa15, asRa16, asRa17, asRa18, asRa19, asRa20, asRa24, asRa25, asRa26, asRa27, asRa28, asRa29, asRa30, asRa31, asRa32, asRa36, asRa37, asRa71]
def countP_d5 : List Duty := [(true, (.int 0), (.fn 50 txRa39)), (true, (.var 5), (.fn 51 txRa39)), (true, (.int 4), (.fn 52 txRa39)), (true, (.var 2), (.fn 53 txRa39))]
theorem countP_y5 : endC countP [(1, 1), (3, 3)] 1000 (callC Try.prog (tellA countP_t5) [] [(34, numberC)] [] 3000 40 20 countP) = some countP_d5 := by kernel_rfl
def countP_t6 : List (Q × Bool) := [asRa61, asRa4, asRa62, asRa63, asRa64, asRa65, asRa66, asRa0, asRa1, asRa2, asRa3, asRa5, asRa6, asRa7, asRa8, asRa12, asRa13, asRa14, asRa15, asRa16, asRa17, asRa18, asRa19, asRa20, asRa24, asRa25, asRa26, asRa27, asRa28, asRa29, asRa30, asRa31, asRa32, asRa36, asRa37, asRa38, asRa39, asRa40, asRa41, asRa42, asRa43, asRa44, asRa48, asRa49, asRa72]
def countP_d6 : List Duty := [(true, (.int 0), (.fn 50 txRa39)), (true, (.var 5), (.fn 51 txRa39)), (true, (.int 4), (.fn 52 txRa39)), (true, (.var 2), (.fn 53 txRa39))]
theorem countP_y6 : endC countP [(1, 1), (3, 3)] 1000 (callC Try.prog (tellA countP_t6) [] [(34, numberC)] [] 3000 40 20 countP) = some countP_d6 := by kernel_rfl
def countP_t7 : List (Q × Bool) := [asRa61, asRa4, asRa62, asRa63, asRa64, asRa65, asRa66, asRa0, asRa1, asRa2, asRa3, asRa5, asRa6, asRa7, asRa8, asRa12, asRa13, asRa14, asRa15, asRa16, asRa17, asRa18, asRa19, asRa20, asRa24, asRa25, asRa26, asRa27, asRa28, asRa29, asRa30, asRa31, asRa32, asRa36, asRa37, asRa38, asRa39, asRa40, asRa41, asRa42, asRa43, asRa44, asRa48, asRa49, asRa50, asRa51, asRa52, asRa53, asRa54, asRa55, asRa56, asRa73]
def countP_d7 : List Duty := [(true, (.int 0), (.fn 50 txRa39)), (true, (.var 5), (.fn 51 txRa39)), (true, (.int 5), (.fn 52 txRa39)), (true, (.var 5), (.fn 53 txRa39))]
theorem countP_y7 : endC countP [(1, 1), (3, 3)] 1000 (callC Try.prog (tellA countP_t7) [] [(34, numberC)] [] 3000 40 20 countP) = some countP_d7 := by kernel_rfl
def countP_t8 : List (Q × Bool) := [asRa61, asRa4, asRa62, asRa63, asRa64, asRa65, asRa66, asRa0, asRa1, asRa2, asRa3, asRa5, asRa6, asRa7, asRa8, asRa12, asRa13, asRa14, asRa15, asRa16, asRa17, asRa18, asRa19, asRa20, asRa24, asRa25, asRa26, asRa27, asRa28, asRa29, asRa30, asRa31, asRa32, asRa36, asRa37, asRa38, asRa39, asRa40, asRa41, asRa42, asRa43, asRa44, asRa48, asRa49, asRa50, asRa51, asRa52, asRa53, asRa54, asRa55, asRa56, asRa57, asRa74]
def countP_d8 : List Duty := [(true, (.int 0), (.fn 50 txRa39)), (true, (.var 5), (.fn 51 txRa39)), (true, (.int 5), (.fn 52 txRa39)), (true, (.var 5), (.fn 53 txRa39))]
theorem countP_y8 : endC countP [(1, 1), (3, 3)] 1000 (callC Try.prog (tellA countP_t8) [] [(34, numberC)] [] 3000 40 20 countP) = some countP_d8 := by kernel_rfl
abbrev asRa80 : Q × Bool := ((.le (.fn 21 (.bi .pair (.var 4) txRa8)) (.var 7)), false)
def countP_t9 : List (Q × Bool) := [asRa61, asRa4, asRa62, asRa63, asRa64, asRa65, asRa75, asRa80]
def countP_d9 : List Duty := [(true, (.int 0), (.fn 50 txRa39)), (true, (.var 5), (.fn 51 txRa39)), (true, (.int 3), (.fn 52 txRa39)), (true, (.var 5), (.fn 53 txRa39))]
theorem countP_y9 : endC countP [(1, 1), (3, 3)] 1000 (callC Try.prog (tellA countP_t9) [] [(34, numberC)] [] 3000 40 20 countP) = some countP_d9 := by kernel_rfl
abbrev asRa81 : Q × Bool := ((.le (.fn 21 (.bi .pair (.var 4) txRa8)) (.var 7)), true)
def countP_t10 : List (Q × Bool) := [asRa61, asRa4, asRa62, asRa63, asRa64, asRa65, asRa75, asRa81]
def countP_d10 : List Duty := [(true, (.fn 21 (.bi .pair (.var 4) txRa8)), (.fn 50 txRa39)), (true, txRa18, (.fn 51 txRa39)), (true, (.var 9), (.fn 52 txRa39)), (true, (.var 10), (.fn 53 txRa39))]
theorem countP_y10 : endC countP [(1, 1), (3, 3)] 1000 (callC Try.prog (tellA countP_t10) [] [(34, numberC)] [] 3000 40 20 countP) = some countP_d10 := by kernel_rfl
theorem countP_holds : CHolds Try.prog 20 countP F := by
  refine cholds_of sound (tableNil _ _) (specsCons numberC_holds (specsNil _ _)) (oversNil _ _) (fuel := 3000) (depth := 40) (by kernel_rfl) fun d hp hR hA => ?_
  have hp := allTold'_iff.2 hp
  simp only [countP, allTold', dutiesTold, factsA, factsC, factsP, factsR, AV.facts, RW.facts, inK, and_true, Q.holds', E.i, E.s, E.n, D.nat, E.den, BO.den, UO.den, TO.den, D.toInt_int, D.toList_list, D.ints_ofInts, i64min, i64max, u8min, u8max, u16min, u16max, u32min, u32max, u64min, u64max, i32min, i32max, Om.sub, selI, ints_app, ints_cut, ints_upd, ints_rep, ints_splice, ints_seg, len_ints] at hp hR hA
  by_cases e0 : (d 9).toInt = 0
  · by_cases k0 : (numL (prt (d 4).ints (d 5).toInt (d 2).toInt)).1 = 0
    · have nv := num_val (x := (d 4).ints) (o := (d 5).toInt) (t := (d 2).toInt) (by omega) (by omega) hR.2.2 k0
      by_cases hi : (d 7).toInt < (numL (prt (d 4).ints (d 5).toInt (d 2).toInt)).2.1
      · refine ⟨tellA countP_t9, _, _, _, tellA_ok (allTold'_iff.1 ?_), countP_y9, dutiesTold_ok ?_⟩
        · simp only [countP_t9, F20, F21, F22, allTold', dutiesTold, factsA, factsC, factsP, factsR, AV.facts, RW.facts, inK, and_true, Q.holds', E.i, E.s, E.n, D.nat, E.den, BO.den, UO.den, TO.den, D.toInt_int, D.toList_list, D.ints_ofInts, i64min, i64max, u8min, u8max, u16min, u16max, u32min, u32max, u64min, u64max, i32min, i32max, Om.sub, selI, ints_app, ints_cut, ints_upd, ints_rep, ints_splice, ints_seg, len_ints]
          first | done | omega | (and_intros <;> first | omega | trivial)
        · simp only [countP_d9, F21, F22, F50, F51, F52, F53, allTold', dutiesTold, factsA, factsC, factsP, factsR, AV.facts, RW.facts, inK, and_true, Q.holds', E.i, E.s, E.n, D.nat, E.den, BO.den, UO.den, TO.den, D.toInt_int, D.toList_list, D.ints_ofInts, i64min, i64max, u8min, u8max, u16min, u16max, u32min, u32max, u64min, u64max, i32min, i32max, Om.sub, selI, ints_app, ints_cut, ints_upd, ints_rep, ints_splice, ints_seg, len_ints]
          simp only [rdS_hi e0 k0 hi]
          first | done | omega | (and_intros <;> first | rfl | omega | exact cut0 _ _ | exact cutC (by omega) (by omega) | trivial)
      · refine ⟨tellA countP_t10, _, _, _, tellA_ok (allTold'_iff.1 ?_), countP_y10, dutiesTold_ok ?_⟩
        · simp only [countP_t10, F20, F21, F22, allTold', dutiesTold, factsA, factsC, factsP, factsR, AV.facts, RW.facts, inK, and_true, Q.holds', E.i, E.s, E.n, D.nat, E.den, BO.den, UO.den, TO.den, D.toInt_int, D.toList_list, D.ints_ofInts, i64min, i64max, u8min, u8max, u16min, u16max, u32min, u32max, u64min, u64max, i32min, i32max, Om.sub, selI, ints_app, ints_cut, ints_upd, ints_rep, ints_splice, ints_seg, len_ints]
          first | done | omega | (and_intros <;> first | omega | trivial)
        · simp only [countP_d10, F21, F22, F50, F51, F52, F53, allTold', dutiesTold, factsA, factsC, factsP, factsR, AV.facts, RW.facts, inK, and_true, Q.holds', E.i, E.s, E.n, D.nat, E.den, BO.den, UO.den, TO.den, D.toInt_int, D.toList_list, D.ints_ofInts, i64min, i64max, u8min, u8max, u16min, u16max, u32min, u32max, u64min, u64max, i32min, i32max, Om.sub, selI, ints_app, ints_cut, ints_upd, ints_rep, ints_splice, ints_seg, len_ints]
          simp only [rdS_ok e0 k0 hi (by omega : ¬ (numL (prt (d 4).ints (d 5).toInt (d 2).toInt)).2.1 < 0)]
          first | done | omega | (and_intros <;> first | rfl | omega | exact cut0 _ _ | exact cutC (by omega) (by omega) | trivial)
    · have hx : ∀ c ∈ (d 4).ints, 0 ≤ c ∧ c ≤ 255 := hR.2.2
      obtain ⟨c0, c1, c2, c3, c4, h0, h1, h2, h3, h4, g0, g1, g2, g3, g4, hn⟩ := num_at (x := (d 4).ints) (o := (d 5).toInt) (t := (d 2).toInt) (by omega) (by omega) hx
      rcases hn with hn | hn | hn | hn | hn | hn | hn | hn | hn | hn | hn | hn | hn
      · have hv := hn.2
        refine ⟨tellA countP_t1, _, _, _, tellA_ok (allTold'_iff.1 ?_), countP_y1, dutiesTold_ok ?_⟩
        · simp only [countP_t1, F20, allTold', dutiesTold, factsA, factsC, factsP, factsR, AV.facts, RW.facts, inK, and_true, Q.holds', E.i, E.s, E.n, D.nat, E.den, BO.den, UO.den, TO.den, D.toInt_int, D.toList_list, D.ints_ofInts, i64min, i64max, u8min, u8max, u16min, u16max, u32min, u32max, u64min, u64max, i32min, i32max, Om.sub, selI, ints_app, ints_cut, ints_upd, ints_rep, ints_splice, ints_seg, len_ints]
          try simp only [← h0, ← h1, ← h2, ← h3, ← h4]
          and_intros <;> first | omega | trivial
        · simp only [countP_d1, F50, F51, F52, F53, F23, F24, allTold', dutiesTold, factsA, factsC, factsP, factsR, AV.facts, RW.facts, inK, and_true, Q.holds', E.i, E.s, E.n, D.nat, E.den, BO.den, UO.den, TO.den, D.toInt_int, D.toList_list, D.ints_ofInts, i64min, i64max, u8min, u8max, u16min, u16max, u32min, u32max, u64min, u64max, i32min, i32max, Om.sub, selI, ints_app, ints_cut, ints_upd, ints_rep, ints_splice, ints_seg, len_ints]
          try simp only [rdS_bad e0 k0, if_pos e0, if_neg k0, hv, ← h0, ← h1, ← h2, ← h3, ← h4]
          first | done | omega | (and_intros <;> first | rfl | omega | exact cut0 _ _ | trivial)
      · have hv := hn.2.2
        refine ⟨tellA countP_t2, _, _, _, tellA_ok (allTold'_iff.1 ?_), countP_y2, dutiesTold_ok ?_⟩
        · simp only [countP_t2, F20, allTold', dutiesTold, factsA, factsC, factsP, factsR, AV.facts, RW.facts, inK, and_true, Q.holds', E.i, E.s, E.n, D.nat, E.den, BO.den, UO.den, TO.den, D.toInt_int, D.toList_list, D.ints_ofInts, i64min, i64max, u8min, u8max, u16min, u16max, u32min, u32max, u64min, u64max, i32min, i32max, Om.sub, selI, ints_app, ints_cut, ints_upd, ints_rep, ints_splice, ints_seg, len_ints]
          try simp only [← h0, ← h1, ← h2, ← h3, ← h4]
          and_intros <;> first | omega | trivial
        · simp only [countP_d2, F50, F51, F52, F53, F23, F24, allTold', dutiesTold, factsA, factsC, factsP, factsR, AV.facts, RW.facts, inK, and_true, Q.holds', E.i, E.s, E.n, D.nat, E.den, BO.den, UO.den, TO.den, D.toInt_int, D.toList_list, D.ints_ofInts, i64min, i64max, u8min, u8max, u16min, u16max, u32min, u32max, u64min, u64max, i32min, i32max, Om.sub, selI, ints_app, ints_cut, ints_upd, ints_rep, ints_splice, ints_seg, len_ints]
          try simp only [rdS_bad e0 k0, if_pos e0, if_neg k0, hv, ← h0, ← h1, ← h2, ← h3, ← h4]
          first | done | omega | (and_intros <;> first | rfl | omega | exact cut0 _ _ | trivial)
      · exfalso
        rw [hn.2.2] at k0
        exact k0 rfl
      · have hv := hn.2.2.2
        have r0 : iopI .rem .u8 c0 128 = c0 - 128 := by rw [rem_emod _ (by omega)]; omega
        refine ⟨tellA countP_t3, _, _, _, tellA_ok (allTold'_iff.1 ?_), countP_y3, dutiesTold_ok ?_⟩
        · simp only [countP_t3, F20, allTold', dutiesTold, factsA, factsC, factsP, factsR, AV.facts, RW.facts, inK, and_true, Q.holds', E.i, E.s, E.n, D.nat, E.den, BO.den, UO.den, TO.den, D.toInt_int, D.toList_list, D.ints_ofInts, i64min, i64max, u8min, u8max, u16min, u16max, u32min, u32max, u64min, u64max, i32min, i32max, Om.sub, selI, ints_app, ints_cut, ints_upd, ints_rep, ints_splice, ints_seg, len_ints]
          try simp only [← h0, ← h1, ← h2, ← h3, ← h4, r0]
          and_intros <;> first | omega | trivial
        · simp only [countP_d3, F50, F51, F52, F53, F23, F24, allTold', dutiesTold, factsA, factsC, factsP, factsR, AV.facts, RW.facts, inK, and_true, Q.holds', E.i, E.s, E.n, D.nat, E.den, BO.den, UO.den, TO.den, D.toInt_int, D.toList_list, D.ints_ofInts, i64min, i64max, u8min, u8max, u16min, u16max, u32min, u32max, u64min, u64max, i32min, i32max, Om.sub, selI, ints_app, ints_cut, ints_upd, ints_rep, ints_splice, ints_seg, len_ints]
          try simp only [rdS_bad e0 k0, if_pos e0, if_neg k0, hv, ← h0, ← h1, ← h2, ← h3, ← h4, r0]
          first | done | omega | (and_intros <;> first | rfl | omega | exact cut0 _ _ | trivial)
      · exfalso
        rw [hn.2.2.2] at k0
        exact k0 rfl
      · have hv := hn.2.2.2.2
        have r0 : iopI .rem .u8 c0 128 = c0 - 128 := by rw [rem_emod _ (by omega)]; omega
        have r1 : iopI .rem .u8 c1 128 = c1 - 128 := by rw [rem_emod _ (by omega)]; omega
        have e1 : iopI .or .u64 (iopI .shl .u64 (c0 - 128) 7) (c1 - 128) = (c0 - 128) * 128 + (c1 - 128) := or7 (by omega) (by omega) (by omega) (by omega)
        refine ⟨tellA countP_t4, _, _, _, tellA_ok (allTold'_iff.1 ?_), countP_y4, dutiesTold_ok ?_⟩
        · simp only [countP_t4, F20, allTold', dutiesTold, factsA, factsC, factsP, factsR, AV.facts, RW.facts, inK, and_true, Q.holds', E.i, E.s, E.n, D.nat, E.den, BO.den, UO.den, TO.den, D.toInt_int, D.toList_list, D.ints_ofInts, i64min, i64max, u8min, u8max, u16min, u16max, u32min, u32max, u64min, u64max, i32min, i32max, Om.sub, selI, ints_app, ints_cut, ints_upd, ints_rep, ints_splice, ints_seg, len_ints]
          try simp only [← h0, ← h1, ← h2, ← h3, ← h4, r0, r1, e1]
          and_intros <;> first | omega | trivial
        · simp only [countP_d4, F50, F51, F52, F53, F23, F24, allTold', dutiesTold, factsA, factsC, factsP, factsR, AV.facts, RW.facts, inK, and_true, Q.holds', E.i, E.s, E.n, D.nat, E.den, BO.den, UO.den, TO.den, D.toInt_int, D.toList_list, D.ints_ofInts, i64min, i64max, u8min, u8max, u16min, u16max, u32min, u32max, u64min, u64max, i32min, i32max, Om.sub, selI, ints_app, ints_cut, ints_upd, ints_rep, ints_splice, ints_seg, len_ints]
          try simp only [rdS_bad e0 k0, if_pos e0, if_neg k0, hv, ← h0, ← h1, ← h2, ← h3, ← h4, r0, r1, e1]
          first | done | omega | (and_intros <;> first | rfl | omega | exact cut0 _ _ | trivial)
      · exfalso
        rw [hn.2.2.2.2] at k0
        exact k0 rfl
      · have hv := hn.2.2.2.2.2
        have r0 : iopI .rem .u8 c0 128 = c0 - 128 := by rw [rem_emod _ (by omega)]; omega
        have r1 : iopI .rem .u8 c1 128 = c1 - 128 := by rw [rem_emod _ (by omega)]; omega
        have r2 : iopI .rem .u8 c2 128 = c2 - 128 := by rw [rem_emod _ (by omega)]; omega
        have e1 : iopI .or .u64 (iopI .shl .u64 (c0 - 128) 7) (c1 - 128) = (c0 - 128) * 128 + (c1 - 128) := or7 (by omega) (by omega) (by omega) (by omega)
        have e2 : iopI .or .u64 (iopI .shl .u64 ((c0 - 128) * 128 + (c1 - 128)) 7) (c2 - 128) = ((c0 - 128) * 128 + (c1 - 128)) * 128 + (c2 - 128) := or7 (by omega) (by omega) (by omega) (by omega)
        refine ⟨tellA countP_t5, _, _, _, tellA_ok (allTold'_iff.1 ?_), countP_y5, dutiesTold_ok ?_⟩
        · simp only [countP_t5, F20, allTold', dutiesTold, factsA, factsC, factsP, factsR, AV.facts, RW.facts, inK, and_true, Q.holds', E.i, E.s, E.n, D.nat, E.den, BO.den, UO.den, TO.den, D.toInt_int, D.toList_list, D.ints_ofInts, i64min, i64max, u8min, u8max, u16min, u16max, u32min, u32max, u64min, u64max, i32min, i32max, Om.sub, selI, ints_app, ints_cut, ints_upd, ints_rep, ints_splice, ints_seg, len_ints]
          try simp only [← h0, ← h1, ← h2, ← h3, ← h4, r0, r1, r2, e1, e2]
          and_intros <;> first | omega | trivial
        · simp only [countP_d5, F50, F51, F52, F53, F23, F24, allTold', dutiesTold, factsA, factsC, factsP, factsR, AV.facts, RW.facts, inK, and_true, Q.holds', E.i, E.s, E.n, D.nat, E.den, BO.den, UO.den, TO.den, D.toInt_int, D.toList_list, D.ints_ofInts, i64min, i64max, u8min, u8max, u16min, u16max, u32min, u32max, u64min, u64max, i32min, i32max, Om.sub, selI, ints_app, ints_cut, ints_upd, ints_rep, ints_splice, ints_seg, len_ints]
          try simp only [rdS_bad e0 k0, if_pos e0, if_neg k0, hv, ← h0, ← h1, ← h2, ← h3, ← h4, r0, r1, r2, e1, e2]
          first | done | omega | (and_intros <;> first | rfl | omega | exact cut0 _ _ | trivial)
      · exfalso
        rw [hn.2.2.2.2.2] at k0
        exact k0 rfl
      · have hv := hn.2.2.2.2.2.2
        have r0 : iopI .rem .u8 c0 128 = c0 - 128 := by rw [rem_emod _ (by omega)]; omega
        have r1 : iopI .rem .u8 c1 128 = c1 - 128 := by rw [rem_emod _ (by omega)]; omega
        have r2 : iopI .rem .u8 c2 128 = c2 - 128 := by rw [rem_emod _ (by omega)]; omega
        have r3 : iopI .rem .u8 c3 128 = c3 - 128 := by rw [rem_emod _ (by omega)]; omega
        have e1 : iopI .or .u64 (iopI .shl .u64 (c0 - 128) 7) (c1 - 128) = (c0 - 128) * 128 + (c1 - 128) := or7 (by omega) (by omega) (by omega) (by omega)
        have e2 : iopI .or .u64 (iopI .shl .u64 ((c0 - 128) * 128 + (c1 - 128)) 7) (c2 - 128) = ((c0 - 128) * 128 + (c1 - 128)) * 128 + (c2 - 128) := or7 (by omega) (by omega) (by omega) (by omega)
        have e3 : iopI .or .u64 (iopI .shl .u64 (((c0 - 128) * 128 + (c1 - 128)) * 128 + (c2 - 128)) 7) (c3 - 128) = (((c0 - 128) * 128 + (c1 - 128)) * 128 + (c2 - 128)) * 128 + (c3 - 128) := or7 (by omega) (by omega) (by omega) (by omega)
        refine ⟨tellA countP_t6, _, _, _, tellA_ok (allTold'_iff.1 ?_), countP_y6, dutiesTold_ok ?_⟩
        · simp only [countP_t6, F20, allTold', dutiesTold, factsA, factsC, factsP, factsR, AV.facts, RW.facts, inK, and_true, Q.holds', E.i, E.s, E.n, D.nat, E.den, BO.den, UO.den, TO.den, D.toInt_int, D.toList_list, D.ints_ofInts, i64min, i64max, u8min, u8max, u16min, u16max, u32min, u32max, u64min, u64max, i32min, i32max, Om.sub, selI, ints_app, ints_cut, ints_upd, ints_rep, ints_splice, ints_seg, len_ints]
          try simp only [← h0, ← h1, ← h2, ← h3, ← h4, r0, r1, r2, r3, e1, e2, e3]
          and_intros <;> first | omega | trivial
        · simp only [countP_d6, F50, F51, F52, F53, F23, F24, allTold', dutiesTold, factsA, factsC, factsP, factsR, AV.facts, RW.facts, inK, and_true, Q.holds', E.i, E.s, E.n, D.nat, E.den, BO.den, UO.den, TO.den, D.toInt_int, D.toList_list, D.ints_ofInts, i64min, i64max, u8min, u8max, u16min, u16max, u32min, u32max, u64min, u64max, i32min, i32max, Om.sub, selI, ints_app, ints_cut, ints_upd, ints_rep, ints_splice, ints_seg, len_ints]
          try simp only [rdS_bad e0 k0, if_pos e0, if_neg k0, hv, ← h0, ← h1, ← h2, ← h3, ← h4, r0, r1, r2, r3, e1, e2, e3]
          first | done | omega | (and_intros <;> first | rfl | omega | exact cut0 _ _ | trivial)
      · exfalso
        rw [hn.2.2.2.2.2.2.2] at k0
        exact k0 rfl
      · have hv := hn.2.2.2.2.2.2.2
        have r0 : iopI .rem .u8 c0 128 = c0 - 128 := by rw [rem_emod _ (by omega)]; omega
        have r1 : iopI .rem .u8 c1 128 = c1 - 128 := by rw [rem_emod _ (by omega)]; omega
        have r2 : iopI .rem .u8 c2 128 = c2 - 128 := by rw [rem_emod _ (by omega)]; omega
        have r3 : iopI .rem .u8 c3 128 = c3 - 128 := by rw [rem_emod _ (by omega)]; omega
        have r4 : iopI .rem .u8 c4 128 = c4 := by rw [rem_emod _ (by omega)]; omega
        have e1 : iopI .or .u64 (iopI .shl .u64 (c0 - 128) 7) (c1 - 128) = (c0 - 128) * 128 + (c1 - 128) := or7 (by omega) (by omega) (by omega) (by omega)
        have e2 : iopI .or .u64 (iopI .shl .u64 ((c0 - 128) * 128 + (c1 - 128)) 7) (c2 - 128) = ((c0 - 128) * 128 + (c1 - 128)) * 128 + (c2 - 128) := or7 (by omega) (by omega) (by omega) (by omega)
        have e3 : iopI .or .u64 (iopI .shl .u64 (((c0 - 128) * 128 + (c1 - 128)) * 128 + (c2 - 128)) 7) (c3 - 128) = (((c0 - 128) * 128 + (c1 - 128)) * 128 + (c2 - 128)) * 128 + (c3 - 128) := or7 (by omega) (by omega) (by omega) (by omega)
        have e4 : iopI .or .u64 (iopI .shl .u64 ((((c0 - 128) * 128 + (c1 - 128)) * 128 + (c2 - 128)) * 128 + (c3 - 128)) 7) c4 = ((((c0 - 128) * 128 + (c1 - 128)) * 128 + (c2 - 128)) * 128 + (c3 - 128)) * 128 + c4 := or7 (by omega) (by omega) (by omega) (by omega)
        refine ⟨tellA countP_t8, _, _, _, tellA_ok (allTold'_iff.1 ?_), countP_y8, dutiesTold_ok ?_⟩
        · simp only [countP_t8, F20, allTold', dutiesTold, factsA, factsC, factsP, factsR, AV.facts, RW.facts, inK, and_true, Q.holds', E.i, E.s, E.n, D.nat, E.den, BO.den, UO.den, TO.den, D.toInt_int, D.toList_list, D.ints_ofInts, i64min, i64max, u8min, u8max, u16min, u16max, u32min, u32max, u64min, u64max, i32min, i32max, Om.sub, selI, ints_app, ints_cut, ints_upd, ints_rep, ints_splice, ints_seg, len_ints]
          try simp only [← h0, ← h1, ← h2, ← h3, ← h4, r0, r1, r2, r3, r4, e1, e2, e3, e4]
          and_intros <;> first | omega | trivial
        · simp only [countP_d8, F50, F51, F52, F53, F23, F24, allTold', dutiesTold, factsA, factsC, factsP, factsR, AV.facts, RW.facts, inK, and_true, Q.holds', E.i, E.s, E.n, D.nat, E.den, BO.den, UO.den, TO.den, D.toInt_int, D.toList_list, D.ints_ofInts, i64min, i64max, u8min, u8max, u16min, u16max, u32min, u32max, u64min, u64max, i32min, i32max, Om.sub, selI, ints_app, ints_cut, ints_upd, ints_rep, ints_splice, ints_seg, len_ints]
          try simp only [rdS_bad e0 k0, if_pos e0, if_neg k0, hv, ← h0, ← h1, ← h2, ← h3, ← h4, r0, r1, r2, r3, r4, e1, e2, e3, e4]
          first | done | omega | (and_intros <;> first | rfl | omega | exact cut0 _ _ | trivial)
      · have hv := hn.2.2.2.2.2.2
        have r0 : iopI .rem .u8 c0 128 = c0 - 128 := by rw [rem_emod _ (by omega)]; omega
        have r1 : iopI .rem .u8 c1 128 = c1 - 128 := by rw [rem_emod _ (by omega)]; omega
        have r2 : iopI .rem .u8 c2 128 = c2 - 128 := by rw [rem_emod _ (by omega)]; omega
        have r3 : iopI .rem .u8 c3 128 = c3 - 128 := by rw [rem_emod _ (by omega)]; omega
        have r4 : iopI .rem .u8 c4 128 = c4 - 128 := by rw [rem_emod _ (by omega)]; omega
        have e1 : iopI .or .u64 (iopI .shl .u64 (c0 - 128) 7) (c1 - 128) = (c0 - 128) * 128 + (c1 - 128) := or7 (by omega) (by omega) (by omega) (by omega)
        have e2 : iopI .or .u64 (iopI .shl .u64 ((c0 - 128) * 128 + (c1 - 128)) 7) (c2 - 128) = ((c0 - 128) * 128 + (c1 - 128)) * 128 + (c2 - 128) := or7 (by omega) (by omega) (by omega) (by omega)
        have e3 : iopI .or .u64 (iopI .shl .u64 (((c0 - 128) * 128 + (c1 - 128)) * 128 + (c2 - 128)) 7) (c3 - 128) = (((c0 - 128) * 128 + (c1 - 128)) * 128 + (c2 - 128)) * 128 + (c3 - 128) := or7 (by omega) (by omega) (by omega) (by omega)
        have e4 : iopI .or .u64 (iopI .shl .u64 ((((c0 - 128) * 128 + (c1 - 128)) * 128 + (c2 - 128)) * 128 + (c3 - 128)) 7) (c4 - 128) = ((((c0 - 128) * 128 + (c1 - 128)) * 128 + (c2 - 128)) * 128 + (c3 - 128)) * 128 + (c4 - 128) := or7 (by omega) (by omega) (by omega) (by omega)
        refine ⟨tellA countP_t7, _, _, _, tellA_ok (allTold'_iff.1 ?_), countP_y7, dutiesTold_ok ?_⟩
        · simp only [countP_t7, F20, allTold', dutiesTold, factsA, factsC, factsP, factsR, AV.facts, RW.facts, inK, and_true, Q.holds', E.i, E.s, E.n, D.nat, E.den, BO.den, UO.den, TO.den, D.toInt_int, D.toList_list, D.ints_ofInts, i64min, i64max, u8min, u8max, u16min, u16max, u32min, u32max, u64min, u64max, i32min, i32max, Om.sub, selI, ints_app, ints_cut, ints_upd, ints_rep, ints_splice, ints_seg, len_ints]
          try simp only [← h0, ← h1, ← h2, ← h3, ← h4, r0, r1, r2, r3, r4, e1, e2, e3, e4]
          and_intros <;> first | omega | trivial
        · simp only [countP_d7, F50, F51, F52, F53, F23, F24, allTold', dutiesTold, factsA, factsC, factsP, factsR, AV.facts, RW.facts, inK, and_true, Q.holds', E.i, E.s, E.n, D.nat, E.den, BO.den, UO.den, TO.den, D.toInt_int, D.toList_list, D.ints_ofInts, i64min, i64max, u8min, u8max, u16min, u16max, u32min, u32max, u64min, u64max, i32min, i32max, Om.sub, selI, ints_app, ints_cut, ints_upd, ints_rep, ints_splice, ints_seg, len_ints]
          try simp only [rdS_bad e0 k0, if_pos e0, if_neg k0, hv, ← h0, ← h1, ← h2, ← h3, ← h4, r0, r1, r2, r3, r4, e1, e2, e3, e4]
          first | done | omega | (and_intros <;> first | rfl | omega | exact cut0 _ _ | trivial)
  · refine ⟨tellA countP_t0, _, _, _, tellA_ok (allTold'_iff.1 ?_), countP_y0, dutiesTold_ok ?_⟩
    · simp only [countP_t0, F20, F21, F22, allTold', dutiesTold, factsA, factsC, factsP, factsR, AV.facts, RW.facts, inK, and_true, Q.holds', E.i, E.s, E.n, D.nat, E.den, BO.den, UO.den, TO.den, D.toInt_int, D.toList_list, D.ints_ofInts, i64min, i64max, u8min, u8max, u16min, u16max, u32min, u32max, u64min, u64max, i32min, i32max, Om.sub, selI, ints_app, ints_cut, ints_upd, ints_rep, ints_splice, ints_seg, len_ints]
      first | done | omega | (and_intros <;> first | omega | trivial)
    · simp only [countP_d0, F21, F22, F50, F51, F52, F53, allTold', dutiesTold, factsA, factsC, factsP, factsR, AV.facts, RW.facts, inK, and_true, Q.holds', E.i, E.s, E.n, D.nat, E.den, BO.den, UO.den, TO.den, D.toInt_int, D.toList_list, D.ints_ofInts, i64min, i64max, u8min, u8max, u16min, u16max, u32min, u32max, u64min, u64max, i32min, i32max, Om.sub, selI, ints_app, ints_cut, ints_upd, ints_rep, ints_splice, ints_seg, len_ints]
      simp only [rdS_err e0]
      first | done | omega | (and_intros <;> first | rfl | omega | exact cut0 _ _ | exact cutC (by omega) (by omega) | trivial)

def bytesP : CSpec := { args := [.ptr 1 0, .sint .i64 (.var 7)], next := 2, rows := [(1, .cells 53 0 false false [.ptr 1 0, .sslice 3 (.int 0) (.var 2) (.var 3) true, .sint .i64 (.var 5), .sint .i64 (.var 9), .sint .i64 (.var 10)]), (3, .eseq ⟨.u8, .var 6, .var 4⟩)], pre := [(.le (.int 0) (.var 5), true), (.le (.var 5) (.var 2), true), (.le (.var 2) (.var 6), true), (.le (.var 2) (.var 3), true), (.le (.var 3) (.int 1000000), true), (.eq (.fn 56 txRa21) (.int 0), true)], res := .sslice 5 (.int 0) (.fn 54 txRa21) (.fn 54 txRa21) true, frows := [(1, .cells 53 0 false false [.ptr 1 0, .sslice 3 (.int 0) (.var 2) (.var 3) true, .sint .i64 (.fn 55 txRa21), .sint .i64 (.fn 56 txRa21), .sint .i64 (.fn 57 txRa21)]), (5, .seq ⟨5, .u8, .fn 54 txRa21, .fn 58 txRa21, true, false⟩)], same := [1, 3] }
abbrev asRa82 : Q × Bool := ((.fit .i64 (.bi .sub (.var 2) txRa18)), true)
abbrev asRa83 : Q × Bool := ((.le (.fn 21 (.bi .pair (.var 4) txRa8)) (.bi .sub (.var 2) txRa18)), true)
abbrev asRa84 : Q × Bool := ((.fit .i64 txRa40), true)
abbrev asRa85 : Q × Bool := ((.le (.int 0) txRa18), true)
abbrev asRa86 : Q × Bool := ((.le txRa18 txRa40), true)
abbrev asRa87 : Q × Bool := ((.le txRa40 (.var 3)), true)
abbrev asRa88 : Q × Bool := ((.le (.bi .add txRa18 (.bi .sub txRa40 txRa18)) (.var 6)), true)
abbrev asRa89 : Q × Bool := ((.le (.bi .mul (.bi .sub txRa40 txRa18) (.int 2)) (.int 281474976710656)), true)
def bytesP_t0 : List (Q × Bool) := [asRa61, asRa4, asRa62, asRa63, asRa64, asRa65, asRa75, asRa81, asRa0, asRa82, asRa83, asRa84, asRa85, asRa86, asRa87, asRa88, asRa89]
def bytesP_d0 : List Duty := [(true, (.bi .sub txRa40 txRa18), (.fn 54 txRa21)), (true, (.bi .sub txRa40 txRa18), (.fn 54 txRa21)), (true, txRa40, (.fn 55 txRa21)), (true, (.var 9), (.fn 56 txRa21)), (true, (.var 10), (.fn 57 txRa21)), (true, (.bi .sub txRa40 txRa18), (.fn 54 txRa21)), (false, (.tr .cut (.var 4) txRa18 (.bi .add txRa18 (.bi .sub txRa40 txRa18))), (.fn 58 txRa21))]
theorem bytesP_y0 : endC bytesP [(5, 17), (1, 1), (3, 3)] 1000 (callC Try.prog (tellA bytesP_t0) [] [(34, numberC)] [] 3000 40 13 bytesP) = some bytesP_d0 := by kernel_rfl
theorem bytesP_holds : CHolds Try.prog 13 bytesP F := by
  refine cholds_of sound (tableNil _ _) (specsCons numberC_holds (specsNil _ _)) (oversNil _ _) (fuel := 3000) (depth := 40) (by kernel_rfl) fun d hp hR hA => ?_
  have hp := allTold'_iff.2 hp
  simp only [bytesP, allTold', dutiesTold, factsA, factsC, factsP, factsR, AV.facts, RW.facts, inK, and_true, Q.holds', E.i, E.s, E.n, D.nat, E.den, BO.den, UO.den, TO.den, D.toInt_int, D.toList_list, D.ints_ofInts, i64min, i64max, u8min, u8max, u16min, u16max, u32min, u32max, u64min, u64max, i32min, i32max, Om.sub, selI, ints_app, ints_cut, ints_upd, ints_rep, ints_splice, ints_seg, len_ints] at hp hR hA
  simp only [F56, allTold', dutiesTold, factsA, factsC, factsP, factsR, AV.facts, RW.facts, inK, and_true, Q.holds', E.i, E.s, E.n, D.nat, E.den, BO.den, UO.den, TO.den, D.toInt_int, D.toList_list, D.ints_ofInts, i64min, i64max, u8min, u8max, u16min, u16max, u32min, u32max, u64min, u64max, i32min, i32max, Om.sub, selI, ints_app, ints_cut, ints_upd, ints_rep, ints_splice, ints_seg, len_ints] at hp
  obtain ⟨e0, k0, g, g2⟩ := rdB_fine hp.2.2.2.2.2
  have nv := num_val (x := (d 4).ints) (o := (d 5).toInt) (t := (d 2).toInt) (by omega) (by omega) hR.2.2 k0
  refine ⟨tellA bytesP_t0, _, _, _, tellA_ok (allTold'_iff.1 ?_), bytesP_y0, dutiesTold_ok ?_⟩
  · simp only [bytesP_t0, F20, F21, F22, allTold', dutiesTold, factsA, factsC, factsP, factsR, AV.facts, RW.facts, inK, and_true, Q.holds', E.i, E.s, E.n, D.nat, E.den, BO.den, UO.den, TO.den, D.toInt_int, D.toList_list, D.ints_ofInts, i64min, i64max, u8min, u8max, u16min, u16max, u32min, u32max, u64min, u64max, i32min, i32max, Om.sub, selI, ints_app, ints_cut, ints_upd, ints_rep, ints_splice, ints_seg, len_ints]
    first | done | omega | (and_intros <;> first | omega | trivial)
  · simp only [bytesP_d0, F21, F22, F54, F55, F56, F57, F58, allTold', dutiesTold, factsA, factsC, factsP, factsR, AV.facts, RW.facts, inK, and_true, Q.holds', E.i, E.s, E.n, D.nat, E.den, BO.den, UO.den, TO.den, D.toInt_int, D.toList_list, D.ints_ofInts, i64min, i64max, u8min, u8max, u16min, u16max, u32min, u32max, u64min, u64max, i32min, i32max, Om.sub, selI, ints_app, ints_cut, ints_upd, ints_rep, ints_splice, ints_seg, len_ints]
    simp only [rdB_ok e0 k0 g g2]
    first | done | omega | (and_intros <;> first | rfl | omega | exact cut0 _ _ | exact cutC (by omega) (by omega) | trivial)

def bytesN : CSpec := { args := [.ptr 1 0, .sint .i64 (.var 7)], next := 2, rows := [(1, .cells 53 0 false false [.ptr 1 0, .sslice 3 (.int 0) (.var 2) (.var 3) true, .sint .i64 (.var 5), .sint .i64 (.var 9), .sint .i64 (.var 10)]), (3, .eseq ⟨.u8, .var 6, .var 4⟩)], pre := [(.le (.int 0) (.var 5), true), (.le (.var 5) (.var 2), true), (.le (.var 2) (.var 6), true), (.le (.var 2) (.var 3), true), (.le (.var 3) (.int 1000000), true), (.eq (.fn 56 txRa21) (.int 0), false)], res := .nilslice, frows := [(1, .cells 53 0 false false [.ptr 1 0, .sslice 3 (.int 0) (.var 2) (.var 3) true, .sint .i64 (.fn 55 txRa21), .sint .i64 (.fn 56 txRa21), .sint .i64 (.fn 57 txRa21)])], same := [1, 3] }
def bytesN_t0 : List (Q × Bool) := [asRa60]
def bytesN_d0 : List Duty := [(true, (.var 5), (.fn 55 txRa21)), (true, (.var 9), (.fn 56 txRa21)), (true, (.var 10), (.fn 57 txRa21))]
theorem bytesN_y0 : endC bytesN [(1, 1), (3, 3)] 1000 (callC Try.prog (tellA bytesN_t0) [] [(34, numberC)] [] 3000 40 13 bytesN) = some bytesN_d0 := by kernel_rfl
def bytesN_t1 : List (Q × Bool) := [asRa61, asRa4, asRa62, asRa63, asRa64, asRa65, asRa66, asRa0, asRa1, asRa67]
def bytesN_d1 : List Duty := [(true, (.var 5), (.fn 55 txRa21)), (true, (.int 4), (.fn 56 txRa21)), (true, (.var 2), (.fn 57 txRa21))]
theorem bytesN_y1 : endC bytesN [(1, 1), (3, 3)] 1000 (callC Try.prog (tellA bytesN_t1) [] [(34, numberC)] [] 3000 40 13 bytesN) = some bytesN_d1 := by kernel_rfl
def bytesN_t2 : List (Q × Bool) := [asRa61, asRa4, asRa62, asRa63, asRa64, asRa65, asRa66, asRa0, asRa1, asRa2, asRa3, asRa5, asRa6, asRa7, asRa68]
def bytesN_d2 : List Duty := [(true, (.var 5), (.fn 55 txRa21)), (true, (.int 4), (.fn 56 txRa21)), (true, (.var 5), (.fn 57 txRa21))]
theorem bytesN_y2 : endC bytesN [(1, 1), (3, 3)] 1000 (callC Try.prog (tellA bytesN_t2) [] [(34, numberC)] [] 3000 40 13 bytesN) = some bytesN_d2 := by kernel_rfl
def bytesN_t3 : List (Q × Bool) := [asRa61, asRa4, asRa62, asRa63, asRa64, asRa65, asRa66, asRa0, asRa1, asRa2, asRa3, asRa5, asRa6, asRa7, asRa8, asRa12, asRa13, asRa69]
def bytesN_d3 : List Duty := [(true, (.var 5), (.fn 55 txRa21)), (true, (.int 4), (.fn 56 txRa21)), (true, (.var 2), (.fn 57 txRa21))]
theorem bytesN_y3 : endC bytesN [(1, 1), (3, 3)] 1000 (callC Try.prog (tellA bytesN_t3) [] [(34, numberC)] [] 3000 40 13 bytesN) = some bytesN_d3 := by kernel_rfl
def bytesN_t4 : List (Q × Bool) := [asRa61, asRa4, asRa62, asRa63, asRa64, asRa65, asRa66, asRa0, asRa1, asRa2, asRa3, asRa5, asRa6, asRa7, asRa8, asRa12, asRa13, asRa14, asRa15, asRa16, asRa17, asRa18, asRa19, asRa20, asRa24, asRa25, asRa70]
def bytesN_d4 : List Duty := [(true, (.var 5), (.fn 55 txRa21)), (true, (.int 4), (.fn 56 txRa21)), (true, (.var 2), (.fn 57 txRa21))]
theorem bytesN_y4 : endC bytesN [(1, 1), (3, 3)] 1000 (callC Try.prog (tellA bytesN_t4) [] [(34, numberC)] [] 3000 40 13 bytesN) = some bytesN_d4 := by kernel_rfl
def bytesN_t5 : List (Q × Bool) := [asRa61, asRa4, asRa62, asRa63, asRa64, asRa65, asRa66, asRa0, asRa1, asRa2, asRa3, asRa5, asRa6, asRa7, asRa8, asRa12, asRa13, asRa14, asRa15, asRa16, asRa17, asRa18, asRa19, asRa20, asRa24, asRa25, asRa26, asRa27, asRa28, asRa29, asRa30, asRa31, asRa32, asRa36, asRa37, asRa71]
def bytesN_d5 : List Duty := [(true, (.var 5), (.fn 55 txRa21)), (true, (.int 4), (.fn 56 txRa21)), (true, (.var 2), (.fn 57 txRa21))]
theorem bytesN_y5 : endC bytesN [(1, 1), (3, 3)] 1000 (callC Try.prog (tellA bytesN_t5) [] [(34, numberC)] [] 3000 40 13 bytesN) = some bytesN_d5 := by kernel_rfl
def bytesN_t6 : List (Q × Bool) := [asRa61, asRa4, asRa62, asRa63, asRa64, asRa65, asRa66, asRa0, asRa1, asRa2, asRa3, asRa5, asRa6, asRa7, asRa8, asRa12, asRa13, asRa14, asRa15, asRa16, asRa17, asRa18, asRa19, asRa20, asRa24, asRa25, asRa26, asRa27, asRa28, asRa29, asRa30, asRa31, asRa32, asRa36, asRa37, asRa38, asRa39, asRa40, asRa41, asRa42, asRa43, asRa44, asRa48, asRa49, asRa72]
def bytesN_d6 : List Duty := [(true, (.var 5), (.fn 55 txRa21)), (true, (.int 4), (.fn 56 txRa21)), (true, (.var 2), (.fn 57 txRa21))]
theorem bytesN_y6 : endC bytesN [(1, 1), (3, 3)] 1000 (callC Try.prog (tellA bytesN_t6) [] [(34, numberC)] [] 3000 40 13 bytesN) = some bytesN_d6 := by kernel_rfl
def bytesN_t7 : List (Q × Bool) := [asRa61, asRa4, asRa62, asRa63, asRa64, asRa65, asRa66, asRa0, asRa1, asRa2, asRa3, asRa5, asRa6, asRa7, asRa8, asRa12, asRa13, asRa14, asRa15, asRa16, asRa17, asRa18, asRa19, asRa20, asRa24, asRa25, asRa26, asRa27, asRa28, asRa29, asRa30, asRa31, asRa32, asRa36, asRa37, asRa38, asRa39, asRa40, asRa41, asRa42, asRa43, asRa44, asRa48, asRa49, asRa50, asRa51, asRa52, asRa53, asRa54, asRa55, asRa56, asRa73]
def bytesN_d7 : List Duty := [(true, (.var 5), (.fn 55 txRa21)), (true, (.int 5), (.fn 56 txRa21)), (true, (.var 5), (.fn 57 txRa21))]
theorem bytesN_y7 : endC bytesN [(1, 1), (3, 3)] 1000 (callC Try.prog (tellA bytesN_t7) [] [(34, numberC)] [] 3000 40 13 bytesN) = some bytesN_d7 := by kernel_rfl
def bytesN_t8 : List (Q × Bool) := [asRa61, asRa4, asRa62, asRa63, asRa64, asRa65, asRa66, asRa0, asRa1, asRa2, asRa3, asRa5, asRa6, asRa7, asRa8, asRa12, asRa13, asRa14, asRa15, asRa16, asRa17, asRa18, asRa19, asRa20, asRa24, asRa25, asRa26, asRa27, asRa28, asRa29, asRa30, asRa31, asRa32, asRa36, asRa37, asRa38, asRa39, asRa40, asRa41, asRa42, asRa43, asRa44, asRa48, asRa49, asRa50, asRa51, asRa52, asRa53, asRa54, asRa55, asRa56, asRa57, asRa74]
def bytesN_d8 : List Duty := [(true, (.var 5), (.fn 55 txRa21)), (true, (.int 5), (.fn 56 txRa21)), (true, (.var 5), (.fn 57 txRa21))]
theorem bytesN_y8 : endC bytesN [(1, 1), (3, 3)] 1000 (callC Try.prog (tellA bytesN_t8) [] [(34, numberC)] [] 3000 40 13 bytesN) = some bytesN_d8 := by kernel_rfl
def bytesN_t9 : List (Q × Bool) := [asRa61, asRa4, asRa62, asRa63, asRa64, asRa65, asRa75, asRa80]
def bytesN_d9 : List Duty := [(true, (.var 5), (.fn 55 txRa21)), (true, (.int 3), (.fn 56 txRa21)), (true, (.var 5), (.fn 57 txRa21))]
theorem bytesN_y9 : endC bytesN [(1, 1), (3, 3)] 1000 (callC Try.prog (tellA bytesN_t9) [] [(34, numberC)] [] 3000 40 13 bytesN) = some bytesN_d9 := by kernel_rfl
abbrev asRa90 : Q × Bool := ((.le (.fn 21 (.bi .pair (.var 4) txRa8)) (.bi .sub (.var 2) txRa18)), false)
def bytesN_t10 : List (Q × Bool) := [asRa61, asRa4, asRa62, asRa63, asRa64, asRa65, asRa75, asRa81, asRa0, asRa82, asRa90]
def bytesN_d10 : List Duty := [(true, (.var 5), (.fn 55 txRa21)), (true, (.int 4), (.fn 56 txRa21)), (true, (.var 2), (.fn 57 txRa21))]
theorem bytesN_y10 : endC bytesN [(1, 1), (3, 3)] 1000 (callC Try.prog (tellA bytesN_t10) [] [(34, numberC)] [] 3000 40 13 bytesN) = some bytesN_d10 := by kernel_rfl
theorem bytesN_holds : CHolds Try.prog 13 bytesN F := by
  refine cholds_of sound (tableNil _ _) (specsCons numberC_holds (specsNil _ _)) (oversNil _ _) (fuel := 3000) (depth := 40) (by kernel_rfl) fun d hp hR hA => ?_
  have hp := allTold'_iff.2 hp
  simp only [bytesN, allTold', dutiesTold, factsA, factsC, factsP, factsR, AV.facts, RW.facts, inK, and_true, Q.holds', E.i, E.s, E.n, D.nat, E.den, BO.den, UO.den, TO.den, D.toInt_int, D.toList_list, D.ints_ofInts, i64min, i64max, u8min, u8max, u16min, u16max, u32min, u32max, u64min, u64max, i32min, i32max, Om.sub, selI, ints_app, ints_cut, ints_upd, ints_rep, ints_splice, ints_seg, len_ints] at hp hR hA
  by_cases e0 : (d 9).toInt = 0
  · by_cases k0 : (numL (prt (d 4).ints (d 5).toInt (d 2).toInt)).1 = 0
    · have nv := num_val (x := (d 4).ints) (o := (d 5).toInt) (t := (d 2).toInt) (by omega) (by omega) hR.2.2 k0
      by_cases g : (d 7).toInt < (numL (prt (d 4).ints (d 5).toInt (d 2).toInt)).2.1
      · refine ⟨tellA bytesN_t9, _, _, _, tellA_ok (allTold'_iff.1 ?_), bytesN_y9, dutiesTold_ok ?_⟩
        · simp only [bytesN_t9, F20, F21, F22, allTold', dutiesTold, factsA, factsC, factsP, factsR, AV.facts, RW.facts, inK, and_true, Q.holds', E.i, E.s, E.n, D.nat, E.den, BO.den, UO.den, TO.den, D.toInt_int, D.toList_list, D.ints_ofInts, i64min, i64max, u8min, u8max, u16min, u16max, u32min, u32max, u64min, u64max, i32min, i32max, Om.sub, selI, ints_app, ints_cut, ints_upd, ints_rep, ints_splice, ints_seg, len_ints]
          first | done | omega | (and_intros <;> first | omega | trivial)
        · simp only [bytesN_d9, F21, F22, F54, F55, F56, F57, F58, allTold', dutiesTold, factsA, factsC, factsP, factsR, AV.facts, RW.facts, inK, and_true, Q.holds', E.i, E.s, E.n, D.nat, E.den, BO.den, UO.den, TO.den, D.toInt_int, D.toList_list, D.ints_ofInts, i64min, i64max, u8min, u8max, u16min, u16max, u32min, u32max, u64min, u64max, i32min, i32max, Om.sub, selI, ints_app, ints_cut, ints_upd, ints_rep, ints_splice, ints_seg, len_ints]
          simp only [rdB_hi e0 k0 g]
          first | done | omega | (and_intros <;> first | rfl | omega | exact cut0 _ _ | exact cutC (by omega) (by omega) | trivial)
      · by_cases g2 : (d 2).toInt - ((d 5).toInt + (numL (prt (d 4).ints (d 5).toInt (d 2).toInt)).2.2) < (numL (prt (d 4).ints (d 5).toInt (d 2).toInt)).2.1
        · refine ⟨tellA bytesN_t10, _, _, _, tellA_ok (allTold'_iff.1 ?_), bytesN_y10, dutiesTold_ok ?_⟩
          · simp only [bytesN_t10, F20, F21, F22, allTold', dutiesTold, factsA, factsC, factsP, factsR, AV.facts, RW.facts, inK, and_true, Q.holds', E.i, E.s, E.n, D.nat, E.den, BO.den, UO.den, TO.den, D.toInt_int, D.toList_list, D.ints_ofInts, i64min, i64max, u8min, u8max, u16min, u16max, u32min, u32max, u64min, u64max, i32min, i32max, Om.sub, selI, ints_app, ints_cut, ints_upd, ints_rep, ints_splice, ints_seg, len_ints]
            first | done | omega | (and_intros <;> first | omega | trivial)
          · simp only [bytesN_d10, F21, F22, F54, F55, F56, F57, F58, allTold', dutiesTold, factsA, factsC, factsP, factsR, AV.facts, RW.facts, inK, and_true, Q.holds', E.i, E.s, E.n, D.nat, E.den, BO.den, UO.den, TO.den, D.toInt_int, D.toList_list, D.ints_ofInts, i64min, i64max, u8min, u8max, u16min, u16max, u32min, u32max, u64min, u64max, i32min, i32max, Om.sub, selI, ints_app, ints_cut, ints_upd, ints_rep, ints_splice, ints_seg, len_ints]
            simp only [rdB_few e0 k0 g g2]
            first | done | omega | (and_intros <;> first | rfl | omega | exact cut0 _ _ | exact cutC (by omega) (by omega) | trivial)
        · exfalso
          simp only [F56, allTold', dutiesTold, factsA, factsC, factsP, factsR, AV.facts, RW.facts, inK, and_true, Q.holds', E.i, E.s, E.n, D.nat, E.den, BO.den, UO.den, TO.den, D.toInt_int, D.toList_list, D.ints_ofInts, i64min, i64max, u8min, u8max, u16min, u16max, u32min, u32max, u64min, u64max, i32min, i32max, Om.sub, selI, ints_app, ints_cut, ints_upd, ints_rep, ints_splice, ints_seg, len_ints] at hp
          rw [rdB_ok e0 k0 g g2] at hp
          exact hp.2.2.2.2.2 e0
    · have hx : ∀ c ∈ (d 4).ints, 0 ≤ c ∧ c ≤ 255 := hR.2.2
      obtain ⟨c0, c1, c2, c3, c4, h0, h1, h2, h3, h4, g0, g1, g2, g3, g4, hn⟩ := num_at (x := (d 4).ints) (o := (d 5).toInt) (t := (d 2).toInt) (by omega) (by omega) hx
      rcases hn with hn | hn | hn | hn | hn | hn | hn | hn | hn | hn | hn | hn | hn
      · have hv := hn.2
        refine ⟨tellA bytesN_t1, _, _, _, tellA_ok (allTold'_iff.1 ?_), bytesN_y1, dutiesTold_ok ?_⟩
        · simp only [bytesN_t1, F20, allTold', dutiesTold, factsA, factsC, factsP, factsR, AV.facts, RW.facts, inK, and_true, Q.holds', E.i, E.s, E.n, D.nat, E.den, BO.den, UO.den, TO.den, D.toInt_int, D.toList_list, D.ints_ofInts, i64min, i64max, u8min, u8max, u16min, u16max, u32min, u32max, u64min, u64max, i32min, i32max, Om.sub, selI, ints_app, ints_cut, ints_upd, ints_rep, ints_splice, ints_seg, len_ints]
          try simp only [← h0, ← h1, ← h2, ← h3, ← h4]
          and_intros <;> first | omega | trivial
        · simp only [bytesN_d1, F54, F55, F56, F57, F58, F23, F24, allTold', dutiesTold, factsA, factsC, factsP, factsR, AV.facts, RW.facts, inK, and_true, Q.holds', E.i, E.s, E.n, D.nat, E.den, BO.den, UO.den, TO.den, D.toInt_int, D.toList_list, D.ints_ofInts, i64min, i64max, u8min, u8max, u16min, u16max, u32min, u32max, u64min, u64max, i32min, i32max, Om.sub, selI, ints_app, ints_cut, ints_upd, ints_rep, ints_splice, ints_seg, len_ints]
          try simp only [rdB_bad e0 k0, if_pos e0, if_neg k0, hv, ← h0, ← h1, ← h2, ← h3, ← h4]
          first | done | omega | (and_intros <;> first | rfl | omega | exact cut0 _ _ | trivial)
      · have hv := hn.2.2
        refine ⟨tellA bytesN_t2, _, _, _, tellA_ok (allTold'_iff.1 ?_), bytesN_y2, dutiesTold_ok ?_⟩
        · simp only [bytesN_t2, F20, allTold', dutiesTold, factsA, factsC, factsP, factsR, AV.facts, RW.facts, inK, and_true, Q.holds', E.i, E.s, E.n, D.nat, E.den, BO.den, UO.den, TO.den, D.toInt_int, D.toList_list, D.ints_ofInts, i64min, i64max, u8min, u8max, u16min, u16max, u32min, u32max, u64min, u64max, i32min, i32max, Om.sub, selI, ints_app, ints_cut, ints_upd, ints_rep, ints_splice, ints_seg, len_ints]
          try simp only [← h0, ← h1, ← h2, ← h3, ← h4]
          and_intros <;> first | omega | trivial
        · simp only [bytesN_d2, F54, F55, F56, F57, F58, F23, F24, allTold', dutiesTold, factsA, factsC, factsP, factsR, AV.facts, RW.facts, inK, and_true, Q.holds', E.i, E.s, E.n, D.nat, E.den, BO.den, UO.den, TO.den, D.toInt_int, D.toList_list, D.ints_ofInts, i64min, i64max, u8min, u8max, u16min, u16max, u32min, u32max, u64min, u64max, i32min, i32max, Om.sub, selI, ints_app, ints_cut, ints_upd, ints_rep, ints_splice, ints_seg, len_ints]
          try simp only [rdB_bad e0 k0, if_pos e0, if_neg k0, hv, ← h0, ← h1, ← h2, ← h3, ← h4]
          first | done | omega | (and_intros <;> first | rfl | omega | exact cut0 _ _ | trivial)
      · exfalso
        rw [hn.2.2] at k0
        exact k0 rfl
      · have hv := hn.2.2.2
        have r0 : iopI .rem .u8 c0 128 = c0 - 128 := by rw [rem_emod _ (by omega)]; omega
        refine ⟨tellA bytesN_t3, _, _, _, tellA_ok (allTold'_iff.1 ?_), bytesN_y3, dutiesTold_ok ?_⟩
        · simp only [bytesN_t3, F20, allTold', dutiesTold, factsA, factsC, factsP, factsR, AV.facts, RW.facts, inK, and_true, Q.holds', E.i, E.s, E.n, D.nat, E.den, BO.den, UO.den, TO.den, D.toInt_int, D.toList_list, D.ints_ofInts, i64min, i64max, u8min, u8max, u16min, u16max, u32min, u32max, u64min, u64max, i32min, i32max, Om.sub, selI, ints_app, ints_cut, ints_upd, ints_rep, ints_splice, ints_seg, len_ints]
          try simp only [← h0, ← h1, ← h2, ← h3, ← h4, r0]
          and_intros <;> first | omega | trivial
        · simp only [bytesN_d3, F54, F55, F56, F57, F58, F23, F24, allTold', dutiesTold, factsA, factsC, factsP, factsR, AV.facts, RW.facts, inK, and_true, Q.holds', E.i, E.s, E.n, D.nat, E.den, BO.den, UO.den, TO.den, D.toInt_int, D.toList_list, D.ints_ofInts, i64min, i64max, u8min, u8max, u16min, u16max, u32min, u32max, u64min, u64max, i32min, i32max, Om.sub, selI, ints_app, ints_cut, ints_upd, ints_rep, ints_splice, ints_seg, len_ints]
          try simp only [rdB_bad e0 k0, if_pos e0, if_neg k0, hv, ← h0, ← h1, ← h2, ← h3, ← h4, r0]
          first | done | omega | (and_intros <;> first | rfl | omega | exact cut0 _ _ | trivial)
      · exfalso
        rw [hn.2.2.2] at k0
        exact k0 rfl
      · have hv := hn.2.2.2.2
        have r0 : iopI .rem .u8 c0 128 = c0 - 128 := by rw [rem_emod _ (by omega)]; omega
        have r1 : iopI .rem .u8 c1 128 = c1 - 128 := by rw [rem_emod _ (by omega)]; omega
        have e1 : iopI .or .u64 (iopI .shl .u64 (c0 - 128) 7) (c1 - 128) = (c0 - 128) * 128 + (c1 - 128) := or7 (by omega) (by omega) (by omega) (by omega)
        refine ⟨tellA bytesN_t4, _, _, _, tellA_ok (allTold'_iff.1 ?_), bytesN_y4, dutiesTold_ok ?_⟩
        · simp only [bytesN_t4, F20, allTold', dutiesTold, factsA, factsC, factsP, factsR, AV.facts, RW.facts, inK, and_true, Q.holds', E.i, E.s, E.n, D.nat, E.den, BO.den, UO.den, TO.den, D.toInt_int, D.toList_list, D.ints_ofInts, i64min, i64max, u8min, u8max, u16min, u16max, u32min, u32max, u64min, u64max, i32min, i32max, Om.sub, selI, ints_app, ints_cut, ints_upd, ints_rep, ints_splice, ints_seg, len_ints]
          try simp only [← h0, ← h1, ← h2, ← h3, ← h4, r0, r1, e1]
          and_intros <;> first | omega | trivial
        · simp only [bytesN_d4, F54, F55, F56, F57, F58, F23, F24, allTold', dutiesTold, factsA, factsC, factsP, factsR, AV.facts, RW.facts, inK, and_true, Q.holds', E.i, E.s, E.n, D.nat, E.den, BO.den, UO.den, TO.den, D.toInt_int, D.toList_list, D.ints_ofInts, i64min, i64max, u8min, u8max, u16min, u16max, u32min, u32max, u64min, u64max, i32min, i32max, Om.sub, selI, ints_app, ints_cut, ints_upd, ints_rep, ints_splice, ints_seg, len_ints]
          try simp only [rdB_bad e0 k0, if_pos e0, if_neg k0, hv, ← h0, ← h1, ← h2, ← h3, ← h4, r0, r1, e1]
          first | done | omega | (and_intros <;> first | rfl | omega | exact cut0 _ _ | trivial)
      · exfalso
        rw [hn.2.2.2.2] at k0
        exact k0 rfl
      · have hv := hn.2.2.2.2.2
        have r0 : iopI .rem .u8 c0 128 = c0 - 128 := by rw [rem_emod _ (by omega)]; omega
        have r1 : iopI .rem .u8 c1 128 = c1 - 128 := by rw [rem_emod _ (by omega)]; omega
        have r2 : iopI .rem .u8 c2 128 = c2 - 128 := by rw [rem_emod _ (by omega)]; omega
        have e1 : iopI .or .u64 (iopI .shl .u64 (c0 - 128) 7) (c1 - 128) = (c0 - 128) * 128 + (c1 - 128) := or7 (by omega) (by omega) (by omega) (by omega)
        have e2 : iopI .or .u64 (iopI .shl .u64 ((c0 - 128) * 128 + (c1 - 128)) 7) (c2 - 128) = ((c0 - 128) * 128 + (c1 - 128)) * 128 + (c2 - 128) := or7 (by omega) (by omega) (by omega) (by omega)
        refine ⟨tellA bytesN_t5, _, _, _, tellA_ok (allTold'_iff.1 ?_), bytesN_y5, dutiesTold_ok ?_⟩
        · simp only [bytesN_t5, F20, allTold', dutiesTold, factsA, factsC, factsP, factsR, AV.facts, RW.facts, inK, and_true, Q.holds', E.i, E.s, E.n, D.nat, E.den, BO.den, UO.den, TO.den, D.toInt_int, D.toList_list, D.ints_ofInts, i64min, i64max, u8min, u8max, u16min, u16max, u32min, u32max, u64min, u64max, i32min, i32max, Om.sub, selI, ints_app, ints_cut, ints_upd, ints_rep, ints_splice, ints_seg, len_ints]
          try simp only [← h0, ← h1, ← h2, ← h3, ← h4, r0, r1, r2, e1, e2]
          and_intros <;> first | omega | trivial
        · simp only [bytesN_d5, F54, F55, F56, F57, F58, F23, F24, allTold', dutiesTold, factsA, factsC, factsP, factsR, AV.facts, RW.facts, inK, and_true, Q.holds', E.i, E.s, E.n, D.nat, E.den, BO.den, UO.den, TO.den, D.toInt_int, D.toList_list, D.ints_ofInts, i64min, i64max, u8min, u8max, u16min, u16max, u32min, u32max, u64min, u64max, i32min, i32max, Om.sub, selI, ints_app, ints_cut, ints_upd, ints_rep, ints_splice, ints_seg, len_ints]
          try simp only [rdB_bad e0 k0, if_pos e0, if_neg k0, hv, ← h0, ← h1, ← h2, ← h3, ← h4, r0, r1, r2, e1, e2]
          first | done | omega | (and_intros <;> first | rfl | omega | exact cut0 _ _ | trivial)
      · exfalso
        rw [hn.2.2.2.2.2] at k0
        exact k0 rfl
      · have hv := hn.2.2.2.2.2.2
        have r0 : iopI .rem .u8 c0 128 = c0 - 128 := by rw [rem_emod _ (by omega)]; omega
        have r1 : iopI .rem .u8 c1 128 = c1 - 128 := by rw [rem_emod _ (by omega)]; omega
        have r2 : iopI .rem .u8 c2 128 = c2 - 128 := by rw [rem_emod _ (by omega)]; omega
        have r3 : iopI .rem .u8 c3 128 = c3 - 128 := by rw [rem_emod _ (by omega)]; omega
        have e1 : iopI .or .u64 (iopI .shl .u64 (c0 - 128) 7) (c1 - 128) = (c0 - 128) * 128 + (c1 - 128) := or7 (by omega) (by omega) (by omega) (by omega)
        have e2 : iopI .or .u64 (iopI .shl .u64 ((c0 - 128) * 128 + (c1 - 128)) 7) (c2 - 128) = ((c0 - 128) * 128 + (c1 - 128)) * 128 + (c2 - 128) := or7 (by omega) (by omega) (by omega) (by omega)
        have e3 : iopI .or .u64 (iopI .shl .u64 (((c0 - 128) * 128 + (c1 - 128)) * 128 + (c2 - 128)) 7) (c3 - 128) = (((c0 - 128) * 128 + (c1 - 128)) * 128 + (c2 - 128)) * 128 + (c3 - 128) := or7 (by omega) (by omega) (by omega) (by omega)
        refine ⟨tellA bytesN_t6, _, _, _, tellA_ok (allTold'_iff.1 ?_), bytesN_y6, dutiesTold_ok ?_⟩
        · simp only [bytesN_t6, F20, allTold', dutiesTold, factsA, factsC, factsP, factsR, AV.facts, RW.facts, inK, and_true, Q.holds', E.i, E.s, E.n, D.nat, E.den, BO.den, UO.den, TO.den, D.toInt_int, D.toList_list, D.ints_ofInts, i64min, i64max, u8min, u8max, u16min, u16max, u32min, u32max, u64min, u64max, i32min, i32max, Om.sub, selI, ints_app, ints_cut, ints_upd, ints_rep, ints_splice, ints_seg, len_ints]
          try simp only [← h0, ← h1, ← h2, ← h3, ← h4, r0, r1, r2, r3, e1, e2, e3]
          and_intros <;> first | omega | trivial
        · simp only [bytesN_d6, F54, F55, F56, F57, F58, F23, F24, allTold', dutiesTold, factsA, factsC, factsP, factsR, AV.facts, RW.facts, inK, and_true, Q.holds', E.i, E.s, E.n, D.nat, E.den, BO.den, UO.den, TO.den, D.toInt_int, D.toList_list, D.ints_ofInts, i64min, i64max, u8min, u8max, u16min, u16max, u32min, u32max, u64min, u64max, i32min, i32max, Om.sub, selI, ints_app, ints_cut, ints_upd, ints_rep, ints_splice, ints_seg, len_ints]
          try simp only [rdB_bad e0 k0, if_pos e0, if_neg k0, hv, ← h0, ← h1, ← h2, ← h3, ← h4, r0, r1, r2, r3, e1, e2, e3]
          first | done | omega | (and_intros <;> first | rfl | omega | exact cut0 _ _ | trivial)
      · exfalso
        rw [hn.2.2.2.2.2.2.2] at k0
        exact k0 rfl
      · have hv := hn.2.2.2.2.2.2.2
        have r0 : iopI .rem .u8 c0 128 = c0 - 128 := by rw [rem_emod _ (by omega)]; omega
        have r1 : iopI .rem .u8 c1 128 = c1 - 128 := by rw [rem_emod _ (by omega)]; omega
        have r2 : iopI .rem .u8 c2 128 = c2 - 128 := by rw [rem_emod _ (by omega)]; omega
        have r3 : iopI .rem .u8 c3 128 = c3 - 128 := by rw [rem_emod _ (by omega)]; omega
        have r4 : iopI .rem .u8 c4 128 = c4 := by rw [rem_emod _ (by omega)]; omega
        have e1 : iopI .or .u64 (iopI .shl .u64 (c0 - 128) 7) (c1 - 128) = (c0 - 128) * 128 + (c1 - 128) := or7 (by omega) (by omega) (by omega) (by omega)
        have e2 : iopI .or .u64 (iopI .shl .u64 ((c0 - 128) * 128 + (c1 - 128)) 7) (c2 - 128) = ((c0 - 128) * 128 + (c1 - 128)) * 128 + (c2 - 128) := or7 (by omega) (by omega) (by omega) (by omega)
        have e3 : iopI .or .u64 (iopI .shl .u64 (((c0 - 128) * 128 + (c1 - 128)) * 128 + (c2 - 128)) 7) (c3 - 128) = (((c0 - 128) * 128 + (c1 - 128)) * 128 + (c2 - 128)) * 128 + (c3 - 128) := or7 (by omega) (by omega) (by omega) (by omega)
        have e4 : iopI .or .u64 (iopI .shl .u64 ((((c0 - 128) * 128 + (c1 - 128)) * 128 + (c2 - 128)) * 128 + (c3 - 128)) 7) c4 = ((((c0 - 128) * 128 + (c1 - 128)) * 128 + (c2 - 128)) * 128 + (c3 - 128)) * 128 + c4 := or7 (by omega) (by omega) (by omega) (by omega)
        refine ⟨tellA bytesN_t8, _, _, _, tellA_ok (allTold'_iff.1 ?_), bytesN_y8, dutiesTold_ok ?_⟩
        · simp only [bytesN_t8, F20, allTold', dutiesTold, factsA, factsC, factsP, factsR, AV.facts, RW.facts, inK, and_true, Q.holds', E.i, E.s, E.n, D.nat, E.den, BO.den, UO.den, TO.den, D.toInt_int, D.toList_list, D.ints_ofInts, i64min, i64max, u8min, u8max, u16min, u16max, u32min, u32max, u64min, u64max, i32min, i32max, Om.sub, selI, ints_app, ints_cut, ints_upd, ints_rep, ints_splice, ints_seg, len_ints]
          try simp only [← h0, ← h1, ← h2, ← h3, ← h4, r0, r1, r2, r3, r4, e1, e2, e3, e4]
          and_intros <;> first | omega | trivial
        · simp only [bytesN_d8, F54, F55, F56, F57, F58, F23, F24, allTold', dutiesTold, factsA, factsC, factsP, factsR, AV.facts, RW.facts, inK, and_true, Q.holds', E.i, E.s, E.n, D.nat, E.den, BO.den, UO.den, TO.den, D.toInt_int, D.toList_list, D.ints_ofInts, i64min, i64max, u8min, u8max, u16min, u16max, u32min, u32max, u64min, u64max, i32min, i32max, Om.sub, selI, ints_app, ints_cut, ints_upd, ints_rep, ints_splice, ints_seg, len_ints]
          try simp only [rdB_bad e0 k0, if_pos e0, if_neg k0, hv, ← h0, ← h1, ← h2, ← h3, ← h4, r0, r1, r2, r3, r4, e1, e2, e3, e4]
          first | done | omega | (and_intros <;> first | rfl | omega | exact cut0 _ _ | trivial)
      · have hv := hn.2.2.2.2.2.2
        have r0 : iopI .rem .u8 c0 128 = c0 - 128 := by rw [rem_emod _ (by omega)]; omega
        have r1 : iopI .rem .u8 c1 128 = c1 - 128 := by rw [rem_emod _ (by omega)]; omega
        have r2 : iopI .rem .u8 c2 128 = c2 - 128 := by rw [rem_emod _ (by omega)]; omega
        have r3 : iopI .rem .u8 c3 128 = c3 - 128 := by rw [rem_emod _ (by omega)]; omega
        have r4 : iopI .rem .u8 c4 128 = c4 - 128 := by rw [rem_emod _ (by omega)]; omega
        have e1 : iopI .or .u64 (iopI .shl .u64 (c0 - 128) 7) (c1 - 128) = (c0 - 128) * 128 + (c1 - 128) := or7 (by omega) (by omega) (by omega) (by omega)
        have e2 : iopI .or .u64 (iopI .shl .u64 ((c0 - 128) * 128 + (c1 - 128)) 7) (c2 - 128) = ((c0 - 128) * 128 + (c1 - 128)) * 128 + (c2 - 128) := or7 (by omega) (by omega) (by omega) (by omega)
        have e3 : iopI .or .u64 (iopI .shl .u64 (((c0 - 128) * 128 + (c1 - 128)) * 128 + (c2 - 128)) 7) (c3 - 128) = (((c0 - 128) * 128 + (c1 - 128)) * 128 + (c2 - 128)) * 128 + (c3 - 128) := or7 (by omega) (by omega) (by omega) (by omega)
        have e4 : iopI .or .u64 (iopI .shl .u64 ((((c0 - 128) * 128 + (c1 - 128)) * 128 + (c2 - 128)) * 128 + (c3 - 128)) 7) (c4 - 128) = ((((c0 - 128) * 128 + (c1 - 128)) * 128 + (c2 - 128)) * 128 + (c3 - 128)) * 128 + (c4 - 128) := or7 (by omega) (by omega) (by omega) (by omega)
        refine ⟨tellA bytesN_t7, _, _, _, tellA_ok (allTold'_iff.1 ?_), bytesN_y7, dutiesTold_ok ?_⟩
        · simp only [bytesN_t7, F20, allTold', dutiesTold, factsA, factsC, factsP, factsR, AV.facts, RW.facts, inK, and_true, Q.holds', E.i, E.s, E.n, D.nat, E.den, BO.den, UO.den, TO.den, D.toInt_int, D.toList_list, D.ints_ofInts, i64min, i64max, u8min, u8max, u16min, u16max, u32min, u32max, u64min, u64max, i32min, i32max, Om.sub, selI, ints_app, ints_cut, ints_upd, ints_rep, ints_splice, ints_seg, len_ints]
          try simp only [← h0, ← h1, ← h2, ← h3, ← h4, r0, r1, r2, r3, r4, e1, e2, e3, e4]
          and_intros <;> first | omega | trivial
        · simp only [bytesN_d7, F54, F55, F56, F57, F58, F23, F24, allTold', dutiesTold, factsA, factsC, factsP, factsR, AV.facts, RW.facts, inK, and_true, Q.holds', E.i, E.s, E.n, D.nat, E.den, BO.den, UO.den, TO.den, D.toInt_int, D.toList_list, D.ints_ofInts, i64min, i64max, u8min, u8max, u16min, u16max, u32min, u32max, u64min, u64max, i32min, i32max, Om.sub, selI, ints_app, ints_cut, ints_upd, ints_rep, ints_splice, ints_seg, len_ints]
          try simp only [rdB_bad e0 k0, if_pos e0, if_neg k0, hv, ← h0, ← h1, ← h2, ← h3, ← h4, r0, r1, r2, r3, r4, e1, e2, e3, e4]
          first | done | omega | (and_intros <;> first | rfl | omega | exact cut0 _ _ | trivial)
  · refine ⟨tellA bytesN_t0, _, _, _, tellA_ok (allTold'_iff.1 ?_), bytesN_y0, dutiesTold_ok ?_⟩
    · simp only [bytesN_t0, F20, F21, F22, allTold', dutiesTold, factsA, factsC, factsP, factsR, AV.facts, RW.facts, inK, and_true, Q.holds', E.i, E.s, E.n, D.nat, E.den, BO.den, UO.den, TO.den, D.toInt_int, D.toList_list, D.ints_ofInts, i64min, i64max, u8min, u8max, u16min, u16max, u32min, u32max, u64min, u64max, i32min, i32max, Om.sub, selI, ints_app, ints_cut, ints_upd, ints_rep, ints_splice, ints_seg, len_ints]
      first | done | omega | (and_intros <;> first | omega | trivial)
    · simp only [bytesN_d0, F21, F22, F54, F55, F56, F57, F58, allTold', dutiesTold, factsA, factsC, factsP, factsR, AV.facts, RW.facts, inK, and_true, Q.holds', E.i, E.s, E.n, D.nat, E.den, BO.den, UO.den, TO.den, D.toInt_int, D.toList_list, D.ints_ofInts, i64min, i64max, u8min, u8max, u16min, u16max, u32min, u32max, u64min, u64max, i32min, i32max, Om.sub, selI, ints_app, ints_cut, ints_upd, ints_rep, ints_splice, ints_seg, len_ints]
      simp only [rdB_err e0]
      first | done | omega | (and_intros <;> first | rfl | omega | exact cut0 _ _ | exact cutC (by omega) (by omega) | trivial)

def textP : CSpec := { args := [.ptr 1 0, .sint .i64 (.var 7)], next := 2, rows := [(1, .cells 53 0 false false [.ptr 1 0, .sslice 3 (.int 0) (.var 2) (.var 3) true, .sint .i64 (.var 5), .sint .i64 (.var 9), .sint .i64 (.var 10)]), (3, .eseq ⟨.u8, .var 6, .var 4⟩)], pre := [(.le (.int 0) (.var 5), true), (.le (.var 5) (.var 2), true), (.le (.var 2) (.var 6), true), (.le (.var 2) (.var 3), true), (.le (.var 3) (.int 1000000), true)], res := .sstr (.fn 54 txRa21) (.fn 58 txRa21), frows := [(1, .cells 53 0 false false [.ptr 1 0, .sslice 3 (.int 0) (.var 2) (.var 3) true, .sint .i64 (.fn 55 txRa21), .sint .i64 (.fn 56 txRa21), .sint .i64 (.fn 57 txRa21)])], same := [1, 3] }
def textP_t0 : List (Q × Bool) := [asRa60]
def textP_d0 : List Duty := [(true, (.int 0), (.fn 54 txRa21)), (false, (.lits []), (.fn 58 txRa21)), (true, (.var 5), (.fn 55 txRa21)), (true, (.var 9), (.fn 56 txRa21)), (true, (.var 10), (.fn 57 txRa21))]
theorem textP_y0 : endC textP [(1, 1), (3, 3)] 1000 (callC Try.prog (tellA textP_t0) [] [(34, numberC)] [] 3000 40 16 textP) = some textP_d0 := by kernel_rfl
def textP_t1 : List (Q × Bool) := [asRa61, asRa4, asRa62, asRa63, asRa64, asRa65, asRa66, asRa0, asRa1, asRa67]
def textP_d1 : List Duty := [(true, (.int 0), (.fn 54 txRa21)), (false, (.lits []), (.fn 58 txRa21)), (true, (.var 5), (.fn 55 txRa21)), (true, (.int 4), (.fn 56 txRa21)), (true, (.var 2), (.fn 57 txRa21))]
theorem textP_y1 : endC textP [(1, 1), (3, 3)] 1000 (callC Try.prog (tellA textP_t1) [] [(34, numberC)] [] 3000 40 16 textP) = some textP_d1 := by kernel_rfl
def textP_t2 : List (Q × Bool) := [asRa61, asRa4, asRa62, asRa63, asRa64, asRa65, asRa66, asRa0, asRa1, asRa2, asRa3, asRa5, asRa6, asRa7, asRa68]
def textP_d2 : List Duty := [(true, (.int 0), (.fn 54 txRa21)), (false, (.lits []), (.fn 58 txRa21)), (true, (.var 5), (.fn 55 txRa21)), (true, (.int 4), (.fn 56 txRa21)), (true, (.var 5), (.fn 57 txRa21))]
theorem textP_y2 : endC textP [(1, 1), (3, 3)] 1000 (callC Try.prog (tellA textP_t2) [] [(34, numberC)] [] 3000 40 16 textP) = some textP_d2 := by kernel_rfl
def textP_t3 : List (Q × Bool) := [asRa61, asRa4, asRa62, asRa63, asRa64, asRa65, asRa66, asRa0, asRa1, asRa2, asRa3, asRa5, asRa6, asRa7, asRa8, asRa12, asRa13, asRa69]
def textP_d3 : List Duty := [(true, (.int 0), (.fn 54 txRa21)), (false, (.lits []), (.fn 58 txRa21)), (true, (.var 5), (.fn 55 txRa21)), (true, (.int 4), (.fn 56 txRa21)), (true, (.var 2), (.fn 57 txRa21))]
theorem textP_y3 : endC textP [(1, 1), (3, 3)] 1000 (callC Try.prog (tellA textP_t3) [] [(34, numberC)] [] 3000 40 16 textP) = some textP_d3 := by kernel_rfl
def textP_t4 : List (Q × Bool) := [asRa61, asRa4, asRa62, asRa63, asRa64, asRa65, asRa66, asRa0, asRa1, asRa2, asRa3, asRa5, asRa6, asRa7, asRa8, asRa12, asRa13, asRa14, asRa15, asRa16, asRa17, asRa18, asRa19, asRa20, asRa24, asRa25, asRa70]
def textP_d4 : List Duty := [(true, (.int 0), (.fn 54 txRa21)), (false, (.lits []), (.fn 58 txRa21)), (true, (.var 5), (.fn 55 txRa21)), (true, (.int 4), (.fn 56 txRa21)), (true, (.var 2), (.fn 57 txRa21))]
theorem textP_y4 : endC textP [(1, 1), (3, 3)] 1000 (callC Try.prog (tellA textP_t4) [] [(34, numberC)] [] 3000 40 16 textP) = some textP_d4 := by kernel_rfl
def textP_t5 : List (Q × Bool) := [asRa61, asRa4, asRa62, asRa63, asRa64, asRa65, asRa66, asRa0, asRa1, asRa2, asRa3, asRa5, asRa6, asRa7, asRa8, asRa12, asRa13, asRa14, asRa15, asRa16, asRa17, asRa18, asRa19, asRa20, asRa24, asRa25, asRa26, asRa27, asRa28, asRa29, asRa30, asRa31, asRa32, asRa36, asRa37, asRa71]
def textP_d5 : List Duty := [(true, (.int 0), (.fn 54 txRa21)), (false, (.lits []), (.fn 58 txRa21)), (true, (.var 5), (.fn 55 txRa21)), (true, (.int 4), (.fn 56 txRa21)), (true, (.var 2), (.fn 57 txRa21))]
theorem textP_y5 : endC textP [(1, 1), (3, 3)] 1000 (callC Try.prog (tellA textP_t5) [] [(34, numberC)] [] 3000 40 16 textP) = some textP_d5 := by kernel_rfl
def textP_t6 : List (Q × Bool) := [asRa61, asRa4, asRa62, asRa63, asRa64, asRa65, asRa66, asRa0, asRa1, asRa2, asRa3, asRa5, asRa6, asRa7, asRa8, asRa12, asRa13, asRa14, asRa15, asRa16, asRa17, asRa18, asRa19, asRa20, asRa24, asRa25, asRa26, asRa27, asRa28, asRa29, asRa30, asRa31, asRa32, asRa36, asRa37, asRa38, asRa39, asRa40, asRa41, asRa42, asRa43, asRa44, asRa48, asRa49, asRa72]
def textP_d6 : List Duty := [(true, (.int 0), (.fn 54 txRa21)), (false, (.lits []), (.fn 58 txRa21)), (true, (.var 5), (.fn 55 txRa21)), (true, (.int 4), (.fn 56 txRa21)), (true, (.var 2), (.fn 57 txRa21))]
theorem textP_y6 : endC textP [(1, 1), (3, 3)] 1000 (callC Try.prog (tellA textP_t6) [] [(34, numberC)] [] 3000 40 16 textP) = some textP_d6 := by kernel_rfl
def textP_t7 : List (Q × Bool) := [asRa61, asRa4, asRa62, asRa63, asRa64, asRa65, asRa66, asRa0, asRa1, asRa2, asRa3, asRa5, asRa6, asRa7, asRa8, asRa12, asRa13, asRa14, asRa15, asRa16, asRa17, asRa18, asRa19, asRa20, asRa24, asRa25, asRa26, asRa27, asRa28, asRa29, asRa30, asRa31, asRa32, asRa36, asRa37, asRa38, asRa39, asRa40, asRa41, asRa42, asRa43, asRa44, asRa48, asRa49, asRa50, asRa51, asRa52, asRa53, asRa54, asRa55, asRa56, asRa73]
def textP_d7 : List Duty := [(true, (.int 0), (.fn 54 txRa21)), (false, (.lits []), (.fn 58 txRa21)), (true, (.var 5), (.fn 55 txRa21)), (true, (.int 5), (.fn 56 txRa21)), (true, (.var 5), (.fn 57 txRa21))]
theorem textP_y7 : endC textP [(1, 1), (3, 3)] 1000 (callC Try.prog (tellA textP_t7) [] [(34, numberC)] [] 3000 40 16 textP) = some textP_d7 := by kernel_rfl
def textP_t8 : List (Q × Bool) := [asRa61, asRa4, asRa62, asRa63, asRa64, asRa65, asRa66, asRa0, asRa1, asRa2, asRa3, asRa5, asRa6, asRa7, asRa8, asRa12, asRa13, asRa14, asRa15, asRa16, asRa17, asRa18, asRa19, asRa20, asRa24, asRa25, asRa26, asRa27, asRa28, asRa29, asRa30, asRa31, asRa32, asRa36, asRa37, asRa38, asRa39, asRa40, asRa41, asRa42, asRa43, asRa44, asRa48, asRa49, asRa50, asRa51, asRa52, asRa53, asRa54, asRa55, asRa56, asRa57, asRa74]
def textP_d8 : List Duty := [(true, (.int 0), (.fn 54 txRa21)), (false, (.lits []), (.fn 58 txRa21)), (true, (.var 5), (.fn 55 txRa21)), (true, (.int 5), (.fn 56 txRa21)), (true, (.var 5), (.fn 57 txRa21))]
theorem textP_y8 : endC textP [(1, 1), (3, 3)] 1000 (callC Try.prog (tellA textP_t8) [] [(34, numberC)] [] 3000 40 16 textP) = some textP_d8 := by kernel_rfl
def textP_t9 : List (Q × Bool) := [asRa61, asRa4, asRa62, asRa63, asRa64, asRa65, asRa75, asRa80]
def textP_d9 : List Duty := [(true, (.int 0), (.fn 54 txRa21)), (false, (.lits []), (.fn 58 txRa21)), (true, (.var 5), (.fn 55 txRa21)), (true, (.int 3), (.fn 56 txRa21)), (true, (.var 5), (.fn 57 txRa21))]
theorem textP_y9 : endC textP [(1, 1), (3, 3)] 1000 (callC Try.prog (tellA textP_t9) [] [(34, numberC)] [] 3000 40 16 textP) = some textP_d9 := by kernel_rfl
def textP_t10 : List (Q × Bool) := [asRa61, asRa4, asRa62, asRa63, asRa64, asRa65, asRa75, asRa81, asRa0, asRa82, asRa90]
def textP_d10 : List Duty := [(true, (.int 0), (.fn 54 txRa21)), (false, (.lits []), (.fn 58 txRa21)), (true, (.var 5), (.fn 55 txRa21)), (true, (.int 4), (.fn 56 txRa21)), (true, (.var 2), (.fn 57 txRa21))]
theorem textP_y10 : endC textP [(1, 1), (3, 3)] 1000 (callC Try.prog (tellA textP_t10) [] [(34, numberC)] [] 3000 40 16 textP) = some textP_d10 := by kernel_rfl
def textP_t11 : List (Q × Bool) := [asRa61, asRa4, asRa62, asRa63, asRa64, asRa65, asRa75, asRa81, asRa0, asRa82, asRa83, asRa84, asRa85, asRa86, asRa87, asRa88]
def textP_d11 : List Duty := [(true, (.bi .sub txRa40 txRa18), (.fn 54 txRa21)), (false, (.tr .cut (.var 4) txRa18 (.bi .add txRa18 (.bi .sub txRa40 txRa18))), (.fn 58 txRa21)), (true, txRa40, (.fn 55 txRa21)), (true, (.var 9), (.fn 56 txRa21)), (true, (.var 10), (.fn 57 txRa21))]
theorem textP_y11 : endC textP [(1, 1), (3, 3)] 1000 (callC Try.prog (tellA textP_t11) [] [(34, numberC)] [] 3000 40 16 textP) = some textP_d11 := by kernel_rfl
theorem textP_holds : CHolds Try.prog 16 textP F := by
  refine cholds_of sound (tableNil _ _) (specsCons numberC_holds (specsNil _ _)) (oversNil _ _) (fuel := 3000) (depth := 40) (by kernel_rfl) fun d hp hR hA => ?_
  have hp := allTold'_iff.2 hp
  simp only [textP, allTold', dutiesTold, factsA, factsC, factsP, factsR, AV.facts, RW.facts, inK, and_true, Q.holds', E.i, E.s, E.n, D.nat, E.den, BO.den, UO.den, TO.den, D.toInt_int, D.toList_list, D.ints_ofInts, i64min, i64max, u8min, u8max, u16min, u16max, u32min, u32max, u64min, u64max, i32min, i32max, Om.sub, selI, ints_app, ints_cut, ints_upd, ints_rep, ints_splice, ints_seg, len_ints] at hp hR hA
  by_cases e0 : (d 9).toInt = 0
  · by_cases k0 : (numL (prt (d 4).ints (d 5).toInt (d 2).toInt)).1 = 0
    · have nv := num_val (x := (d 4).ints) (o := (d 5).toInt) (t := (d 2).toInt) (by omega) (by omega) hR.2.2 k0
      by_cases g : (d 7).toInt < (numL (prt (d 4).ints (d 5).toInt (d 2).toInt)).2.1
      · refine ⟨tellA textP_t9, _, _, _, tellA_ok (allTold'_iff.1 ?_), textP_y9, dutiesTold_ok ?_⟩
        · simp only [textP_t9, F20, F21, F22, allTold', dutiesTold, factsA, factsC, factsP, factsR, AV.facts, RW.facts, inK, and_true, Q.holds', E.i, E.s, E.n, D.nat, E.den, BO.den, UO.den, TO.den, D.toInt_int, D.toList_list, D.ints_ofInts, i64min, i64max, u8min, u8max, u16min, u16max, u32min, u32max, u64min, u64max, i32min, i32max, Om.sub, selI, ints_app, ints_cut, ints_upd, ints_rep, ints_splice, ints_seg, len_ints]
          first | done | omega | (and_intros <;> first | omega | trivial)
        · simp only [textP_d9, F21, F22, F54, F55, F56, F57, F58, allTold', dutiesTold, factsA, factsC, factsP, factsR, AV.facts, RW.facts, inK, and_true, Q.holds', E.i, E.s, E.n, D.nat, E.den, BO.den, UO.den, TO.den, D.toInt_int, D.toList_list, D.ints_ofInts, i64min, i64max, u8min, u8max, u16min, u16max, u32min, u32max, u64min, u64max, i32min, i32max, Om.sub, selI, ints_app, ints_cut, ints_upd, ints_rep, ints_splice, ints_seg, len_ints]
          simp only [rdB_hi e0 k0 g]
          first | done | omega | (and_intros <;> first | rfl | omega | exact cut0 _ _ | exact cutC (by omega) (by omega) | trivial)
      · by_cases g2 : (d 2).toInt - ((d 5).toInt + (numL (prt (d 4).ints (d 5).toInt (d 2).toInt)).2.2) < (numL (prt (d 4).ints (d 5).toInt (d 2).toInt)).2.1
        · refine ⟨tellA textP_t10, _, _, _, tellA_ok (allTold'_iff.1 ?_), textP_y10, dutiesTold_ok ?_⟩
          · simp only [textP_t10, F20, F21, F22, allTold', dutiesTold, factsA, factsC, factsP, factsR, AV.facts, RW.facts, inK, and_true, Q.holds', E.i, E.s, E.n, D.nat, E.den, BO.den, UO.den, TO.den, D.toInt_int, D.toList_list, D.ints_ofInts, i64min, i64max, u8min, u8max, u16min, u16max, u32min, u32max, u64min, u64max, i32min, i32max, Om.sub, selI, ints_app, ints_cut, ints_upd, ints_rep, ints_splice, ints_seg, len_ints]
            first | done | omega | (and_intros <;> first | omega | trivial)
          · simp only [textP_d10, F21, F22, F54, F55, F56, F57, F58, allTold', dutiesTold, factsA, factsC, factsP, factsR, AV.facts, RW.facts, inK, and_true, Q.holds', E.i, E.s, E.n, D.nat, E.den, BO.den, UO.den, TO.den, D.toInt_int, D.toList_list, D.ints_ofInts, i64min, i64max, u8min, u8max, u16min, u16max, u32min, u32max, u64min, u64max, i32min, i32max, Om.sub, selI, ints_app, ints_cut, ints_upd, ints_rep, ints_splice, ints_seg, len_ints]
            simp only [rdB_few e0 k0 g g2]
            first | done | omega | (and_intros <;> first | rfl | omega | exact cut0 _ _ | exact cutC (by omega) (by omega) | trivial)
        · refine ⟨tellA textP_t11, _, _, _, tellA_ok (allTold'_iff.1 ?_), textP_y11, dutiesTold_ok ?_⟩
          · simp only [textP_t11, F20, F21, F22, allTold', dutiesTold, factsA, factsC, factsP, factsR, AV.facts, RW.facts, inK, and_true, Q.holds', E.i, E.s, E.n, D.nat, E.den, BO.den, UO.den, TO.den, D.toInt_int, D.toList_list, D.ints_ofInts, i64min, i64max, u8min, u8max, u16min, u16max, u32min, u32max, u64min, u64max, i32min, i32max, Om.sub, selI, ints_app, ints_cut, ints_upd, ints_rep, ints_splice, ints_seg, len_ints]
            first | done | omega | (and_intros <;> first | omega | trivial)
          · simp only [textP_d11, F21, F22, F54, F55, F56, F57, F58, allTold', dutiesTold, factsA, factsC, factsP, factsR, AV.facts, RW.facts, inK, and_true, Q.holds', E.i, E.s, E.n, D.nat, E.den, BO.den, UO.den, TO.den, D.toInt_int, D.toList_list, D.ints_ofInts, i64min, i64max, u8min, u8max, u16min, u16max, u32min, u32max, u64min, u64max, i32min, i32max, Om.sub, selI, ints_app, ints_cut, ints_upd, ints_rep, ints_splice, ints_seg, len_ints]
            simp only [rdB_ok e0 k0 g g2]
            first | done | omega | (and_intros <;> first | rfl | omega | exact cut0 _ _ | exact cutC (by omega) (by omega) | trivial)
    · have hx : ∀ c ∈ (d 4).ints, 0 ≤ c ∧ c ≤ 255 := hR.2.2
      obtain ⟨c0, c1, c2, c3, c4, h0, h1, h2, h3, h4, g0, g1, g2, g3, g4, hn⟩ := num_at (x := (d 4).ints) (o := (d 5).toInt) (t := (d 2).toInt) (by omega) (by omega) hx
      rcases hn with hn | hn | hn | hn | hn | hn | hn | hn | hn | hn | hn | hn | hn
      · have hv := hn.2
        refine ⟨tellA textP_t1, _, _, _, tellA_ok (allTold'_iff.1 ?_), textP_y1, dutiesTold_ok ?_⟩
        · simp only [textP_t1, F20, allTold', dutiesTold, factsA, factsC, factsP, factsR, AV.facts, RW.facts, inK, and_true, Q.holds', E.i, E.s, E.n, D.nat, E.den, BO.den, UO.den, TO.den, D.toInt_int, D.toList_list, D.ints_ofInts, i64min, i64max, u8min, u8max, u16min, u16max, u32min, u32max, u64min, u64max, i32min, i32max, Om.sub, selI, ints_app, ints_cut, ints_upd, ints_rep, ints_splice, ints_seg, len_ints]
          try simp only [← h0, ← h1, ← h2, ← h3, ← h4]
          and_intros <;> first | omega | trivial
        · simp only [textP_d1, F54, F55, F56, F57, F58, F23, F24, allTold', dutiesTold, factsA, factsC, factsP, factsR, AV.facts, RW.facts, inK, and_true, Q.holds', E.i, E.s, E.n, D.nat, E.den, BO.den, UO.den, TO.den, D.toInt_int, D.toList_list, D.ints_ofInts, i64min, i64max, u8min, u8max, u16min, u16max, u32min, u32max, u64min, u64max, i32min, i32max, Om.sub, selI, ints_app, ints_cut, ints_upd, ints_rep, ints_splice, ints_seg, len_ints]
          try simp only [rdB_bad e0 k0, if_pos e0, if_neg k0, hv, ← h0, ← h1, ← h2, ← h3, ← h4]
          first | done | omega | (and_intros <;> first | rfl | omega | exact cut0 _ _ | trivial)
      · have hv := hn.2.2
        refine ⟨tellA textP_t2, _, _, _, tellA_ok (allTold'_iff.1 ?_), textP_y2, dutiesTold_ok ?_⟩
        · simp only [textP_t2, F20, allTold', dutiesTold, factsA, factsC, factsP, factsR, AV.facts, RW.facts, inK, and_true, Q.holds', E.i, E.s, E.n, D.nat, E.den, BO.den, UO.den, TO.den, D.toInt_int, D.toList_list, D.ints_ofInts, i64min, i64max, u8min, u8max, u16min, u16max, u32min, u32max, u64min, u64max, i32min, i32max, Om.sub, selI, ints_app, ints_cut, ints_upd, ints_rep, ints_splice, ints_seg, len_ints]
          try simp only [← h0, ← h1, ← h2, ← h3, ← h4]
          and_intros <;> first | omega | trivial
        · simp only [textP_d2, F54, F55, F56, F57, F58, F23, F24, allTold', dutiesTold, factsA, factsC, factsP, factsR, AV.facts, RW.facts, inK, and_true, Q.holds', E.i, E.s, E.n, D.nat, E.den, BO.den, UO.den, TO.den, D.toInt_int, D.toList_list, D.ints_ofInts, i64min, i64max, u8min, u8max, u16min, u16max, u32min, u32max, u64min, u64max, i32min, i32max, Om.sub, selI, ints_app, ints_cut, ints_upd, ints_rep, ints_splice, ints_seg, len_ints]
          try simp only [rdB_bad e0 k0, if_pos e0, if_neg k0, hv, ← h0, ← h1, ← h2, ← h3, ← h4]
          first | done | omega | (and_intros <;> first | rfl | omega | exact cut0 _ _ | trivial)
      · exfalso
        rw [hn.2.2] at k0
        exact k0 rfl
      · have hv := hn.2.2.2
        have r0 : iopI .rem .u8 c0 128 = c0 - 128 := by rw [rem_emod _ (by omega)]; omega
        refine ⟨tellA textP_t3, _, _, _, tellA_ok (allTold'_iff.1 ?_), textP_y3, dutiesTold_ok ?_⟩
        · simp only [textP_t3, F20, allTold', dutiesTold, factsA, factsC, factsP, factsR, AV.facts, RW.facts, inK, and_true, Q.holds', E.i, E.s, E.n, D.nat, E.den, BO.den, UO.den, TO.den, D.toInt_int, D.toList_list, D.ints_ofInts, i64min, i64max, u8min, u8max, u16min, u16max, u32min, u32max, u64min, u64max, i32min, i32max, Om.sub, selI, ints_app, ints_cut, ints_upd, ints_rep, ints_splice, ints_seg, len_ints]
          try simp only [← h0, ← h1, ← h2, ← h3, ← h4, r0]
          and_intros <;> first | omega | trivial
        · simp only [textP_d3, F54, F55, F56, F57, F58, F23, F24, allTold', dutiesTold, factsA, factsC, factsP, factsR, AV.facts, RW.facts, inK, and_true, Q.holds', E.i, E.s, E.n, D.nat, E.den, BO.den, UO.den, TO.den, D.toInt_int, D.toList_list, D.ints_ofInts, i64min, i64max, u8min, u8max, u16min, u16max, u32min, u32max, u64min, u64max, i32min, i32max, Om.sub, selI, ints_app, ints_cut, ints_upd, ints_rep, ints_splice, ints_seg, len_ints]
          try simp only [rdB_bad e0 k0, if_pos e0, if_neg k0, hv, ← h0, ← h1, ← h2, ← h3, ← h4, r0]
          first | done | omega | (and_intros <;> first | rfl | omega | exact cut0 _ _ | trivial)
      · exfalso
        rw [hn.2.2.2] at k0
        exact k0 rfl
      · have hv := hn.2.2.2.2
        have r0 : iopI .rem .u8 c0 128 = c0 - 128 := by rw [rem_emod _ (by omega)]; omega
        have r1 : iopI .rem .u8 c1 128 = c1 - 128 := by rw [rem_emod _ (by omega)]; omega
        have e1 : iopI .or .u64 (iopI .shl .u64 (c0 - 128) 7) (c1 - 128) = (c0 - 128) * 128 + (c1 - 128) := or7 (by omega) (by omega) (by omega) (by omega)
        refine ⟨tellA textP_t4, _, _, _, tellA_ok (allTold'_iff.1 ?_), textP_y4, dutiesTold_ok ?_⟩
        · simp only [textP_t4, F20, allTold', dutiesTold, factsA, factsC, factsP, factsR, AV.facts, RW.facts, inK, and_true, Q.holds', E.i, E.s, E.n, D.nat, E.den, BO.den, UO.den, TO.den, D.toInt_int, D.toList_list, D.ints_ofInts, i64min, i64max, u8min, u8max, u16min, u16max, u32min, u32max, u64min, u64max, i32min, i32max, Om.sub, selI, ints_app, ints_cut, ints_upd, ints_rep, ints_splice, ints_seg, len_ints]
          try simp only [← h0, ← h1, ← h2, ← h3, ← h4, r0, r1, e1]
          and_intros <;> first | omega | trivial
        · simp only [textP_d4, F54, F55, F56, F57, F58, F23, F24, allTold', dutiesTold, factsA, factsC, factsP, factsR, AV.facts, RW.facts, inK, and_true, Q.holds', E.i, E.s, E.n, D.nat, E.den, BO.den, UO.den, TO.den, D.toInt_int, D.toList_list, D.ints_ofInts, i64min, i64max, u8min, u8max, u16min, u16max, u32min, u32max, u64min, u64max, i32min, i32max, Om.sub, selI, ints_app, ints_cut, ints_upd, ints_rep, ints_splice, ints_seg, len_ints]
          try simp only [rdB_bad e0 k0, if_pos e0, if_neg k0, hv, ← h0, ← h1, ← h2, ← h3, ← h4, r0, r1, e1]
          first | done | omega | (and_intros <;> first | rfl | omega | exact cut0 _ _ | trivial)
      · exfalso
        rw [hn.2.2.2.2] at k0
        exact k0 rfl
      · have hv := hn.2.2.2.2.2
        have r0 : iopI .rem .u8 c0 128 = c0 - 128 := by rw [rem_emod _ (by omega)]; omega
        have r1 : iopI .rem .u8 c1 128 = c1 - 128 := by rw [rem_emod _ (by omega)]; omega
        have r2 : iopI .rem .u8 c2 128 = c2 - 128 := by rw [rem_emod _ (by omega)]; omega
        have e1 : iopI .or .u64 (iopI .shl .u64 (c0 - 128) 7) (c1 - 128) = (c0 - 128) * 128 + (c1 - 128) := or7 (by omega) (by omega) (by omega) (by omega)
        have e2 : iopI .or .u64 (iopI .shl .u64 ((c0 - 128) * 128 + (c1 - 128)) 7) (c2 - 128) = ((c0 - 128) * 128 + (c1 - 128)) * 128 + (c2 - 128) := or7 (by omega) (by omega) (by omega) (by omega)
        refine ⟨tellA textP_t5, _, _, _, tellA_ok (allTold'_iff.1 ?_), textP_y5, dutiesTold_ok ?_⟩
        · simp only [textP_t5, F20, allTold', dutiesTold, factsA, factsC, factsP, factsR, AV.facts, RW.facts, inK, and_true, Q.holds', E.i, E.s, E.n, D.nat, E.den, BO.den, UO.den, TO.den, D.toInt_int, D.toList_list, D.ints_ofInts, i64min, i64max, u8min, u8max, u16min, u16max, u32min, u32max, u64min, u64max, i32min, i32max, Om.sub, selI, ints_app, ints_cut, ints_upd, ints_rep, ints_splice, ints_seg, len_ints]
          try simp only [← h0, ← h1, ← h2, ← h3, ← h4, r0, r1, r2, e1, e2]
          and_intros <;> first | omega | trivial
        · simp only [textP_d5, F54, F55, F56, F57, F58, F23, F24, allTold', dutiesTold, factsA, factsC, factsP, factsR, AV.facts, RW.facts, inK, and_true, Q.holds', E.i, E.s, E.n, D.nat, E.den, BO.den, UO.den, TO.den, D.toInt_int, D.toList_list, D.ints_ofInts, i64min, i64max, u8min, u8max, u16min, u16max, u32min, u32max, u64min, u64max, i32min, i32max, Om.sub, selI, ints_app, ints_cut, ints_upd, ints_rep, ints_splice, ints_seg, len_ints]
          try simp only [rdB_bad e0 k0, if_pos e0, if_neg k0, hv, ← h0, ← h1, ← h2, ← h3, ← h4, r0, r1, r2, e1, e2]
          first | done | omega | (and_intros <;> first | rfl | omega | exact cut0 _ _ | trivial)
      · exfalso
        rw [hn.2.2.2.2.2] at k0
        exact k0 rfl
      · have hv := hn.2.2.2.2.2.2
        have r0 : iopI .rem .u8 c0 128 = c0 - 128 := by rw [rem_emod _ (by omega)]; omega
        have r1 : iopI .rem .u8 c1 128 = c1 - 128 := by rw [rem_emod _ (by omega)]; omega
        have r2 : iopI .rem .u8 c2 128 = c2 - 128 := by rw [rem_emod _ (by omega)]; omega
        have r3 : iopI .rem .u8 c3 128 = c3 - 128 := by rw [rem_emod _ (by omega)]; omega
        have e1 : iopI .or .u64 (iopI .shl .u64 (c0 - 128) 7) (c1 - 128) = (c0 - 128) * 128 + (c1 - 128) := or7 (by omega) (by omega) (by omega) (by omega)
        have e2 : iopI .or .u64 (iopI .shl .u64 ((c0 - 128) * 128 + (c1 - 128)) 7) (c2 - 128) = ((c0 - 128) * 128 + (c1 - 128)) * 128 + (c2 - 128) := or7 (by omega) (by omega) (by omega) (by omega)
        have e3 : iopI .or .u64 (iopI .shl .u64 (((c0 - 128) * 128 + (c1 - 128)) * 128 + (c2 - 128)) 7) (c3 - 128) = (((c0 - 128) * 128 + (c1 - 128)) * 128 + (c2 - 128)) * 128 + (c3 - 128) := or7 (by omega) (by omega) (by omega) (by omega)
        refine ⟨tellA textP_t6, _, _, _, tellA_ok (allTold'_iff.1 ?_), textP_y6, dutiesTold_ok ?_⟩
        · simp only [textP_t6, F20, allTold', dutiesTold, factsA, factsC, factsP, factsR, AV.facts, RW.facts, inK, and_true, Q.holds', E.i, E.s, E.n, D.nat, E.den, BO.den, UO.den, TO.den, D.toInt_int, D.toList_list, D.ints_ofInts, i64min, i64max, u8min, u8max, u16min, u16max, u32min, u32max, u64min, u64max, i32min, i32max, Om.sub, selI, ints_app, ints_cut, ints_upd, ints_rep, ints_splice, ints_seg, len_ints]
          try simp only [← h0, ← h1, ← h2, ← h3, ← h4, r0, r1, r2, r3, e1, e2, e3]
          and_intros <;> first | omega | trivial
        · simp only [textP_d6, F54, F55, F56, F57, F58, F23, F24, allTold', dutiesTold, factsA, factsC, factsP, factsR, AV.facts, RW.facts, inK, and_true, Q.holds', E.i, E.s, E.n, D.nat, E.den, BO.den, UO.den, TO.den, D.toInt_int, D.toList_list, D.ints_ofInts, i64min, i64max, u8min, u8max, u16min, u16max, u32min, u32max, u64min, u64max, i32min, i32max, Om.sub, selI, ints_app, ints_cut, ints_upd, ints_rep, ints_splice, ints_seg, len_ints]
          try simp only [rdB_bad e0 k0, if_pos e0, if_neg k0, hv, ← h0, ← h1, ← h2, ← h3, ← h4, r0, r1, r2, r3, e1, e2, e3]
          first | done | omega | (and_intros <;> first | rfl | omega | exact cut0 _ _ | trivial)
      · exfalso
        rw [hn.2.2.2.2.2.2.2] at k0
        exact k0 rfl
      · have hv := hn.2.2.2.2.2.2.2
        have r0 : iopI .rem .u8 c0 128 = c0 - 128 := by rw [rem_emod _ (by omega)]; omega
        have r1 : iopI .rem .u8 c1 128 = c1 - 128 := by rw [rem_emod _ (by omega)]; omega
        have r2 : iopI .rem .u8 c2 128 = c2 - 128 := by rw [rem_emod _ (by omega)]; omega
        have r3 : iopI .rem .u8 c3 128 = c3 - 128 := by rw [rem_emod _ (by omega)]; omega
        have r4 : iopI .rem .u8 c4 128 = c4 := by rw [rem_emod _ (by omega)]; omega
        have e1 : iopI .or .u64 (iopI .shl .u64 (c0 - 128) 7) (c1 - 128) = (c0 - 128) * 128 + (c1 - 128) := or7 (by omega) (by omega) (by omega) (by omega)
        have e2 : iopI .or .u64 (iopI .shl .u64 ((c0 - 128) * 128 + (c1 - 128)) 7) (c2 - 128) = ((c0 - 128) * 128 + (c1 - 128)) * 128 + (c2 - 128) := or7 (by omega) (by omega) (by omega) (by omega)
        have e3 : iopI .or .u64 (iopI .shl .u64 (((c0 - 128) * 128 + (c1 - 128)) * 128 + (c2 - 128)) 7) (c3 - 128) = (((c0 - 128) * 128 + (c1 - 128)) * 128 + (c2 - 128)) * 128 + (c3 - 128) := or7 (by omega) (by omega) (by omega) (by omega)
        have e4 : iopI .or .u64 (iopI .shl .u64 ((((c0 - 128) * 128 + (c1 - 128)) * 128 + (c2 - 128)) * 128 + (c3 - 128)) 7) c4 = ((((c0 - 128) * 128 + (c1 - 128)) * 128 + (c2 - 128)) * 128 + (c3 - 128)) * 128 + c4 := or7 (by omega) (by omega) (by omega) (by omega)
        refine ⟨tellA textP_t8, _, _, _, tellA_ok (allTold'_iff.1 ?_), textP_y8, dutiesTold_ok ?_⟩
        · simp only [textP_t8, F20, allTold', dutiesTold, factsA, factsC, factsP, factsR, AV.facts, RW.facts, inK, and_true, Q.holds', E.i, E.s, E.n, D.nat, E.den, BO.den, UO.den, TO.den, D.toInt_int, D.toList_list, D.ints_ofInts, i64min, i64max, u8min, u8max, u16min, u16max, u32min, u32max, u64min, u64max, i32min, i32max, Om.sub, selI, ints_app, ints_cut, ints_upd, ints_rep, ints_splice, ints_seg, len_ints]
          try simp only [← h0, ← h1, ← h2, ← h3, ← h4, r0, r1, r2, r3, r4, e1, e2, e3, e4]
          and_intros <;> first | omega | trivial
        · simp only [textP_d8, F54, F55, F56, F57, F58, F23, F24, allTold', dutiesTold, factsA, factsC, factsP, factsR, AV.facts, RW.facts, inK, and_true, Q.holds', E.i, E.s, E.n, D.nat, E.den, BO.den, UO.den, TO.den, D.toInt_int, D.toList_list, D.ints_ofInts, i64min, i64max, u8min, u8max, u16min, u16max, u32min, u32max, u64min, u64max, i32min, i32max, Om.sub, selI, ints_app, ints_cut, ints_upd, ints_rep, ints_splice, ints_seg, len_ints]
          try simp only [rdB_bad e0 k0, if_pos e0, if_neg k0, hv, ← h0, ← h1, ← h2, ← h3, ← h4, r0, r1, r2, r3, r4, e1, e2, e3, e4]
          first | done | omega | (and_intros <;> first | rfl | omega | exact cut0 _ _ | trivial)
      · have hv := hn.2.2.2.2.2.2
        have r0 : iopI .rem .u8 c0 128 = c0 - 128 := by rw [rem_emod _ (by omega)]; omega
        have r1 : iopI .rem .u8 c1 128 = c1 - 128 := by rw [rem_emod _ (by omega)]; omega
        have r2 : iopI .rem .u8 c2 128 = c2 - 128 := by rw [rem_emod _ (by omega)]; omega
        have r3 : iopI .rem .u8 c3 128 = c3 - 128 := by rw [rem_emod _ (by omega)]; omega
        have r4 : iopI .rem .u8 c4 128 = c4 - 128 := by rw [rem_emod _ (by omega)]; omega
        have e1 : iopI .or .u64 (iopI .shl .u64 (c0 - 128) 7) (c1 - 128) = (c0 - 128) * 128 + (c1 - 128) := or7 (by omega) (by omega) (by omega) (by omega)
        have e2 : iopI .or .u64 (iopI .shl .u64 ((c0 - 128) * 128 + (c1 - 128)) 7) (c2 - 128) = ((c0 - 128) * 128 + (c1 - 128)) * 128 + (c2 - 128) := or7 (by omega) (by omega) (by omega) (by omega)
        have e3 : iopI .or .u64 (iopI .shl .u64 (((c0 - 128) * 128 + (c1 - 128)) * 128 + (c2 - 128)) 7) (c3 - 128) = (((c0 - 128) * 128 + (c1 - 128)) * 128 + (c2 - 128)) * 128 + (c3 - 128) := or7 (by omega) (by omega) (by omega) (by omega)
        have e4 : iopI .or .u64 (iopI .shl .u64 ((((c0 - 128) * 128 + (c1 - 128)) * 128 + (c2 - 128)) * 128 + (c3 - 128)) 7) (c4 - 128) = ((((c0 - 128) * 128 + (c1 - 128)) * 128 + (c2 - 128)) * 128 + (c3 - 128)) * 128 + (c4 - 128) := or7 (by omega) (by omega) (by omega) (by omega)
        refine ⟨tellA textP_t7, _, _, _, tellA_ok (allTold'_iff.1 ?_), textP_y7, dutiesTold_ok ?_⟩
        · simp only [textP_t7, F20, allTold', dutiesTold, factsA, factsC, factsP, factsR, AV.facts, RW.facts, inK, and_true, Q.holds', E.i, E.s, E.n, D.nat, E.den, BO.den, UO.den, TO.den, D.toInt_int, D.toList_list, D.ints_ofInts, i64min, i64max, u8min, u8max, u16min, u16max, u32min, u32max, u64min, u64max, i32min, i32max, Om.sub, selI, ints_app, ints_cut, ints_upd, ints_rep, ints_splice, ints_seg, len_ints]
          try simp only [← h0, ← h1, ← h2, ← h3, ← h4, r0, r1, r2, r3, r4, e1, e2, e3, e4]
          and_intros <;> first | omega | trivial
        · simp only [textP_d7, F54, F55, F56, F57, F58, F23, F24, allTold', dutiesTold, factsA, factsC, factsP, factsR, AV.facts, RW.facts, inK, and_true, Q.holds', E.i, E.s, E.n, D.nat, E.den, BO.den, UO.den, TO.den, D.toInt_int, D.toList_list, D.ints_ofInts, i64min, i64max, u8min, u8max, u16min, u16max, u32min, u32max, u64min, u64max, i32min, i32max, Om.sub, selI, ints_app, ints_cut, ints_upd, ints_rep, ints_splice, ints_seg, len_ints]
          try simp only [rdB_bad e0 k0, if_pos e0, if_neg k0, hv, ← h0, ← h1, ← h2, ← h3, ← h4, r0, r1, r2, r3, r4, e1, e2, e3, e4]
          first | done | omega | (and_intros <;> first | rfl | omega | exact cut0 _ _ | trivial)
  · refine ⟨tellA textP_t0, _, _, _, tellA_ok (allTold'_iff.1 ?_), textP_y0, dutiesTold_ok ?_⟩
    · simp only [textP_t0, F20, F21, F22, allTold', dutiesTold, factsA, factsC, factsP, factsR, AV.facts, RW.facts, inK, and_true, Q.holds', E.i, E.s, E.n, D.nat, E.den, BO.den, UO.den, TO.den, D.toInt_int, D.toList_list, D.ints_ofInts, i64min, i64max, u8min, u8max, u16min, u16max, u32min, u32max, u64min, u64max, i32min, i32max, Om.sub, selI, ints_app, ints_cut, ints_upd, ints_rep, ints_splice, ints_seg, len_ints]
      first | done | omega | (and_intros <;> first | omega | trivial)
    · simp only [textP_d0, F21, F22, F54, F55, F56, F57, F58, allTold', dutiesTold, factsA, factsC, factsP, factsR, AV.facts, RW.facts, inK, and_true, Q.holds', E.i, E.s, E.n, D.nat, E.den, BO.den, UO.den, TO.den, D.toInt_int, D.toList_list, D.ints_ofInts, i64min, i64max, u8min, u8max, u16min, u16max, u32min, u32max, u64min, u64max, i32min, i32max, Om.sub, selI, ints_app, ints_cut, ints_upd, ints_rep, ints_splice, ints_seg, len_ints]
      simp only [rdB_err e0]
      first | done | omega | (and_intros <;> first | rfl | omega | exact cut0 _ _ | exact cutC (by omega) (by omega) | trivial)

def idP : CSpec := { args := [.ptr 1 0], next := 2, rows := [(1, .cells 53 0 false false [.ptr 1 0, .sslice 3 (.int 0) (.var 2) (.var 3) true, .sint .i64 (.var 5), .sint .i64 (.var 9), .sint .i64 (.var 10)]), (3, .eseq ⟨.u8, .var 6, .var 4⟩)], pre := [(.le (.int 0) (.var 5), true), (.le (.var 5) (.var 2), true), (.le (.var 2) (.var 6), true), (.le (.var 2) (.var 3), true), (.le (.var 3) (.int 1000000), true)], res := .agg [.sint .u8 txRa22, .sint .u8 txRa23, .sint .u8 txRa24, .sint .u8 txRa25, .sint .u8 txRa26, .sint .u8 txRa27, .sint .u8 txRa28, .sint .u8 txRa29, .sint .u8 txRa30, .sint .u8 txRa31, .sint .u8 txRa32, .sint .u8 txRa33, .sint .u8 txRa34, .sint .u8 txRa35, .sint .u8 txRa36, .sint .u8 txRa37], frows := [(1, .cells 53 0 false false [.ptr 1 0, .sslice 3 (.int 0) (.var 2) (.var 3) true, .sint .i64 (.fn 61 (.bi .pair (.var 4) txRa17)), .sint .i64 (.fn 62 (.bi .pair (.var 4) txRa17)), .sint .i64 (.fn 63 (.bi .pair (.var 4) txRa17))])], same := [1, 3] }
def idP_t0 : List (Q × Bool) := [asRa60]
def idP_d0 : List Duty := [(true, (.int 0), txRa22), (true, (.int 0), txRa23), (true, (.int 0), txRa24), (true, (.int 0), txRa25), (true, (.int 0), txRa26), (true, (.int 0), txRa27), (true, (.int 0), txRa28), (true, (.int 0), txRa29), (true, (.int 0), txRa30), (true, (.int 0), txRa31), (true, (.int 0), txRa32), (true, (.int 0), txRa33), (true, (.int 0), txRa34), (true, (.int 0), txRa35), (true, (.int 0), txRa36), (true, (.int 0), txRa37), (true, (.var 5), (.fn 61 (.bi .pair (.var 4) txRa17))), (true, (.var 9), (.fn 62 (.bi .pair (.var 4) txRa17))), (true, (.var 10), (.fn 63 (.bi .pair (.var 4) txRa17)))]
theorem idP_y0 : endC idP [(1, 1), (3, 3)] 1000 (callC Try.prog (tellA idP_t0) [] [] [] 3000 40 18 idP) = some idP_d0 := by kernel_rfl
abbrev asRa91 : Q × Bool := ((.le (.int 16) (.bi .sub (.var 2) (.var 5))), false)
def idP_t1 : List (Q × Bool) := [asRa61, asRa0, asRa1, asRa91]
def idP_d1 : List Duty := [(true, (.int 0), txRa22), (true, (.int 0), txRa23), (true, (.int 0), txRa24), (true, (.int 0), txRa25), (true, (.int 0), txRa26), (true, (.int 0), txRa27), (true, (.int 0), txRa28), (true, (.int 0), txRa29), (true, (.int 0), txRa30), (true, (.int 0), txRa31), (true, (.int 0), txRa32), (true, (.int 0), txRa33), (true, (.int 0), txRa34), (true, (.int 0), txRa35), (true, (.int 0), txRa36), (true, (.int 0), txRa37), (true, (.var 5), (.fn 61 (.bi .pair (.var 4) txRa17))), (true, (.int 4), (.fn 62 (.bi .pair (.var 4) txRa17))), (true, (.var 2), (.fn 63 (.bi .pair (.var 4) txRa17)))]
theorem idP_y1 : endC idP [(1, 1), (3, 3)] 1000 (callC Try.prog (tellA idP_t1) [] [] [] 3000 40 18 idP) = some idP_d1 := by kernel_rfl
abbrev asRa92 : Q × Bool := ((.le (.int 16) (.bi .sub (.var 2) (.var 5))), true)
abbrev asRa93 : Q × Bool := ((.fit .i64 (.bi .add (.var 5) (.int 16))), true)
abbrev asRa94 : Q × Bool := ((.le (.var 5) (.bi .add (.var 5) (.int 16))), true)
abbrev asRa95 : Q × Bool := ((.le (.bi .add (.var 5) (.int 16)) (.var 3)), true)
abbrev asRa96 : Q × Bool := ((.le (.bi .add (.var 5) (.int 16)) (.var 6)), true)
def idP_t2 : List (Q × Bool) := [asRa61, asRa0, asRa1, asRa92, asRa93, asRa4, asRa94, asRa95, asRa96]
def idP_d2 : List Duty := [(true, (.bi .sel (.var 4) (.var 5)), txRa22), (true, txRa1, txRa23), (true, txRa3, txRa24), (true, txRa5, txRa25), (true, txRa7, txRa26), (true, (.bi .sel (.var 4) (.bi .add (.var 5) (.int 5))), txRa27), (true, (.bi .sel (.var 4) (.bi .add (.var 5) (.int 6))), txRa28), (true, (.bi .sel (.var 4) (.bi .add (.var 5) (.int 7))), txRa29), (true, (.bi .sel (.var 4) (.bi .add (.var 5) (.int 8))), txRa30), (true, (.bi .sel (.var 4) (.bi .add (.var 5) (.int 9))), txRa31), (true, (.bi .sel (.var 4) (.bi .add (.var 5) (.int 10))), txRa32), (true, (.bi .sel (.var 4) (.bi .add (.var 5) (.int 11))), txRa33), (true, (.bi .sel (.var 4) (.bi .add (.var 5) (.int 12))), txRa34), (true, (.bi .sel (.var 4) (.bi .add (.var 5) (.int 13))), txRa35), (true, (.bi .sel (.var 4) (.bi .add (.var 5) (.int 14))), txRa36), (true, (.bi .sel (.var 4) (.bi .add (.var 5) (.int 15))), txRa37), (true, (.bi .add (.var 5) (.int 16)), (.fn 61 (.bi .pair (.var 4) txRa17))), (true, (.var 9), (.fn 62 (.bi .pair (.var 4) txRa17))), (true, (.var 10), (.fn 63 (.bi .pair (.var 4) txRa17)))]
theorem idP_y2 : endC idP [(1, 1), (3, 3)] 1000 (callC Try.prog (tellA idP_t2) [] [] [] 3000 40 18 idP) = some idP_d2 := by kernel_rfl
theorem idP_holds : CHolds Try.prog 18 idP F := by
  refine cholds_of sound (tableNil _ _) (specsNil _ _) (oversNil _ _) (fuel := 3000) (depth := 40) (by kernel_rfl) fun d hp hR hA => ?_
  have hp := allTold'_iff.2 hp
  simp only [idP, allTold', dutiesTold, factsA, factsC, factsP, factsR, AV.facts, RW.facts, inK, and_true, Q.holds', E.i, E.s, E.n, D.nat, E.den, BO.den, UO.den, TO.den, D.toInt_int, D.toList_list, D.ints_ofInts, i64min, i64max, u8min, u8max, u16min, u16max, u32min, u32max, u64min, u64max, i32min, i32max, Om.sub, selI, ints_app, ints_cut, ints_upd, ints_rep, ints_splice, ints_seg, len_ints] at hp hR hA
  by_cases e0 : (d 9).toInt = 0
  · by_cases g : (d 2).toInt - (d 5).toInt < 16
    · refine ⟨tellA idP_t1, _, _, _, tellA_ok (allTold'_iff.1 ?_), idP_y1, dutiesTold_ok ?_⟩
      · simp only [idP_t1, F20, F21, F22, allTold', dutiesTold, factsA, factsC, factsP, factsR, AV.facts, RW.facts, inK, and_true, Q.holds', E.i, E.s, E.n, D.nat, E.den, BO.den, UO.den, TO.den, D.toInt_int, D.toList_list, D.ints_ofInts, i64min, i64max, u8min, u8max, u16min, u16max, u32min, u32max, u64min, u64max, i32min, i32max, Om.sub, selI, ints_app, ints_cut, ints_upd, ints_rep, ints_splice, ints_seg, len_ints]
        first | done | omega | (and_intros <;> first | omega | trivial)
      · simp only [idP_d1, F21, F22, F60, F61, F62, F63, allTold', dutiesTold, factsA, factsC, factsP, factsR, AV.facts, RW.facts, inK, and_true, Q.holds', E.i, E.s, E.n, D.nat, E.den, BO.den, UO.den, TO.den, D.toInt_int, D.toList_list, D.ints_ofInts, i64min, i64max, u8min, u8max, u16min, u16max, u32min, u32max, u64min, u64max, i32min, i32max, Om.sub, selI, ints_app, ints_cut, ints_upd, ints_rep, ints_splice, ints_seg, len_ints]
        simp only [rdI_few e0 g]
        first | done | omega | (and_intros <;> first | rfl | omega | exact cut0 _ _ | exact cutC (by omega) (by omega) | trivial)
    · refine ⟨tellA idP_t2, _, _, _, tellA_ok (allTold'_iff.1 ?_), idP_y2, dutiesTold_ok ?_⟩
      · simp only [idP_t2, F20, F21, F22, allTold', dutiesTold, factsA, factsC, factsP, factsR, AV.facts, RW.facts, inK, and_true, Q.holds', E.i, E.s, E.n, D.nat, E.den, BO.den, UO.den, TO.den, D.toInt_int, D.toList_list, D.ints_ofInts, i64min, i64max, u8min, u8max, u16min, u16max, u32min, u32max, u64min, u64max, i32min, i32max, Om.sub, selI, ints_app, ints_cut, ints_upd, ints_rep, ints_splice, ints_seg, len_ints]
        first | done | omega | (and_intros <;> first | omega | trivial)
      · simp only [idP_d2, F21, F22, F60, F61, F62, F63, allTold', dutiesTold, factsA, factsC, factsP, factsR, AV.facts, RW.facts, inK, and_true, Q.holds', E.i, E.s, E.n, D.nat, E.den, BO.den, UO.den, TO.den, D.toInt_int, D.toList_list, D.ints_ofInts, i64min, i64max, u8min, u8max, u16min, u16max, u32min, u32max, u64min, u64max, i32min, i32max, Om.sub, selI, ints_app, ints_cut, ints_upd, ints_rep, ints_splice, ints_seg, len_ints]
        simp only [rdI_ok e0 g]
        and_intros <;> first | exact cut16 _ (by omega) (by omega) (by omega) (by omega) | rfl | omega | trivial
  · refine ⟨tellA idP_t0, _, _, _, tellA_ok (allTold'_iff.1 ?_), idP_y0, dutiesTold_ok ?_⟩
    · simp only [idP_t0, F20, F21, F22, allTold', dutiesTold, factsA, factsC, factsP, factsR, AV.facts, RW.facts, inK, and_true, Q.holds', E.i, E.s, E.n, D.nat, E.den, BO.den, UO.den, TO.den, D.toInt_int, D.toList_list, D.ints_ofInts, i64min, i64max, u8min, u8max, u16min, u16max, u32min, u32max, u64min, u64max, i32min, i32max, Om.sub, selI, ints_app, ints_cut, ints_upd, ints_rep, ints_splice, ints_seg, len_ints]
      first | done | omega | (and_intros <;> first | omega | trivial)
    · simp only [idP_d0, F21, F22, F60, F61, F62, F63, allTold', dutiesTold, factsA, factsC, factsP, factsR, AV.facts, RW.facts, inK, and_true, Q.holds', E.i, E.s, E.n, D.nat, E.den, BO.den, UO.den, TO.den, D.toInt_int, D.toList_list, D.ints_ofInts, i64min, i64max, u8min, u8max, u16min, u16max, u32min, u32max, u64min, u64max, i32min, i32max, Om.sub, selI, ints_app, ints_cut, ints_upd, ints_rep, ints_splice, ints_seg, len_ints]
      simp only [rdI_err e0]
      first | done | omega | (and_intros <;> first | rfl | omega | exact cut0 _ _ | exact cutC (by omega) (by omega) | trivial)

def endP : CSpec := { args := [.ptr 1 0], next := 2, rows := [(1, .cells 53 0 false false [.ptr 1 0, .sslice 3 (.int 0) (.var 2) (.var 3) true, .sint .i64 (.var 5), .sint .i64 (.var 9), .sint .i64 (.var 10)]), (3, .eseq ⟨.u8, .var 6, .var 4⟩)], pre := [(.le (.int 0) (.var 5), true), (.le (.var 5) (.var 2), true), (.le (.var 2) (.var 6), true), (.le (.var 2) (.var 3), true), (.le (.var 3) (.int 1000000), true)], res := .agg [.sint .i64 (.fn 64 txRa17), .sint .i64 (.fn 65 txRa17)], frows := [(1, .cells 53 0 false false [.ptr 1 0, .sslice 3 (.int 0) (.var 2) (.var 3) true, .sint .i64 (.var 5), .sint .i64 (.var 9), .sint .i64 (.var 10)])], same := [1, 3] }
def endP_t0 : List (Q × Bool) := [asRa60]
def endP_d0 : List Duty := [(true, (.var 9), (.fn 64 txRa17)), (true, (.var 10), (.fn 65 txRa17))]
theorem endP_y0 : endC endP [(1, 1), (3, 3)] 1000 (callC Try.prog (tellA endP_t0) [] [] [] 3000 40 26 endP) = some endP_d0 := by kernel_rfl
abbrev asRa97 : Q × Bool := ((.le (.bi .sub (.var 2) (.var 5)) (.int 0)), false)
def endP_t1 : List (Q × Bool) := [asRa61, asRa0, asRa1, asRa97]
def endP_d1 : List Duty := [(true, (.int 4), (.fn 64 txRa17)), (true, (.var 5), (.fn 65 txRa17))]
theorem endP_y1 : endC endP [(1, 1), (3, 3)] 1000 (callC Try.prog (tellA endP_t1) [] [] [] 3000 40 26 endP) = some endP_d1 := by kernel_rfl
abbrev asRa98 : Q × Bool := ((.le (.bi .sub (.var 2) (.var 5)) (.int 0)), true)
def endP_t2 : List (Q × Bool) := [asRa61, asRa0, asRa1, asRa98]
def endP_d2 : List Duty := [(true, (.var 9), (.fn 64 txRa17)), (true, (.var 10), (.fn 65 txRa17))]
theorem endP_y2 : endC endP [(1, 1), (3, 3)] 1000 (callC Try.prog (tellA endP_t2) [] [] [] 3000 40 26 endP) = some endP_d2 := by kernel_rfl
theorem endP_holds : CHolds Try.prog 26 endP F := by
  refine cholds_of sound (tableNil _ _) (specsNil _ _) (oversNil _ _) (fuel := 3000) (depth := 40) (by kernel_rfl) fun d hp hR hA => ?_
  have hp := allTold'_iff.2 hp
  simp only [endP, allTold', dutiesTold, factsA, factsC, factsP, factsR, AV.facts, RW.facts, inK, and_true, Q.holds', E.i, E.s, E.n, D.nat, E.den, BO.den, UO.den, TO.den, D.toInt_int, D.toList_list, D.ints_ofInts, i64min, i64max, u8min, u8max, u16min, u16max, u32min, u32max, u64min, u64max, i32min, i32max, Om.sub, selI, ints_app, ints_cut, ints_upd, ints_rep, ints_splice, ints_seg, len_ints] at hp hR hA
  by_cases e0 : (d 9).toInt = 0
  · by_cases g : (d 5).toInt < (d 2).toInt
    · refine ⟨tellA endP_t1, _, _, _, tellA_ok (allTold'_iff.1 ?_), endP_y1, dutiesTold_ok ?_⟩
      · simp only [endP_t1, F20, F21, F22, allTold', dutiesTold, factsA, factsC, factsP, factsR, AV.facts, RW.facts, inK, and_true, Q.holds', E.i, E.s, E.n, D.nat, E.den, BO.den, UO.den, TO.den, D.toInt_int, D.toList_list, D.ints_ofInts, i64min, i64max, u8min, u8max, u16min, u16max, u32min, u32max, u64min, u64max, i32min, i32max, Om.sub, selI, ints_app, ints_cut, ints_upd, ints_rep, ints_splice, ints_seg, len_ints]
        first | done | omega | (and_intros <;> first | omega | trivial)
      · simp only [endP_d1, F21, F22, F64, F65, allTold', dutiesTold, factsA, factsC, factsP, factsR, AV.facts, RW.facts, inK, and_true, Q.holds', E.i, E.s, E.n, D.nat, E.den, BO.den, UO.den, TO.den, D.toInt_int, D.toList_list, D.ints_ofInts, i64min, i64max, u8min, u8max, u16min, u16max, u32min, u32max, u64min, u64max, i32min, i32max, Om.sub, selI, ints_app, ints_cut, ints_upd, ints_rep, ints_splice, ints_seg, len_ints]
        simp only [rdE_more e0 g]
        first | done | omega | (and_intros <;> first | rfl | omega | exact cut0 _ _ | exact cutC (by omega) (by omega) | trivial)
    · refine ⟨tellA endP_t2, _, _, _, tellA_ok (allTold'_iff.1 ?_), endP_y2, dutiesTold_ok ?_⟩
      · simp only [endP_t2, F20, F21, F22, allTold', dutiesTold, factsA, factsC, factsP, factsR, AV.facts, RW.facts, inK, and_true, Q.holds', E.i, E.s, E.n, D.nat, E.den, BO.den, UO.den, TO.den, D.toInt_int, D.toList_list, D.ints_ofInts, i64min, i64max, u8min, u8max, u16min, u16max, u32min, u32max, u64min, u64max, i32min, i32max, Om.sub, selI, ints_app, ints_cut, ints_upd, ints_rep, ints_splice, ints_seg, len_ints]
        first | done | omega | (and_intros <;> first | omega | trivial)
      · simp only [endP_d2, F21, F22, F64, F65, allTold', dutiesTold, factsA, factsC, factsP, factsR, AV.facts, RW.facts, inK, and_true, Q.holds', E.i, E.s, E.n, D.nat, E.den, BO.den, UO.den, TO.den, D.toInt_int, D.toList_list, D.ints_ofInts, i64min, i64max, u8min, u8max, u16min, u16max, u32min, u32max, u64min, u64max, i32min, i32max, Om.sub, selI, ints_app, ints_cut, ints_upd, ints_rep, ints_splice, ints_seg, len_ints]
        simp only [rdE_ok e0 g]
        first | done | omega | (and_intros <;> first | rfl | omega | exact cut0 _ _ | exact cutC (by omega) (by omega) | trivial)
  · refine ⟨tellA endP_t0, _, _, _, tellA_ok (allTold'_iff.1 ?_), endP_y0, dutiesTold_ok ?_⟩
    · simp only [endP_t0, F20, F21, F22, allTold', dutiesTold, factsA, factsC, factsP, factsR, AV.facts, RW.facts, inK, and_true, Q.holds', E.i, E.s, E.n, D.nat, E.den, BO.den, UO.den, TO.den, D.toInt_int, D.toList_list, D.ints_ofInts, i64min, i64max, u8min, u8max, u16min, u16max, u32min, u32max, u64min, u64max, i32min, i32max, Om.sub, selI, ints_app, ints_cut, ints_upd, ints_rep, ints_splice, ints_seg, len_ints]
      first | done | omega | (and_intros <;> first | omega | trivial)
    · simp only [endP_d0, F21, F22, F64, F65, allTold', dutiesTold, factsA, factsC, factsP, factsR, AV.facts, RW.facts, inK, and_true, Q.holds', E.i, E.s, E.n, D.nat, E.den, BO.den, UO.den, TO.den, D.toInt_int, D.toList_list, D.ints_ofInts, i64min, i64max, u8min, u8max, u16min, u16max, u32min, u32max, u64min, u64max, i32min, i32max, Om.sub, selI, ints_app, ints_cut, ints_upd, ints_rep, ints_splice, ints_seg, len_ints]
      simp only [rdE_err e0]
      first | done | omega | (and_intros <;> first | rfl | omega | exact cut0 _ _ | exact cutC (by omega) (by omega) | trivial)

def tabB : List LEntry := []
def specsB : List (FuncId × CSpec) := []
def oversB : Overs := []
theorem tabB_ok : TableOK Try.prog tabB F := tableNil _ _
theorem specsB_ok : SpecsOK Try.prog specsB F := specsNil _ _
theorem oversB_ok : OversOK Try.prog oversB F := oversNil _ _
end Go.Proofs.Ytdldnaecfhaofaa.Ra
